import Derived.Test.YtcbhdhmhidpdgaaGreatPackO
import Derived.Test.YtcbhdhmhidpdgaaGreatPackG
namespace Go.Proofs.YtcbhdhmhidpdgaaGreat
open Go.RowKit
set_option linter.unusedVariables false
set_option linter.unusedSimpArgs false
set_option maxRecDepth 100000
theorem QA6{p:Prop}(h:p:=by
 go_upto_region 21 with fail
 refine zd 7 Z fun w2 Z Aa=>?_
 refine la 0 ?_
 refine la 3 ?_
 refine zF 4 3 hb Aa ?_
 refine z1 (zK 1 Z fun g w3 Z Aa R=>?_)
 refine z1 (zR 2 Z (dS A6 A6 R) A6 fun v4 w4 Z Aa _=>?_)
 try simp only[nrm]
 refine z1 (zR 5 Z (r3 Aa.2) hp fun v5 w5 Z Aa _=>?_)
 try simp only[nrm]
 refine z1 (zS 6 Z fun v6 w6 Z Aa _=>?_)
 try simp only[nrm]
 refine zE ?_
 go_wp2_with fail
 go_loopw [0,5] (fun b i wr=>∃j:Nat,j<=nk/\i=.int .i64 j/\Zg w0 w L.length base (fun x=>Blk x gx 147 [.int .i64 6,.int .i64 n,.slice a2 nm c2,.slice a3 nn c3,.slice a4 nk c4]) (L.length+(nm+nn+18)+(50*aG ((exs ks).take j)+48*j)) wr b) (fun _ i _=>nk-(intOf i).toNat)
 case atStart=>exact⟨0,zD1 _,rfl,Z.mono A0⟩
 case round=>
  obtain⟨j,hj,rfl,Z⟩:=hrel
  have q4:=Z.k 4
  by_cases Ad:j<nk
  .
   obtain⟨b4,o4,x,u0,u1,u2,u3,u4,rfl,hS,Ih,hv,hc,ht⟩:=aB2 h4 S Ax (j:=j) (by rw[HK.out];exact Ad)
   by_cases hj0:j=0
   .
    subst hj0
    simp only[Nat.zero_mul,zG1]at hc
    clear q4
    have q4:=Z.k 4
    obtain⟨d0,d1,d2,d3,d4⟩:=aIl hc Z.sb.2
    go_wp2_with fail
    refine(Z.say Av hS Ih hv A0).mono ?_
    rintro e w3 ⟨v3,rfl,Z,_⟩
    clear q4 d0 d1 d2 d3 d4
    go_wp2
    go_roundw
    case rel=>exact⟨0+1,by omega,by go_num,Z.mono A0⟩
    case measure=>simp[intOf];omega
   .
    have h9:(0:Int)<j:=A0
    go_wp2_with (at_builtin;refine zl Z ?_)
    intro v8 w8 Z
    clear q4
    have q4:=Z.k 4
    obtain⟨d0,d1,d2,d3,d4⟩:=aIl hc Z.sb.2
    go_wp2_with fail
    refine(Z.say Av hS Ih hv A0).mono ?_
    rintro e w3 ⟨v3,rfl,Z,_⟩
    clear q4 d0 d1 d2 d3 d4
    go_wp2
    go_roundw
    case rel=>exact⟨j+1,by omega,by go_num,Z.mono A0⟩
    case measure=>simp[intOf];omega
  .
   have ht:=bP (exs ks) j
   have:nk=j:=A0
   subst this
   go_wp2_with (at_builtin;refine zl Z fun v8 w8 Z=>?_)
   go_wp2
   go_ret
   exact(Z.mono A0).out):p:=h
theorem QA10{p:Prop}(h:p:=by
 refine z1 (zR 8 Z (dS A6 A6 R) A6 fun v6 w6 Z Aa _=>?_)
 try simp only[nrm]
 refine zE ?_
 have q1:=Z.k 1
 go_wp2_with fail
 refine(aL5 n hsix _).mono ?_
 rintro e w7 ⟨⟨so,rfl,Fe⟩,hgo⟩
 replace Z:=Z.grown hgo
 have Yn:so.size<=1:=by rw[<-mT,Fe];exact zJ n
 clear q1 Fe hgo
 go_wp2_with (at_builtin;refine zl Z (ht:=by omega) ?_)
 intro v8 w8 Z
 have q4:=Z.k 4
 obtain⟨d0,d1,d2,d3,d4⟩:=aIl Dg Z.sb.2
 simp only[Nat.add_assoc,Nat.reduceAdd]at d1 d2 d3 d4
 go_wp2_with fail
 refine(Z.say Av Np hoy Xh A0).mono ?_
 rintro e w9 ⟨v9,rfl,Z,_⟩
 clear q4 d0 d1 d2 d3 d4
 go_wp2_with (at_builtin;refine zl Z fun v10 w10 Z=>?_)
 go_wp2
 go_ret
 exact(Z.mono A0).out):p:=h
theorem QA30{p:Prop}(h:p:=by
 go_wp2
 go_ret
 exact(Z.mono A0).out):p:=h
variable{N base n0:Nat}{v:Value}{w w0:World}
def aJc (x:Ex):Prop:=∀(w0 w:World) (vs:List Value) (base:Nat) (L:List Int) (v:Value),aL w0 x.fl vs->Below w0.heap.size w0 w->w0.heap.size<=base->base<=w.heap.size->Own w base v L.length L->uI x=true->2<=L.length->L.length+(50*aP x.fl+40)<=1000000000 →
 Calls Tryz.prog 121 #[v,agg vs] w (Zp base (50*aP x.fl+40) L w)
theorem gN{l:List Int}{g:Bool}(h:aO l g=true):0<l.length:=by
 cases l with
 | nil=>cases g <;> simp[aO]at h| cons x l=>simp
theorem nA (n:Int):0<(nU n).length:=by
 unfold nU Lib.itoa;rw[zB2];have h:∀u,0<(Lib.decDigits u).length:=fun u=>by rw[Lib.decDigits];split <;> simp
 split
 .
  simp
 .
  exact h _
theorem aUc (n:Int)(h0:-9223372036854775808<n)(h1:n<=9223372036854775807)(w:World):Calls Tryz.prog 111 #[.int .i64 n] w fun e w'=>∃v,e=.returned v/\Own w' w.heap.size v (nU n).length (nU n)/\w.grownBy w' none:=dig n h0 h1 w
theorem aJ4{k n:Int}{mod name:List Int}{nk:Nat}(h:iF k n mod name nk=true):dA k<=nk/\(nk:Int)<=iT k:=by
 unfold iF inB at h;simp only[zC0,zE3]at h;exact h.1.2.1.2
theorem aGw{α:Type}{l:List α}(h:l.length=5):∃a b c d e,l=[a,b,c,d,e]:=by
 match l,h with
 | [a,b,c,d,e],_=>exact⟨a,b,c,d,e,rfl⟩
theorem aB2{a4:Option Addr}{c4:Nat}{ks:List Ex}(h:aX w0 a4 c4 5 (exs ks))(S:∀x ∈ ks,aJc x)(hk:jW ks=true){j:Nat}(hj:j<ks.length):
  ∃b o x u0 u1 u2 u3 u4,a4=some ⟨b,o,none⟩/\aJc x/\uI x=true/\aL w0 x.fl [u0,u1,u2,u3,u4]/\(∀i u,[u0,u1,u2,u3,u4][i]?=some u->w0.cell? ⟨b,o+j*5+i,none⟩=some u)/\aG ((exs ks).take j)+aP x.fl<=aG ((exs ks).take (j+1))/\aG ((exs ks).take (j+1))<=aG (exs ks):=by
 obtain⟨b,o,rfl⟩:=h.addr (by simp[aY];omega);have hx:ks[j]?=some ks[j]:=zA0 hj;have hm:=zA3 hx;have Bc:(exs ks)[j]?=some (ks[j]).fl:=by rw[aY,zA2,hx];rfl
 obtain⟨us,hv,hc⟩:=(h.el Bc).vals;obtain⟨u0,u1,u2,u3,u4,rfl⟩:=aGw (hv.len.trans (eQ _));rw[pA,zF3]at hk;exact⟨b,o,_,u0,u1,u2,u3,u4,rfl,S _ hm,hk _ hm,hv,hc,Nat.le_of_eq (dQ Bc).symm,bP _ _⟩
theorem aJc.on{x:Ex}{us:List Value}(S:aJc x)(Gv:2<=n0)(hok:uI x=true)(hr:aL w0 x.fl us)(hN:N+(50*aP x.fl+40)<=1000000000):
  ∀M:List Int,Own w base v M.length M->base<=w.heap.size->Below w0.heap.size w0 w->w0.heap.size<=base->M.length<=N->n0<=M.length->Calls Tryz.prog 121 #[v,.agg us.toArray] w (Zp base (50*aP x.fl+40) M w):=
 fun M hO hl hb h0 hm hn=>S w0 w us base M v hr hb h0 hl hO hok A0 A0
theorem Zg.say{ws:World}{B:World->Prop}(z:Zg w0 ws n0 base B N w v)(hn:2<=n0){x:Ex}{us:List Value}(S:aJc x)(hok:uI x=true)(hr:aL w0 x.fl us)(hN:N+(50*aP x.fl+40)<=1000000000):
  Calls Tryz.prog 121 #[v,.agg us.toArray] w fun e w'=>∃v',e=.returned v'/\Zg w0 ws n0 base B (N+(50*aP x.fl+40)) w' v'/\Wr n0 base w w':=z.call (S.on hn hok hr hN)
set_option maxHeartbeats 8000000 in
theorem aVt (k n:Int)(mod name:List Int)(ks:List Ex)(S:∀x ∈ ks,aJc x):aJc (.mk k n mod name ks):=by
 intro w0 w vs base L v hr hb h0 Ci ho hok Av Bg;obtain⟨Tm,Ax⟩:=zN hok;have hl:aP (Ex.fl (.mk k n mod name ks))=mod.length+(name.length+(ks.length+aG (exs ks))):=by simp[Ex.fl,aP,Fl.len,aY]
 rw[hl]at Bg ⊢;unfold Ex.fl at hr;obtain⟨y0,_,rfl,rfl,y1,_,rfl,rfl,y2,_,rfl,⟨a2,c2,rfl,h2,Do,_⟩,y3,_,rfl,⟨a3,c3,rfl,h3,Hq,_⟩,y4,_,rfl,Qh,rfl⟩:=hr;obtain⟨a4,c4,rfl,h4⟩:=Qh.list;clear Qh hl hok;have Ds:(exs ks).length=ks.length:=by simp[aY]
 have Kq:ks.length<=9223372036854775807:=by have h5:=h4.cap;have h6:=h4.most;unfold maxLen at h6;omega
 rw[Ds];simp only[agg];have Hm:eF k=true->0<name.length:=fun h=>gN (aHk Tm h);have Cj:0<=k/\k<=7:=by
  have:=Tm;unfold iF inB at this;simp only[zC0,zE3]at this;exact this.1.1
 obtain⟨R,hR⟩:=zx (50*(mod.length+(name.length+(ks.length+aG (exs ks))))+40);rw[<-hR]at Bg ⊢;obtain⟨nk,hnk⟩:=zx (ks.length);obtain⟨nn,Jb⟩:=zx (name.length);obtain⟨nm,hnm2⟩:=zx (mod.length);have hRn:50*nm+50*nn+50*nk+50*aG (exs ks)+40<=R:=A0;clear hR;rw[<-hnk]at Kq ⊢;rw[<-Jb]at h3 Hq Hm ⊢;rw[<-hnm2]at h2 Do ⊢;have HK:=hid hnk.symm;have HM:=hid hnm2.symm;clear hnk Jb hnm2 Ds;have x0:=Blk.new w 147 [.int .i64 k,.int .i64 n,.slice a2 nm c2,.slice a3 nn c3,.slice a4 nk c4];have Z:Zg w0 w L.length base (fun x=>Blk x w.heap.size 147 [.int .i64 k,.int .i64 n,.slice a2 nm c2,.slice a3 nn c3,.slice a4 nk c4]) L.length (w.alloc (.cells #[.int .i64 k,.int .i64 n,.slice a2 nm c2,.slice a3 nn c3,.slice a4 nk c4] 147 (0,0))) v:=
  ⟨L,⟨ho.alloc _,x0,kY A6,Wr.of (aE w _ none),zB0 _,hb.alloc hb.size _,by simp;omega,h0⟩,zB0 _⟩
 have q0:=x0.k 0;have q2:=x0.k 2;have r3:=fun {y:World} (h:Below w0.heap.size w0 y)=>aV.below h3 h;clear x0 ho hb;have k8:k=0\/k=1\/k=2\/k=3\/k=4\/k=5\/k=6\/k=7:=A0;go_enter Tryz.func121,Tryz.ntmps121;go_upto_region 1 with fail;obtain⟨gx,Au⟩:=zx (w.heap.size);rw[<-Au]at q0 q2 Z ⊢;generalize w.alloc (.cells #[.int .i64 k,.int .i64 n,.slice a2 nm c2,.slice a3 nn c3,.slice a4 nk c4] 147 (0,0))=w1 at *;have hb:∀y:World,Blk y gx 147 [.int .i64 k,.int .i64 n,.slice a2 nm c2,.slice a3 nn c3,.slice a4 nk c4]->Blk y gx 147 [.int .i64 k,.int .i64 n,.slice a2 nm c2,.slice a3 nn c3,.slice a4 nk c4]:=fun _ h=>h;clear Au;rcases k8 with rfl|rfl|rfl|rfl|rfl|rfl|rfl|rfl
 .
  have Gv:-2147483648<=n/\n<=2147483647:=by simp[iF,inB,gD,dM]at Tm;omega
  have hd:=lL (n:=n) A0 A0;go_upto_region 3 with fail;refine zd 7 Z fun w2 Z Aa=>?_;refine la 0 ?_;refine la 3 ?_;refine zF 4 1 hb Aa ?_;refine z1 (zK 1 Z fun g w3 Z Aa R=>?_);refine z1 (zR 2 Z (dS A6 A6 R) A6 fun v4 w4 Z Aa _=>?_);try simp only[nrm]
  refine z1 (zD 5 Z (aUc n A0 A0 _) (nA n) fun ad cd w5 Z Aa R=>?_);try simp only[nrm]
  refine z1 (zR 6 Z R (nA n) fun v6 w6 Z Aa _=>?_);try simp only[nrm]
  refine zE ?_;exact QA30
 .
  have hp:=Hm A6;go_upto_region 5 with fail;refine zd 6 Z fun w2 Z Aa=>?_;refine la 0 ?_;refine la 3 ?_;refine zF 4 3 hb Aa ?_;refine z1 (zK 1 Z fun g w3 Z Aa R=>?_);refine z1 (zR 2 Z (dS A6 A6 R) A6 fun v4 w4 Z Aa _=>?_);try simp only[nrm]
  refine z1 (zR 5 Z (r3 Aa.2) hp fun v5 w5 Z Aa _=>?_);try simp only[nrm]
  refine zE ?_;exact QA30
 .
  have hp:=Hm A6;obtain⟨l0,l1⟩:=aJ4 Tm;obtain⟨b4,o4,x,u0,u1,u2,u3,u4,e4,hS,hok,hv,hc,ht⟩:=aB2 h4 S Ax (j:=0) (by simp[dA]at l0;omega);subst e4;obtain rfl:nk=1:=by have:=HK.out;simp[dA]at l0;simp[iT]at l1;omega
  simp only[Nat.zero_mul,zG1]at hc;go_upto_region 7 with fail;refine zd 7 Z fun w2 Z Aa=>?_;refine la 0 ?_;refine la 3 ?_;refine zF 4 3 hb Aa ?_;refine z1 (zK 1 Z fun g w3 Z Aa R=>?_);refine z1 (zR 2 Z (dS A6 A6 R) A6 fun v4 w4 Z Aa _=>?_);try simp only[nrm]
  refine z1 (zR 5 Z (r3 Aa.2) hp fun v5 w5 Z Aa _=>?_);try simp only[nrm]
  refine z1 (zS 6 Z fun v6 w6 Z Aa _=>?_);try simp only[nrm]
  refine zE ?_;have q4:=Z.k 4;obtain⟨d0,d1,d2,d3,d4⟩:=aIl hc Aa.2;go_wp2_with fail;refine(Z.say Av hS hok hv A0).mono ?_;rintro e w7 ⟨v7,rfl,Z,_⟩;clear q4 d0 d1 d2 d3 d4;go_wp2_with (at_builtin;refine zl Z fun v8 w8 Z=>?_);exact QA30
 .
  have hsix:=aS1 Tm;obtain⟨l0,l1⟩:=aJ4 Tm;simp[dA]at l0;obtain⟨b4,o4,x,u0,u1,u2,u3,u4,rfl,hS,Ih,hv,hc,ht⟩:=aB2 h4 S Ax (j:=0) A0;obtain⟨_,_,y,t0,t1,t2,t3,t4,e9,Np,hoy,Xh,Dg,Yp⟩:=aB2 h4 S Ax (j:=1) A0;cases e9;obtain rfl:nk=2:=by have:=HK.out;simp[iT]at l1;omega
  simp only[Nat.zero_mul,zG1,Nat.one_mul,zJ1]at hc Dg ht Yp;go_upto_region 10 with fail;clear q0 q2;refine zd 9 Z fun w2 Z Aa=>?_;refine la 0 ?_;refine la 2 ?_;refine zF 3 4 hb Aa ?_;refine la 4 ?_;refine zM 5 hc Aa ?_;refine z2 (zS 1 Z fun v3 w3 Z Aa _=>?_) (zK 7 Z fun g w3 Z Aa R=>?_)
  .
   try simp only[nrm]
   refine z2 (zC 6 Z (hS.on Av Ih hv A0) fun v4 w4 Z Aa _=>?_) (zK 7 Z fun g w4 Z Aa R=>?_)
   .
    try simp only[nrm]
    refine z1 (zK 7 Z fun g w5 Z Aa R=>?_);exact QA10
   .
    refine z1 (zC 6 Z (hS.on Av Ih hv A0) fun v4 w5 Z Aa W=>?_);replace R:=W.keep R;exact QA10
  .
   refine z1 (zS 1 Z fun v3 w4 Z Aa V=>?_);try simp only[nrm]
   refine z1 (zC 6 Z (hS.on Av Ih hv A0) fun v4 w5 Z Aa W=>?_);try simp only[nrm]
   replace R:=W.keep (V.keep R);exact QA10
 .
  go_wp2_with (at_builtin;refine zl Z fun v8 w8 Z=>?_);exact QA30
 .
  have hp:=Hm A6;go_upto_region 16 with fail;refine zd 5 Z fun w2 Z Aa=>?_;refine la 0 ?_;refine la 2 ?_;refine zF 3 3 hb Aa ?_;refine z1 (zS 1 Z fun v4 w4 Z Aa _=>?_);try simp only[nrm]
  refine z1 (zR 4 Z (r3 Aa.2) hp fun v5 w5 Z Aa _=>?_);try simp only[nrm]
  refine zE ?_;exact QA30
 .
  have hp:=Hm A6;by_cases hm:(0:Int)<nm
  .
   have Ew:0<nm:=A0;go_upto_region 20 with fail;refine zd 7 Z fun w2 Z Aa=>?_;refine la 0 ?_;refine la 3 ?_;refine zF 4 2 hb Aa ?_;refine z1 (zK 1 Z fun g w3 Z Aa R=>?_);refine z1 (zR 2 Z (dS A6 A6 R) A6 fun v4 w4 Z Aa _=>?_);try simp only[nrm]
   refine z1 (zR 5 Z (aV.below h2 Aa.2) Ew fun v5 w5 Z Aa _=>?_);try simp only[nrm]
   refine z1 (zS 6 Z fun v6 w6 Z Aa _=>?_);try simp only[nrm]
   refine zE ?_;exact QA6
  .
   exact QA6
 .
  have hp:=Hm A6;go_upto_region 18 with fail;refine zd 5 Z fun w2 Z Aa=>?_;refine la 0 ?_;refine la 2 ?_;refine zF 3 3 hb Aa ?_;refine z1 (zS 1 Z fun v4 w4 Z Aa _=>?_);try simp only[nrm]
  refine z1 (zR 4 Z (r3 Aa.2) hp fun v5 w5 Z Aa _=>?_);try simp only[nrm]
  refine zE ?_;exact QA30
mutual
theorem aGx:∀x:Ex,aJc x
 | .mk k n m a ks=>aVt k n m a ks (aOo ks)
theorem aOo:∀l:List Ex,∀x ∈ l,aJc x
 | [],x,h=>by cases h
 | y :: l,x,h=>by
  rcases zG3.1 h with e|h
  .
   rw[e];exact aGx y
  .
   exact aOo l x h
end
end Go.Proofs.YtcbhdhmhidpdgaaGreat
