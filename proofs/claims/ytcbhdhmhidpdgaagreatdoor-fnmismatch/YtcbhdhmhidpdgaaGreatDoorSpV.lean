import Derived.Test.YtcbhdhmhidpdgaaGreatDoorPackO
namespace Go.Proofs.YtcbhdhmhidpdgaaGreatDoor
open Go.RowKit
set_option linter.unusedVariables false
set_option linter.unusedSimpArgs false
set_option maxRecDepth 100000
theorem A37{p:Prop}(h:p:=by have:=HK.out.1;omega):p:=h
theorem QA9{p:Prop}(h:p:=by
 go_wp2_with (at_builtin;refine zl Z ?_)
 intro v9 w9 Z
 go_wp2
 go_roundw
 case rel=>exact⟨j+1,by omega,by go_num,(Z.with trivial fun _ _ _ _=>trivial).mono A0⟩
 case measure=>simp[intOf];omega):p:=h
def vL (l:List St):Prop:=∀(w0 w:World) (a:Option Addr) (c base:Nat) (L:List Int) (v:Value),aW w0 a c 6 (sts l)->Below w0.heap.size w0 w->w0.heap.size<=base->base<=w.heap.size->Own w base v L.length L->iP l=true->2<=L.length->L.length+(200*aG (sts l)+120*l.length)<=1000000000 →
 Calls Tryz.prog 171 #[v,.slice a l.length c] w (Zp base (200*aG (sts l)+120*l.length) L w)
theorem Zg.sayB {w0 ws w:World}{n0 base N:Nat}{B:World->Prop}{v:Value}(z:Zg w0 ws n0 base B N w v)(hn:2<=n0){l:List St}{nl:Nat}(S:Hid (vL l/\l.length=nl))(Dh:iP l=true){a:Option Addr}{c:Nat}(hr:aW w0 a c 6 (sts l))(hN:N+(200*aG (sts l)+120*nl)<=1000000000):
  Calls Tryz.prog 171 #[v,.slice a nl c] w fun e w'=>∃v',e=.returned v'/\Zg w0 ws n0 base B (N+(200*aG (sts l)+120*nl)) w' v'/\Wr n0 base w w':=by
 obtain⟨S9,rfl⟩:=S.out;exact z.call fun M hO hl hb h0 hm hn=>S9 w0 w a c base M v hr hb h0 hl hO Dh A0 A0
set_option maxHeartbeats 16000000 in
theorem aKi (l:List St)(H:∀k n name ks bs es,St.mk k n name ks bs es ∈ l->vL bs/\vL es):vL l:=by
 intro w0 w a c base L v hr hb h0 Ce ho Dh Av Bg;have Fw:(sts l).length=l.length:=by simp[bA]
 have Df:l.length<=9223372036854775807:=by have h7:=hr.cap;have h6:=hr.most;unfold maxLen at h6;omega
 obtain⟨nl,Kh⟩:=zx (l.length);rw[<-Kh]at Fw Df Bg ⊢;have Wy:=hid Kh.symm;have HLN:=hid Fw;rw[oP,zF3]at Dh;have Z:Zg w0 w L.length base (fun _=>True) L.length w v:=⟨L,⟨ho,trivial,fun _ _ _ _=>trivial,Wr.refl _ _ _,zB0 _,hb,Ce,h0⟩,zB0 _⟩
 clear ho hb Kh Fw;go_enter Tryz.func171,Tryz.ntmps171;go_wp2_with fail;go_loopw [0,5,6] (fun b i _ wr=>∃j:Nat,j<=nl/\i=.int .i64 j/\Zg w0 w L.length base (fun _=>True) (L.length+(200*aG ((sts l).take j)+120*j)) wr b) (fun _ i _ _=>nl-(intOf i).toNat)
 case atStart=>exact⟨0,zD1 _,rfl,Z.mono A0⟩
 case round=>
  obtain⟨j,hj,rfl,Z⟩:=hrel;by_cases Ad:j<nl
  .
   obtain⟨b3,o3,rfl⟩:=hr.addr (by rw[HLN.out];omega);obtain⟨x,hx⟩:∃x,l[j]?=some x:=⟨l[j]'(by rw[Wy.out];exact Ad),zA0 _⟩
   have Bc:(sts l)[j]?=some x.fl:=by rw[bA,zA2,hx];rfl
   obtain⟨us,Ak,Ab⟩:=(hr.el Bc).vals;have hm:=zA3 hx;have hokx:=Dh x hm;have Gy:=Nat.le_of_eq (dO Bc).symm;have Kh:=bL (sts l) (j+1);obtain⟨k,n,name,ks,bs,es⟩:=x;obtain⟨HB,HE⟩:=H k n name ks bs es hm;obtain⟨Ql,Ay,hokb,hoke⟩:=qJ hokx;have Pt:aO (St.mk k n name ks bs es).fl=name.length+(ks.length+aG (exs ks))+(bs.length+aG (sts bs))+(es.length+aG (sts es)):=by simp[St.fl,aO,Fl.len,aX,bA] <;> omega
   rw[Pt]at Gy;unfold St.fl at Ak;obtain⟨y0,_,rfl,rfl,y1,_,rfl,rfl,y2,_,rfl,⟨a2,c2,rfl,h2,Dl,_⟩,y3,_,rfl,h3',y4,_,rfl,Ps,y5,_,rfl,h5',rfl⟩:=Ak;obtain⟨a3,c3,rfl,h3⟩:=h3'.list;obtain⟨a4,c4,rfl,h4⟩:=Ps.list;obtain⟨a5,c5,rfl,h5⟩:=h5'.list;obtain⟨Ah,Jg,hk7,hn0,Df⟩:=yK Ql;rw[show(exs ks).length=ks.length by simp[aX],show(sts bs).length=bs.length by simp[bA],show(sts es).length=es.length by simp[bA]]at Ab;obtain⟨nn,Iv⟩:=zx (name.length);obtain⟨nk,hnk⟩:=zx (ks.length);obtain⟨nb,Ba⟩:=zx (bs.length);obtain⟨ne,Ae⟩:=zx (es.length);rw[<-Iv,<-hnk,<-Ba,<-Ae]at Ab Gy;rw[<-Iv]at h2;replace HB:Hid (vL bs/\bs.length=nb):=⟨HB,Ba.symm⟩
   replace HE:Hid (vL es/\es.length=ne):=⟨HE,Ae.symm⟩
   have HK:Hid (ks.length=nk/\name.length=nn):=⟨hnk.symm,Iv.symm⟩
   have t0:wr.cell? ⟨b3,o3+j*6,none⟩=some (.int .i64 k):=aB (Ab 0 _ rfl) Z.sb.2;have t1:wr.cell? ⟨b3,o3+j*6+1,none⟩=some (.int .i64 n):=aB (Ab 1 _ rfl) Z.sb.2;have t2:wr.cell? ⟨b3,o3+j*6+2,none⟩=some (.slice a2 nn c2):=aB (Ab 2 _ rfl) Z.sb.2;have t3:wr.cell? ⟨b3,o3+j*6+3,none⟩=some (.slice a3 nk c3):=aB (Ab 3 _ rfl) Z.sb.2;have t4:wr.cell? ⟨b3,o3+j*6+4,none⟩=some (.slice a4 nb c4):=aB (Ab 4 _ rfl) Z.sb.2;have t5:wr.cell? ⟨b3,o3+j*6+5,none⟩=some (.slice a5 ne c5):=aB (Ab 5 _ rfl) Z.sb.2;have k8:k=0\/k=1\/k=2\/k=3\/k=4\/k=5\/k=6\/k=7:=A0;clear Ab Iv hnk Ba Ae Bc hx h3' Ps h5' hokx Pt Jg hk7;have x0:=Blk.new wr 179 [.int .i64 k,.int .i64 n,.slice a2 nn c2,.slice a3 nk c3,.slice a4 nb c4,.slice a5 ne c5];replace Z:=(Z.grown (aE wr (.cells #[.int .i64 k,.int .i64 n,.slice a2 nn c2,.slice a3 nk c3,.slice a4 nb c4,.slice a5 ne c5] 179 (0,0)) none)).with (C:=fun x=>Blk x wr.heap.size 179 [.int .i64 k,.int .i64 n,.slice a2 nn c2,.slice a3 nk c3,.slice a4 nb c4,.slice a5 ne c5]) x0 (kM A6)
   have q0:=x0.k 0;clear x0;go_upto_region 5 with fail;generalize wr.alloc (.cells #[.int .i64 k,.int .i64 n,.slice a2 nn c2,.slice a3 nk c3,.slice a4 nb c4,.slice a5 ne c5] 179 (0,0))=w1 at *;generalize wr.heap.size=gx at *;clear t0 t1 t2 t3 t4 t5;rcases k8 with rfl|rfl|rfl|rfl|rfl|rfl|rfl|rfl
   .
    simp[cD,cS]at Ah Df;have hp:0<nn:=by rw[<-HK.out.2];exact gH (tF Ql A6)
    obtain⟨b4,o4,x,u0,u1,u2,u3,u4,rfl,hS,Ib,hv,hc,ht⟩:=aBq h3 (fun x _=>aGd x) Ay (j:=0) A37;simp only[Nat.zero_mul,zG1,zJ0]at hc ht;obtain rfl:nk=1:=by have:=HK.out.1;omega
    go_upto_region 8 with fail;clear q0;refine zd 10 Z fun w2 Z Aa=>?_;refine la 0 ?_;refine la 1 ?_;refine zF 2 2 (fun _ h=>h) Aa ?_;refine la 5 ?_;refine zF 6 3 (fun _ h=>h) Aa ?_;refine la 7 ?_;refine zM 8 hc Aa ?_;try simp only[nrm]
    refine z1 (zR 3 Z (aV.below h2 Aa.2) hp fun v3 w3 Z Aa _=>?_);try simp only[nrm]
    refine z1 (zS 4 Z fun v4 w4 Z Aa _=>?_);try simp only[nrm]
    refine z1 (zC 9 Z (hS.on Av Ib hv A0) fun v5 w5 Z Aa _=>?_);try simp only[nrm]
    refine zE ?_;exact QA9
   .
    simp[cD,cS]at Ah Df;have hp:0<nn:=by rw[<-HK.out.2];exact gH (tF Ql A6)
    obtain⟨b4,o4,x,u0,u1,u2,u3,u4,rfl,hS,Ib,hv,hc,ht⟩:=aBq h3 (fun x _=>aGd x) Ay (j:=0) A37;obtain⟨_,_,y,t0,t1,t2,t3,t4,e9,Nf,hoy,Wg,Dc,Xr⟩:=aBq h3 (fun x _=>aGd x) Ay (j:=1) A37;cases e9;simp only[Nat.zero_mul,zG1,zJ0,Nat.one_mul]at hc ht Dc Xr;obtain rfl:nk=2:=by have:=HK.out.1;omega
    go_upto_region 10 with fail;clear q0;refine zd 11 Z fun w2 Z Aa=>?_;refine la 0 ?_;refine la 1 ?_;refine zF 2 2 (fun _ h=>h) Aa ?_;refine la 5 ?_;refine zF 6 3 (fun _ h=>h) Aa ?_;refine la 7 ?_;refine zM 8 hc Aa ?_;try simp only[nrm]
    refine z1 (zR 3 Z (aV.below h2 Aa.2) hp fun v3 w3 Z Aa _=>?_);try simp only[nrm]
    refine z1 (zS 4 Z fun v4 w4 Z Aa _=>?_);try simp only[nrm]
    refine z1 (zC 9 Z (hS.on Av Ib hv A0) fun v5 w5 Z Aa _=>?_);try simp only[nrm]
    refine z1 (zS 10 Z fun v6 w6 Z Aa _=>?_);try simp only[nrm]
    refine zE ?_;have q4:=Z.k 3;obtain⟨d0,d1,d2,d3,d4⟩:=aH1 Dc Z.sb.2;simp only[Nat.add_assoc,Nat.reduceAdd]at d1 d2 d3 d4;go_wp2_with fail;refine(Z.say Av Nf hoy Wg A0).mono ?_;rintro e w8 ⟨v8,rfl,Z,_⟩;clear q4 d0 d1 d2 d3 d4;exact QA9
   .
    simp[cD,cS]at Ah Df;obtain⟨b4,o4,x,u0,u1,u2,u3,u4,rfl,hS,Ib,hv,hc,ht⟩:=aBq h3 (fun x _=>aGd x) Ay (j:=0) A37;simp only[Nat.zero_mul,zG1,zJ0]at hc ht;obtain rfl:nk=1:=by have:=HK.out.1;omega
    go_upto_region 13 with fail;clear q0;refine zd 8 Z fun w2 Z Aa=>?_;refine la 0 ?_;refine la 2 ?_;refine zF 3 3 (fun _ h=>h) Aa ?_;refine la 4 ?_;refine zM 5 hc Aa ?_;refine z1 (zS 1 Z fun v3 w3 Z Aa _=>?_);try simp only[nrm]
    refine z1 (zC 6 Z (hS.on Av Ib hv A0) fun v4 w4 Z Aa _=>?_);try simp only[nrm]
    refine z1 (zS 7 Z fun v5 w5 Z Aa _=>?_);try simp only[nrm]
    refine zE ?_;have q4:=Z.k 4;go_wp2_with fail;refine(Z.sayB Av HB hokb h4 A0).mono ?_;rintro e w6 ⟨v6,rfl,Z,_⟩;clear q4;go_wp2_with (at_builtin;refine zl Z ?_);intro v7 w7 Z;have q4:=Z.k 5;go_wp2_with fail;refine(Z.sayB Av HE hoke h5 A0).mono ?_;rintro e w6 ⟨v6,rfl,Z,_⟩;clear q4;go_wp2_with (at_builtin;refine zl Z ?_);intro v7 w7 Z;exact QA9
   .
    simp[cD,cS]at Ah Df;obtain⟨b4,o4,x,u0,u1,u2,u3,u4,rfl,hS,Ib,hv,hc,ht⟩:=aBq h3 (fun x _=>aGd x) Ay (j:=0) A37;simp only[Nat.zero_mul,zG1,zJ0]at hc ht;obtain rfl:nk=1:=by have:=HK.out.1;omega
    go_upto_region 17 with fail;clear q0;refine zd 8 Z fun w2 Z Aa=>?_;refine la 0 ?_;refine la 2 ?_;refine zF 3 3 (fun _ h=>h) Aa ?_;refine la 4 ?_;refine zM 5 hc Aa ?_;refine z1 (zS 1 Z fun v3 w3 Z Aa _=>?_);try simp only[nrm]
    refine z1 (zC 6 Z (hS.on Av Ib hv A0) fun v4 w4 Z Aa _=>?_);try simp only[nrm]
    refine z1 (zS 7 Z fun v5 w5 Z Aa _=>?_);try simp only[nrm]
    refine zE ?_;have q4:=Z.k 4;go_wp2_with fail;refine(Z.sayB Av HB hokb h4 A0).mono ?_;rintro e w6 ⟨v6,rfl,Z,_⟩;clear q4;go_wp2_with (at_builtin;refine zl Z ?_);intro v7 w7 Z;exact QA9
   .
    simp[cD,cS]at Ah Df;obtain⟨b4,o4,x,u0,u1,u2,u3,u4,rfl,hS,Ib,hv,hc,ht⟩:=aBq h3 (fun x _=>aGd x) Ay (j:=0) A37;simp only[Nat.zero_mul,zG1,zJ0]at hc ht;obtain rfl:nk=1:=by have:=HK.out.1;omega
    go_upto_region 20 with fail;clear q0;refine zd 7 Z fun w2 Z Aa=>?_;refine la 0 ?_;refine la 2 ?_;refine zF 3 3 (fun _ h=>h) Aa ?_;refine la 4 ?_;refine zM 5 hc Aa ?_;refine z1 (zS 1 Z fun v3 w3 Z Aa _=>?_);try simp only[nrm]
    refine z1 (zC 6 Z (hS.on Av Ib hv A0) fun v4 w4 Z Aa _=>?_);try simp only[nrm]
    refine zE ?_;exact QA9
   .
    simp[cD,cS]at Ah Df;obtain⟨b4,o4,x,u0,u1,u2,u3,u4,rfl,hS,Ib,hv,hc,ht⟩:=aBq h3 (fun x _=>aGd x) Ay (j:=0) A37;simp only[Nat.zero_mul,zG1,zJ0]at hc ht;obtain rfl:nk=1:=by have:=HK.out.1;omega
    go_upto_region 22 with fail;clear q0;refine zd 7 Z fun w2 Z Aa=>?_;refine la 0 ?_;refine la 2 ?_;refine zF 3 3 (fun _ h=>h) Aa ?_;refine la 4 ?_;refine zM 5 hc Aa ?_;refine z1 (zS 1 Z fun v3 w3 Z Aa _=>?_);try simp only[nrm]
    refine z1 (zC 6 Z (hS.on Av Ib hv A0) fun v4 w4 Z Aa _=>?_);try simp only[nrm]
    refine zE ?_;exact QA9
   .
    simp[cD,cS]at Ah Df;have hd:=lD (n:=n) A0 A0;obtain rfl:nk=0:=by have:=HK.out.1;rw[Ah]at this;exact this.symm
    go_upto_region 24 with fail;clear q0;refine zd 6 Z fun w2 Z Aa=>?_;refine la 0 ?_;refine la 2 ?_;refine zF 3 1 (fun _ h=>h) Aa ?_;refine z1 (zS 1 Z fun v3 w3 Z Aa _=>?_);try simp only[nrm]
    refine z1 (zD 4 Z (aTa n A0 A0 _) (mR n) fun ad cd w5 Z Aa R=>?_);try simp only[nrm]
    refine z1 (zR 5 Z R (mR n) fun v6 w6 Z Aa _=>?_);try simp only[nrm]
    refine zE ?_;exact QA9
   .
    simp[cD,cS]at Ah Df;obtain⟨b4,o4,x,u0,u1,u2,u3,u4,rfl,hS,Ib,hv,hc,ht⟩:=aBq h3 (fun x _=>aGd x) Ay (j:=0) A37;simp only[Nat.zero_mul,zG1,zJ0]at hc ht;obtain rfl:nk=1:=by have:=HK.out.1;omega
    go_upto_region 6 with fail;clear q0;refine zd 7 Z fun w2 Z Aa=>?_;refine la 0 ?_;refine la 2 ?_;refine zF 3 3 (fun _ h=>h) Aa ?_;refine la 4 ?_;refine zM 5 hc Aa ?_;refine z1 (zS 1 Z fun v3 w3 Z Aa _=>?_);try simp only[nrm]
    refine z1 (zC 6 Z (hS.on Av Ib hv A0) fun v4 w4 Z Aa _=>?_);try simp only[nrm]
    refine zE ?_;exact QA9
  .
   have:nl=j:=A0;subst this;have ht:=bL (sts l) nl;exact QA30
mutual
theorem aUn:∀x:St,∀k n name ks bs es,x=St.mk k n name ks bs es->vL bs/\vL es
 | .mk _ _ _ _ b e,_,_,_,_,_,_,h=>by
  cases h;exact⟨aKi b (aQo b),aKi e (aQo e)⟩
theorem aQo:∀l:List St,∀k n name ks bs es,St.mk k n name ks bs es ∈ l->vL bs/\vL es
 | [],_,_,_,_,_,_,h=>by cases h
 | y :: l,k,n,name,ks,bs,es,h=>by
  rcases zG3.1 h with e|h
  .
   exact aUn y k n name ks bs es e.symm
  .
   exact aQo l k n name ks bs es h
end
theorem aUm (l:List St):vL l:=aKi l (aQo l)
end Go.Proofs.YtcbhdhmhidpdgaaGreatDoor
