import Derived.Test.YtcbhdhmhidpdgaaGreatDoorPackD
import Derived.Test.YtcbhdhmhidpdgaaGreatDoorPackL
import Derived.Test.YtcbhdhmhidpdgaaGreatDoorSpP
import Derived.Test.YtcbhdhmhidpdgaaGreatDoorPackG
namespace Go.Proofs.YtcbhdhmhidpdgaaGreatDoor
open Go.RowKit
set_option linter.unusedVariables false
set_option linter.unusedSimpArgs false
set_option maxRecDepth 100000
set_option maxHeartbeats 16000000
theorem aNr {α:Type}{l:List α}(h:l.length=6):∃a b c d e f,l=[a,b,c,d,e,f]:=by
 match l,h with
 | [a,b,c,d,e,f],_=>exact⟨a,b,c,d,e,f,rfl⟩
set_option maxHeartbeats 40000000 in
theorem aCv (l:List St)(S:∀x ∈ l,aQy x):aIq l:=by
 intro w0 w a c g left d h hb hg hL Gh Wj Yf hd1 hs;have Fw:(sts l).length=l.length:=by simp[bA]
 have h9:l.length<=9223372036854775807:=by have h7:=h.cap;have h6:=h.most;unfold maxLen at h6;omega
 obtain⟨n,hn⟩:=zx (l.length);rw[<-hn]at h9 Fw ⊢;have HN:=hid hn.symm;clear hn;have Ea:Hid (Lft w g (left-(aK (l.take 0):Int))):=by show Lft _ _ _;simpa [aK] using hL
 have HB:=hid hb;have HR:=hid h;clear hb hL h;go_enter Tryz.func169,Tryz.ntmps169;go_wp2_with fail;go_loopw [7] (fun i wr=>∃j:Nat,j<=n/\i=.int .i64 j/\Hid (w.grownBy wr (some g))/\Hid (Lft wr g (left-(aK (l.take j):Int)))/\Hid ((aK (l.take j):Int)<=left)/\Hid (∀i x,i<j->l[i]?=some x->aY x d (left-(aK (l.take i):Int))=true)) (fun i _=>n-(intOf i).toNat)
 case atStart=>exact⟨0,zD1 _,rfl,aP _ _,Ea,by show(_:Int)<=_;simp[aK];omega,by show ∀_ _,_;omega⟩
 case round=>
  obtain⟨j,hj,rfl,Al,Cs,Ej,Ao⟩:=hrel;clear Ea;have hb:=bW HB.out Al.out hg;by_cases Ad:j<n
  .
   obtain⟨b3,o3,rfl⟩:=aW.addr HR.out (by rw[Fw];omega);obtain⟨x,hx⟩:∃x,l[j]?=some x:=⟨l[j]'(by rw[HN.out];exact Ad),zA0 _⟩
   have Bc:(sts l)[j]?=some x.fl:=by rw[bA,zA2,hx];rfl
   obtain⟨us,Ak,Ab⟩:=(aW.el HR.out Bc).vals;obtain⟨u0,u1,u2,u3,u4,u5,rfl⟩:=aNr (Ak.len.trans (aKd x));replace Ab:∀i v,_->_:=fun i v hv=>aB (Ab i v hv) hb;have t0:wr.cell? ⟨b3,o3+j*6,none⟩=some u0:=Ab 0 _ rfl;have t1:wr.cell? ⟨b3,o3+j*6+1,none⟩=some u1:=Ab 1 _ rfl;have t2:wr.cell? ⟨b3,o3+j*6+2,none⟩=some u2:=Ab 2 _ rfl;have t3:wr.cell? ⟨b3,o3+j*6+3,none⟩=some u3:=Ab 3 _ rfl;have t4:wr.cell? ⟨b3,o3+j*6+4,none⟩=some u4:=Ab 4 _ rfl;have t5:wr.cell? ⟨b3,o3+j*6+5,none⟩=some u5:=Ab 5 _ rfl;have Cd:=zF2 (bZ (zA3 Bc)) hs;have HC:=S x (zA3 hx) w0 wr [u0,u1,u2,u3,u4,u5] g (left-(aK (l.take j):Int)) d Ak hb hg Cs.out A22 A0 Yf hd1 Cd;simp only[agg]at HC;have HJ:=hid hx;have Dn:=hid (eT hx);clear Ab hx Bc Cd Ak;generalize hsp:aY x d (left-(aK (l.take j):Int))=rr at *;have Cm:=hid hsp;clear hsp;go_wp2_with fail;refine M926 ?_;intro w4 Af Bd;refine M948 ?_;intro Dg Ds;clear HC t0 t1 t2 t3 t4 t5 hb Af Bd;cases rr
   .
    have he:=hid (aEm HJ.out Cm.out);go_wp2;go_ret;rw[he.out];exact⟨rfl,Dg.out,by simp⟩
   .
    have Ce:=aH2 Cm.out;have Ey:Hid (Lft w4 g (left-(aK (l.take (j+1)):Int))):=by
     have:=Ds.out rfl;rw[show left-(aK (l.take j):Int)-(gD x:Int)=left-(aK (l.take (j+1)):Int) by rw[Dn.out];omega]at this;exact this
    go_wp2;go_roundw
    case rel=>exact⟨j+1,by omega,by go_num,Dg,Ey,A9,(show ∀i x,i<j+1->_ from fun i y hi hy=>(zJ1 i j).elim (fun h=>Ao.out i y h hy) (fun h=>by
     obtain rfl:i=j:=A0;rw[HJ.out]at hy;cases hy;exact Cm.out))⟩
    case measure=>simp[intOf];omega
  .
   have:j=n:=A0;subst this;have Hm:Hid (cI l d left=true):=aB2 (fun i y hy=>Ao.out i y (by have:=(zC1.1 hy).1;rw[HN.out]at this;exact this) hy) Gh;have Da:=Cs.out;rw[zD3 (by rw[HN.out];exact zB0 _)]at Da;go_wp2;go_ret;rw[Hm.out];exact⟨rfl,Al.out,fun _=>Da⟩
mutual
theorem aRk:∀x:St,aQy x
 | .mk k n m ks bs es=>aRl k n m ks bs es (aCw ks) (aCv bs (aF8 bs)) (aCv es (aF8 es))
theorem aF8:∀(l:List St),∀x ∈ l,aQy x
 | [],x,h=>by simp at h
 | y :: l,x,h=>by
  rcases zG3.1 h with h|h
  .
   rw[h];exact aRk y
  .
   exact aF8 l x h
end
theorem aNp (l:List St):aIq l:=aCv l (aF8 l)
section
variable{x:List Int}{m:Mo}{j:Nat}{q:Pr}{v:Va}
theorem mF{α:Type}{l:List α}{f:α->Bool}{x:α}(h:l[j]?=some x)(hx:f x=false):l.all f=false:=by
 rw[List.all_eq_false];exact⟨x,zA3 h,by simp[hx]⟩
theorem mE{α:Type}{l:List α}{f:α->Bool}(h:∀(j:Nat) (x:α),l[j]?=some x->f x=true):l.all f=true:=by
 rw[zF3];intro x hx;obtain⟨j,hj⟩:=List.getElem?_of_mem hx;exact h j x hj
theorem xG(h:aN m.name true=false):cH m=false:=by unfold cH;rw[h];rfl
theorem xF(h:6<m.uses.length):cH m=false:=by unfold cH;rw[zC2 (by omega:¬m.uses.length<=6)];simp
theorem xE(h:8<m.vars.length):cH m=false:=by unfold cH;rw[zC2 (by omega:¬m.vars.length<=8)];simp
theorem uS(h:8<m.procs.length):cH m=false:=by unfold cH;rw[zC2 (by omega:¬m.procs.length<=8)];simp
theorem aB1(h:m.uses[j]?=some x)(hx:aN x true=false):cH m=false:=by unfold cH;rw[mF h (f:=sC) hx];simp
theorem mU{x:Va}(h:m.vars[j]?=some x)(hx:yA x=false):cH m=false:=by unfold cH;rw[mF h hx];simp
theorem gL{x:Pr}(h:m.procs[j]?=some x)(hx:pZ x=false):cH m=false:=by unfold cH;rw[mF h hx];simp
theorem xH{x:Pr}(h:m.procs[j]?=some x)(hx:cI x.body 1 (250-(gG (m.procs.take j):Int))=false):cH m=false:=by
 have:pK m.procs 250=false:=by
  unfold pK;rw[List.all_eq_false];exact⟨j,by simpa using (zC1.1 h).1,by rw[h];simpa using hx⟩
 unfold cH;rw[this];simp
theorem aB0(h0:aN m.name true=true)(h1:m.uses.length<=6)(h2:m.vars.length<=8)(h3:m.procs.length<=8)(g1:∀(j:Nat) (x:List Int),m.uses[j]?=some x->aN x true=true)(g2:∀(j:Nat) (x:Va),m.vars[j]?=some x->yA x=true)(g3:∀(j:Nat) (x:Pr),m.procs[j]?=some x->cI x.body 1 (250-(gG (m.procs.take j):Int))=true/\pZ x=true):cH m=true:=by
 have h7:pK m.procs 250=true:=by
  unfold pK;rw[zF3];intro j hj;have Gs:j<m.procs.length:=by simpa using hj
  have hx:=zA0 Gs;rw[hx];exact(g3 j _ hx).1
 unfold cH;rw[h0,zB3 h1,zB3 h2,zB3 h3,mE (f:=sC) g1,mE g2,mE (f:=pZ) fun j x hx=>(g3 j x hx).2,h7];rfl
theorem aCn(h:aN v.name false=false):yA v=false:=by unfold yA;rw[h];rfl
theorem sZ(h:v.size<0\/20<v.size):yA v=false:=by
 unfold yA inB;rw[zH3];right;simp;omega
theorem aFw(h:aN v.name false=true)(h0:0<=v.size)(h1:v.size<=20):yA v=true:=by
 unfold yA inB;rw[h];simp;omega
theorem aEb(h:aN q.name false=false):pZ q=false:=by unfold pZ;rw[h];rfl
theorem wW(h:4<q.params.length):pZ q=false:=by unfold pZ;rw[zC2 (by omega:¬q.params.length<=4)];simp
theorem wX(h:8<q.locals.length):pZ q=false:=by unfold pZ;rw[zC2 (by omega:¬q.locals.length<=8)];simp
theorem aBx{x:Pa}(h:q.params[j]?=some x)(hx:aN x.name false=false):pZ q=false:=by unfold pZ;rw[mF h (f:=aRz) hx];simp
theorem aBy(h:q.locals[j]?=some x)(hx:aN x false=false):pZ q=false:=by unfold pZ;rw[mF h (f:=vR) hx];simp
theorem aHt(h0:aN q.name false=true)(h1:q.params.length<=4)(h2:q.locals.length<=8)(g1:∀(j:Nat) (x:Pa),q.params[j]?=some x->aN x.name false=true)(g2:∀(j:Nat) (x:List Int),q.locals[j]?=some x->aN x false=true):pZ q=true:=by
 unfold pZ;rw[h0,zB3 h1,zB3 h2,mE (f:=aRz) g1,mE (f:=vR) g2];rfl
end
theorem QA71{p:Prop}(h:p:=by
 go_wp2
 go_ret
 exact⟨aF he.out.symm,HY.out⟩):p:=h
theorem QA77{p:Prop}(h:p:=by
 go_wp2
 go_ret
 exact⟨aF he.out.symm,yy⟩):p:=h
theorem QA86{p:Prop}(h:p:=by
 go_wp2
 go_ret
 exact⟨aF he.out.symm,aM Jd.out none⟩):p:=h
theorem QA87{p:Prop}(h:p:=by
 go_wp2
 go_ret
 exact⟨aF he.out.symm,aM Bn.out none⟩):p:=h
set_option maxHeartbeats 40000000 in
theorem aNo (m:Mo)(vs:List Value)(w:World)(hr:aL w m.fl vs)(hs:aO m.fl<=1048576):
  Calls Tryz.prog 144 #[agg vs] w fun e w'=>e=.returned (.bool (cH m))/\w.grownBy w' none:=by
 have Pt:aO m.fl=m.name.length+((dI m.uses).length+aG (dI m.uses))+((m.vars.map Va.fl).length+aG (m.vars.map Va.fl))+((m.procs.map Pr.fl).length+aG (m.procs.map Pr.fl)):=by simp[Mo.fl,aO,Fl.len] <;> omega
 rw[Pt]at hs;have hs0:m.name.length<=1048576:=A0;have Xu:aG (dI m.uses)<=1048576:=A0;have De:aG (m.vars.map Va.fl)<=1048576:=A0;have Mr:aG (m.procs.map Pr.fl)<=1048576:=A0;clear hs Pt;unfold Mo.fl at hr;obtain⟨y0,_,rfl,⟨a0,c0,rfl,h0,Iq,_⟩,y1,_,rfl,Kp,y2,_,rfl,Wv,y3,_,rfl,h3',rfl⟩:=hr;obtain⟨a1,c1,rfl,h1⟩:=Kp.list;obtain⟨a2,c2,rfl,h2⟩:=Wv.list;obtain⟨a3,c3,rfl,h3⟩:=h3'.list;clear Kp Wv h3';have k1:(dI m.uses).length=m.uses.length:=by simp[dI]
 have k2:(m.vars.map Va.fl).length=m.vars.length:=by simp
 have k3:(m.procs.map Pr.fl).length=m.procs.length:=by simp
 have m1:m.uses.length<=9223372036854775807:=by have h7:=h1.cap;have h6:=h1.most;unfold maxLen at h6;omega
 have m2:m.vars.length<=9223372036854775807:=by have h7:=h2.cap;have h6:=h2.most;unfold maxLen at h6;omega
 have m3:m.procs.length<=9223372036854775807:=by have h7:=h3.cap;have h6:=h3.most;unfold maxLen at h6;omega
 rw[k1,k2,k3];simp only[agg];obtain⟨n0,e0⟩:=zx (m.name.length);obtain⟨n1,e1⟩:=zx (m.uses.length);obtain⟨n2,e2⟩:=zx (m.vars.length);obtain⟨n3,e3⟩:=zx (m.procs.length);rw[<-e0]at h0 hs0 Iq ⊢;rw[<-e1]at k1 m1 ⊢;rw[<-e2]at k2 m2 ⊢;rw[<-e3]at k3 m3 ⊢;have E1:=hid e1.symm;have E2:=hid e2.symm;have E3:=hid e3.symm;clear e0 e1 e2 e3;have yy:=aE w (.cells #[.slice a0 n0 c0,.slice a1 n1 c1,.slice a2 n2 c2,.slice a3 n3 c3] 86 (0,0)) none;have x0:=Blk.new w 86 [.slice a0 n0 c0,.slice a1 n1 c1,.slice a2 n2 c2,.slice a3 n3 c3];have HN:=aQ a0 _ c0 m.name true _ (h0.below (aA yy)) A0;have H1:=hid h1;have H2:=hid h2;have H3:=hid h3;clear h0 h1 h2 h3 Iq;go_enter Tryz.func144,Tryz.ntmps144;go_upto_region 1 with fail;generalize w.alloc (.cells #[.slice a0 n0 c0,.slice a1 n1 c1,.slice a2 n2 c2,.slice a3 n3 c3] 86 (0,0))=w1 at *;obtain⟨gx,Ar⟩:=zx (w.heap.size);rw[<-Ar]at x0 ⊢;have HGX:=hid Ar;clear Ar;obtain⟨q0,q1,q2,q3⟩:=x0.c4;generalize Ai:aN m.name true=ok at HN;have HNO:=hid Ai;clear Ai;go_wp2_with fail;refine HN.mono ?_;rintro e w1 ⟨rfl,rfl⟩;clear HN;cases ok
 .
  have he:=hid (xG HNO.out);exact QA77
 by_cases l1:(6:Int)<(n1:Int)
 .
  have he:Hid (cH m=false):=xF (by rw[E1.out];omega);exact QA77
 by_cases l2:(8:Int)<(n2:Int)
 .
  have he:Hid (cH m=false):=xE (by rw[E2.out];omega);exact QA77
 by_cases l3:(8:Int)<(n3:Int)
 .
  have he:Hid (cH m=false):=uS (by rw[E3.out];omega);exact QA77
 go_wp2_with fail;have Ga:=hid x0;have HY:=hid yy;clear q0 q1 q2 q3 x0 yy;go_loopw [3] (fun i wr=>wr=w1/\∃j:Nat,j<=n1/\i=.int .i64 j/\Hid (∀(i:Nat) (x:List Int),i<j->m.uses[i]?=some x->aN x true=true)) (fun i _=>n1-(intOf i).toNat)
 case atStart=>exact⟨rfl,0,zD1 _,rfl,by show ∀_ _,_;omega⟩
 case round=>
  obtain⟨rfl,j,hj,rfl,Ao⟩:=hrel;have q1:=Blk.cell Ga.out (i:=1) rfl;by_cases Ad:j<n1
  .
   obtain⟨b,o,rfl⟩:=aW.addr H1.out (by rw[k1];omega);obtain⟨x,hx⟩:∃x,m.uses[j]?=some x:=⟨m.uses[j]'(by rw[E1.out];exact Ad),zA0 _⟩
   have Bc:(dI m.uses)[j]?=some [.b x]:=by unfold dI;rw[zA2,hx];rfl
   obtain⟨us,Ak,Ab⟩:=((aW.below H1.out (aA HY.out)).el Bc).vals;obtain⟨y0,_,rfl,⟨ax,cx,rfl,Cb,_⟩,rfl⟩:=Ak;have t0:wr.cell? ⟨b,o+j*1,none⟩=some (.slice ax x.length cx):=Ab 0 _ rfl;have Cd:=zF2 (bZ (zA3 Bc)) Xu;have HC:=aQ ax x.length cx x true wr Cb (by simp[aO,Fl.len]at Cd;omega);have HJ:=hid hx;clear Ab hx Bc Cd Cb;generalize Ai:aN x true=ok at HC;have Yn:=hid Ai;clear Ai;generalize x.length=nx at *;simp only[Nat.mul_one]at t0;go_wp2_with fail;refine HC.mono ?_;rintro e wr ⟨rfl,rfl⟩;clear HC;cases ok
   .
    have he:=hid (aB1 HJ.out Yn.out);exact QA71
   .
    go_wp2;go_roundw
    case rel=>exact⟨trivial,j+1,by omega,by go_num,(show ∀(i:Nat) (x:List Int),i<j+1->_ from fun i y hi hy=>(zJ1 i j).elim (fun h=>Ao.out i y h hy) (fun h=>by
     obtain rfl:i=j:=A0;rw[HJ.out]at hy;cases hy;exact Yn.out))⟩
    case measure=>simp[intOf];omega
  .
   have:n1=j:=A0;subst this;have HU:Hid (∀(i:Nat) (x:List Int),m.uses[i]?=some x->aN x true=true):=fun i y hy=>Ao.out i y (by have:=(zC1.1 hy).1;rw[E1.out]at this;exact this) hy;clear Ao;go_wp2_with fail;clear q1;go_loopw [4] (fun i wr'=>wr'=wr/\∃j:Nat,j<=n2/\i=.int .i64 j/\Hid (∀(i:Nat) (x:Va),i<j->m.vars[i]?=some x->yA x=true)) (fun i _=>n2-(intOf i).toNat)
   case atStart=>exact⟨rfl,0,zD1 _,rfl,by show ∀_ _,_;omega⟩
   case round=>
    obtain⟨rfl,j,hj,rfl,Ao⟩:=hrel;have q2:=Blk.cell Ga.out (i:=2) rfl;by_cases Ad:j<n2
    .
     obtain⟨b,o,rfl⟩:=aW.addr H2.out (by rw[k2];omega);obtain⟨x,hx⟩:∃x,m.vars[j]?=some x:=⟨m.vars[j]'(by rw[E2.out];exact Ad),zA0 _⟩
     have Bc:(m.vars.map Va.fl)[j]?=some x.fl:=by rw[zA2,hx];rfl
     obtain⟨us,Ak,Ab⟩:=((aW.below H2.out (aA HY.out)).el Bc).vals;obtain⟨y0,_,rfl,⟨ax,cx,rfl,Cb,_⟩,y1,_,rfl,rfl,rfl⟩:=Ak;have t0:wr.cell? ⟨b,o+j*2,none⟩=some (.slice ax x.name.length cx):=Ab 0 _ rfl;have t1:wr.cell? ⟨b,o+j*2+1,none⟩=some (.int .i64 x.size):=Ab 1 _ rfl;have Cd:=zF2 (bZ (zA3 Bc)) De;have HC:=aQ ax x.name.length cx x.name false wr Cb (by simp[Va.fl,aO,Fl.len]at Cd;omega);have HJ:=hid hx;clear Ab hx Bc Cd Cb;generalize Ai:aN x.name false=ok at HC;have Yn:=hid Ai;clear Ai;generalize x.name.length=nx at *;obtain⟨sz,Bg⟩:=zx (x.size);rw[<-Bg]at t1;have HSZ:=hid Bg.symm;clear Bg;go_wp2_with fail;refine HC.mono ?_;rintro e wr ⟨rfl,rfl⟩;clear HC;cases ok
     .
      have he:=hid (mU HJ.out (aCn Yn.out));exact QA71
     by_cases z0:sz<0
     .
      have he:Hid (cH m=false):=mU HJ.out (sZ (.inl (by rw[HSZ.out];exact z0)));exact QA71
     by_cases z1:20<sz
     .
      have he:Hid (cH m=false):=mU HJ.out (sZ (.inr (by rw[HSZ.out];exact z1)));exact QA71
     have HV:Hid (yA x=true):=aFw Yn.out (by rw[HSZ.out];omega) (by rw[HSZ.out];omega);go_wp2;go_roundw
     case rel=>exact⟨trivial,j+1,by omega,by go_num,(show ∀(i:Nat) (x:Va),i<j+1->_ from fun i y hi hy=>(zJ1 i j).elim (fun h=>Ao.out i y h hy) (fun h=>by
      obtain rfl:i=j:=A0;rw[HJ.out]at hy;cases hy;exact HV.out))⟩
     case measure=>simp[intOf];omega
    .
     have:n2=j:=A0;subst this;have HVA:Hid (∀(i:Nat) (x:Va),m.vars[i]?=some x->yA x=true):=fun i y hy=>Ao.out i y (by have:=(zC1.1 hy).1;rw[E2.out]at this;exact this) hy;clear Ao;have hL:Lft (wr.alloc (.cells #[.int .i64 250] 3 (0,0))) wr.heap.size 250:=Blk.new wr 3 [.int .i64 250];have hb:Below w.heap.size w (wr.alloc (.cells #[.int .i64 250] 3 (0,0))):=(aA HY.out).alloc HY.out.size _;have Ar:gx ≠ wr.heap.size:=by have:=Blk.lt Ga.out;omega
     have x0:=Blk.old Ga.out (o:=.cells #[.int .i64 250] 3 (0,0));have hwg:w.heap.size<=wr.heap.size:=HY.out.size;go_upto_region 14 with fail;generalize wr.alloc (.cells #[.int .i64 250] 3 (0,0))=w2 at *;generalize wr.heap.size=g at *;have HXP:=hid x0;have HB:Hid (Below w.heap.size w w2):=hb;have HL:Hid (Lft w2 g (250-(gG (m.procs.take 0):Int))):=by show Lft _ _ _;simpa [gG] using hL
     clear Ga HY x0 hb hL q2;go_wp2_with fail;go_loopw [6,7,8,9] (fun i _ _ _ wr=>∃j:Nat,j<=n3/\i=.int .i64 j/\Hid (w2.grownBy wr (some g))/\Hid (Lft wr g (250-(gG (m.procs.take j):Int)))/\Hid ((gG (m.procs.take j):Int)<=250)/\Hid (∀(i:Nat) (x:Pr),i<j->m.procs[i]?=some x->cI x.body 1 (250-(gG (m.procs.take i):Int))=true/\pZ x=true)) (fun i _ _ _ _=>n3-(intOf i).toNat)
     case atStart=>exact⟨0,zD1 _,rfl,aP _ _,HL,by show(_:Int)<=_;simp[gG],by show ∀_ _,_;omega⟩
     case round=>
      obtain⟨j,hj,rfl,Al,Cs,Ej,Ao⟩:=hrel;clear HL;have q3:=(Blk.grown HXP.out Al.out Ar).k 3;have hb:=bW HB.out Al.out hwg;by_cases Ad:j<n3
      .
       obtain⟨b,o,rfl⟩:=aW.addr H3.out (by rw[k3];omega);obtain⟨x,hx⟩:∃x,m.procs[j]?=some x:=⟨m.procs[j]'(by rw[E3.out];exact Ad),zA0 _⟩
       have Bc:(m.procs.map Pr.fl)[j]?=some x.fl:=by rw[zA2,hx];rfl
       have Cd:=zF2 (bZ (zA3 Bc)) Mr;have Pt:aO x.fl=x.name.length+((x.params.map Pa.fl).length+aG (x.params.map Pa.fl))+((dI x.locals).length+aG (dI x.locals))+((sts x.body).length+aG (sts x.body)):=by simp[Pr.fl,aO,Fl.len] <;> omega
       rw[Pt]at Cd;have s0:x.name.length<=1048576:=A0;have s2:aG (x.params.map Pa.fl)<=1048576:=A0;have s3:aG (dI x.locals)<=1048576:=A0;have s4:aG (sts x.body)<=1048576:=A0;clear Cd Pt;obtain⟨us,Ak,Ab⟩:=(aW.el H3.out Bc).vals;replace Ab:∀i v,_->_:=fun i v hv=>aB (Ab i v hv) hb;unfold Pr.fl at Ak;obtain⟨y0,_,rfl,⟨p0,d0,rfl,g0,_⟩,y1,_,rfl,rfl,y2,_,rfl,g2',y3,_,rfl,g3',y4,_,rfl,g4',rfl⟩:=Ak;obtain⟨p2,d2,rfl,g2⟩:=g2'.list;obtain⟨p3,d3,rfl,g3⟩:=g3'.list;obtain⟨p4,d4,rfl,g4⟩:=g4'.list;clear g2' g3' g4';have j2:(x.params.map Pa.fl).length=x.params.length:=by simp
       have j3:(dI x.locals).length=x.locals.length:=by simp[dI]
       have j4:(sts x.body).length=x.body.length:=by simp[bA]
       have b2:x.params.length<=9223372036854775807:=by have h7:=g2.cap;have h6:=g2.most;unfold maxLen at h6;omega
       have b3:x.locals.length<=9223372036854775807:=by have h7:=g3.cap;have h6:=g3.most;unfold maxLen at h6;omega
       rw[j2,j3,j4]at Ab;generalize x.opn=bo at Ab;have t0:wr.cell? ⟨b,o+j*5,none⟩=some (.slice p0 x.name.length d0):=Ab 0 _ rfl;have t1:wr.cell? ⟨b,o+j*5+1,none⟩=some (.bool bo):=Ab 1 _ rfl;have t2:wr.cell? ⟨b,o+j*5+2,none⟩=some (.slice p2 x.params.length d2):=Ab 2 _ rfl;have t3:wr.cell? ⟨b,o+j*5+3,none⟩=some (.slice p3 x.locals.length d3):=Ab 3 _ rfl;have t4:wr.cell? ⟨b,o+j*5+4,none⟩=some (.slice p4 x.body.length d4):=Ab 4 _ rfl;have HJ:=hid hx;clear Ab hx Bc;obtain⟨v0,f0⟩:=zx (x.name.length);obtain⟨v2,f2⟩:=zx (x.params.length);obtain⟨v3,f3⟩:=zx (x.locals.length);obtain⟨v4,f4⟩:=zx (x.body.length);rw[<-f0]at t0 s0 g0;rw[<-f2]at t2 j2 b2;rw[<-f3]at t3 j3 b3;rw[<-f4]at t4 j4;have F2:=hid f2.symm;have F3:=hid f3.symm;have F4:=hid f4.symm;clear f0 f2 f3 f4;have Fb:=Blk.lt Cs.out;have yp:=aE wr (.cells #[.slice p0 v0 d0,.bool bo,.slice p2 v2 d2,.slice p3 v3 d3,.slice p4 v4 d4] 135 (0,0)) (some g);have xp:=Blk.new wr 135 [.slice p0 v0 d0,.bool bo,.slice p2 v2 d2,.slice p3 v3 d3,.slice p4 v4 d4];have hL3:=Blk.old Cs.out (o:=.cells #[.slice p0 v0 d0,.bool bo,.slice p2 v2 d2,.slice p3 v3 d3,.slice p4 v4 d4] 135 (0,0));go_upto_region 18 with fail;generalize wr.alloc (.cells #[.slice p0 v0 d0,.bool bo,.slice p2 v2 d2,.slice p3 v3 d3,.slice p4 v4 d4] 135 (0,0))=w3 at *;obtain⟨gp,Uk⟩:=zx (wr.heap.size);rw[<-Uk]at xp ⊢;have hgpg:gp ≠ g:=A0;clear Uk Fb;have HG3:=hid (aC Al.out yp);have Iz:=bW hb yp hwg;have Bn:=hid Iz;have HN:=aQ p0 v0 d0 x.name false w3 (g0.below Iz) A0;have HC:=aNp x.body w w3 p4 d4 g (250-(gG (m.procs.take j):Int)) 1 g4 Iz hwg hL3 A22 A0 A0 A0 s4;rw[F4.out]at HC;have HP2:=hid g2;have HP3:=hid g3;have HXB:=hid xp;have Dn:=hid (aBh HJ.out);have r0:=xp.k 0;have r2:=xp.k 2;have r3:=xp.k 3;have r4:=xp.k 4;clear t0 t1 t2 t3 t4 q3 hb Iz xp yp hL3 g0 g2 g3 g4;generalize Ai:aN x.name false=ok at HN;have Yn:=hid Ai;clear Ai;generalize hft:cI x.body 1 (250-(gG (m.procs.take j):Int))=ft at HC;have HFT:=hid hft;clear hft;go_wp2_with fail;refine HN.mono ?_;rintro e w3 ⟨rfl,rfl⟩;clear HN;cases ok
       .
        have he:=hid (gL HJ.out (aEb Yn.out));exact QA87
       by_cases y2:(4:Int)<(v2:Int)
       .
        have he:Hid (cH m=false):=gL HJ.out (wW (by rw[F2.out];omega));exact QA87
       by_cases y3:(8:Int)<(v3:Int)
       .
        have he:Hid (cH m=false):=gL HJ.out (wX (by rw[F3.out];omega));exact QA87
       go_wp2_with fail;refine M926 ?_;intro w4 Af Bd;have Dg:=hid (aC HG3.out Af);have Jd:=hid (bW Bn.out Af hwg);have HX4:=hid (Blk.grown HXB.out Af hgpg);have Ds:=hid Bd;clear HC r0 r2 r3 r4 HXB Af Bd;cases ft
       .
        have he:=hid (xH HJ.out HFT.out);exact QA86
       have Ce:=eK HFT.out;have Ey:Hid (Lft w4 g (250-(gG (m.procs.take (j+1)):Int))):=by
        have:=Ds.out rfl;rw[show(250:Int)-(gG (m.procs.take j):Int)-(aK x.body:Int)=250-(gG (m.procs.take (j+1)):Int) by rw[Dn.out];omega]at this;exact this
       go_wp2_with fail;go_loopw [8] (fun i wr=>wr=w4/\∃k:Nat,k<=v2/\i=.int .i64 k/\Hid (∀(i:Nat) (y:Pa),i<k->x.params[i]?=some y->aN y.name false=true)) (fun i _=>v2-(intOf i).toNat)
       case atStart=>exact⟨rfl,0,zD1 _,rfl,by show ∀_ _,_;omega⟩
       case round=>
        obtain⟨rfl,k,hk,rfl,hye2⟩:=hrel;have r2:=Blk.cell HX4.out (i:=2) rfl;by_cases Dv:k<v2
        .
         obtain⟨b',o',rfl⟩:=aW.addr HP2.out (by rw[j2];omega);obtain⟨y,hy⟩:∃y,x.params[k]?=some y:=⟨x.params[k]'(by rw[F2.out];exact Dv),zA0 _⟩
         have Mn:(x.params.map Pa.fl)[k]?=some y.fl:=by rw[zA2,hy];rfl
         obtain⟨us,Ak,Ab⟩:=((aW.below HP2.out Jd.out).el Mn).vals;obtain⟨z0,_,rfl,⟨ax,cx,rfl,Cb,_⟩,z1,_,rfl,rfl,rfl⟩:=Ak;have t0:wr.cell? ⟨b',o'+k*2,none⟩=some (.slice ax y.name.length cx):=Ab 0 _ rfl;have Cd:=zF2 (bZ (zA3 Mn)) s2;have HC:=aQ ax y.name.length cx y.name false wr Cb (by simp[Pa.fl,aO,Fl.len]at Cd;omega);have HK:=hid hy;clear Ab hy Mn Cd Cb;generalize Ai:aN y.name false=ok at HC;have Jc:=hid Ai;clear Ai;generalize y.name.length=ny at *;go_wp2_with fail;refine HC.mono ?_;rintro e wr ⟨rfl,rfl⟩;clear HC;cases ok
         .
          have he:=hid (gL HJ.out (aBx HK.out Jc.out));exact QA86
         .
          go_wp2;go_roundw
          case rel=>exact⟨trivial,k+1,by omega,by go_num,(show ∀(i:Nat) (y:Pa),i<k+1->_ from fun i u hi hu=>(zJ1 i k).elim (fun h=>hye2.out i u h hu) (fun h=>by
           obtain rfl:i=k:=A0;rw[HK.out]at hu;cases hu;exact Jc.out))⟩
          case measure=>simp[intOf];omega
        .
         have:v2=k:=A0;subst this;have HPA:Hid (∀(i:Nat) (y:Pa),x.params[i]?=some y->aN y.name false=true):=fun i y hy=>hye2.out i y (by have:=(zC1.1 hy).1;rw[F2.out]at this;exact this) hy;clear hye2;go_wp2_with fail;clear r2;go_loopw [9] (fun i wr'=>wr'=wr/\∃k:Nat,k<=v3/\i=.int .i64 k/\Hid (∀(i:Nat) (y:List Int),i<k->x.locals[i]?=some y->aN y false=true)) (fun i _=>v3-(intOf i).toNat)
         case atStart=>exact⟨rfl,0,zD1 _,rfl,by show ∀_ _,_;omega⟩
         case round=>
          obtain⟨rfl,k,hk,rfl,hye3⟩:=hrel;have r3:=Blk.cell HX4.out (i:=3) rfl;by_cases Tc:k<v3
          .
           obtain⟨b',o',rfl⟩:=aW.addr HP3.out (by rw[j3];omega);obtain⟨y,hy⟩:∃y,x.locals[k]?=some y:=⟨x.locals[k]'(by rw[F3.out];exact Tc),zA0 _⟩
           have Mn:(dI x.locals)[k]?=some [.b y]:=by unfold dI;rw[zA2,hy];rfl
           obtain⟨us,Ak,Ab⟩:=((aW.below HP3.out Jd.out).el Mn).vals;obtain⟨z0,_,rfl,⟨ax,cx,rfl,Cb,_⟩,rfl⟩:=Ak;have t0:wr.cell? ⟨b',o'+k*1,none⟩=some (.slice ax y.length cx):=Ab 0 _ rfl;have Cd:=zF2 (bZ (zA3 Mn)) s3;have HC:=aQ ax y.length cx y false wr Cb (by simp[aO,Fl.len]at Cd;omega);have HK:=hid hy;clear Ab hy Mn Cd Cb;generalize Ai:aN y false=ok at HC;have Jc:=hid Ai;clear Ai;generalize y.length=ny at *;simp only[Nat.mul_one]at t0;go_wp2_with fail;refine HC.mono ?_;rintro e wr ⟨rfl,rfl⟩;clear HC;cases ok
           .
            have he:=hid (gL HJ.out (aBy HK.out Jc.out));exact QA86
           .
            go_wp2;go_roundw
            case rel=>exact⟨trivial,k+1,by omega,by go_num,(show ∀(i:Nat) (y:List Int),i<k+1->_ from fun i u hi hu=>(zJ1 i k).elim (fun h=>hye3.out i u h hu) (fun h=>by
             obtain rfl:i=k:=A0;rw[HK.out]at hu;cases hu;exact Jc.out))⟩
            case measure=>simp[intOf];omega
          .
           have:v3=k:=A0;subst this;have HLO:Hid (∀(i:Nat) (y:List Int),x.locals[i]?=some y->aN y false=true):=fun i y hy=>hye3.out i y (by have:=(zC1.1 hy).1;rw[F3.out]at this;exact this) hy;clear hye3;have HHD:Hid (pZ x=true):=aHt Yn.out (by rw[F2.out];omega) (by rw[F3.out];omega) HPA.out HLO.out;go_wp2;go_roundw
           case rel=>exact⟨j+1,by omega,by go_num,Dg,Ey,A9,(show ∀(i:Nat) (x:Pr),i<j+1->_ from fun i u hi hu=>(zJ1 i j).elim (fun h=>Ao.out i u h hu) (fun h=>by
            obtain rfl:i=j:=A0;rw[HJ.out]at hu;cases hu;exact⟨HFT.out,HHD.out⟩))⟩
           case measure=>simp[intOf];omega
      .
       have:n3=j:=A0;subst this;have he:Hid (cH m=true):=aB0 HNO.out (by rw[E1.out];omega) (by rw[E2.out];omega) (by rw[E3.out];omega) HU.out HVA.out (fun i y hy=>Ao.out i y (by have:=(zC1.1 hy).1;rw[E3.out]at this;exact this) hy);go_wp2;go_ret;exact⟨aF he.out.symm,aM hb none⟩
namespace Eg
def aTf:Con:=⟨147,true,[.rc 13,.sl .bt 0 4],.int (-1) 100,true⟩
def aTg:Con:=⟨148,true,[.rc 13,.sl .bt 0 4],.int (-1) 100,true⟩
def aTh:Con:=⟨149,true,[.rc 12,.sl .bt 0 4],.int (-1) 100,true⟩
def aTj:Con:=⟨150,true,[.rc 12,.sl .bt 0 4],.int (-1) 100,true⟩
def aT8:Con:=⟨104,true,[.rc 13],.bool,true⟩
def aTi:Con:=⟨115,true,[.sl .bt 0 4,.bool],.bool,true⟩
def aTl:Con:=⟨146,true,[.rc 4],.bool,true⟩
def aTm:Con:=⟨105,true,[.sl (.rc 4) 0 3,.sl .bt 0 4],.int (-1) 100,true⟩
def aUa:Con:=⟨103,true,[.sl (.rc 4) 0 3],.bool,true⟩
def aT9:Con:=⟨106,true,[.sl (.rc 0) 0 2,.sl .bt 0 4],.bool,true⟩
theorem aU5:ConOk aTf:=bN (cz) A3 (show bJ ⟨true,false,[0,1,2,4,5,10,22],[],[(22,.bt),(83,.rc 1)],[],24⟩ aTf Tryz.f147=true by kernel_rfl)
theorem aU6:ConOk aTg:=bN (cz) A3 (show bJ ⟨true,false,[0,1,2,4,5,10,22],[],[(22,.bt),(84,.rc 12)],[],24⟩ aTg Tryz.f148=true by kernel_rfl)
theorem aU7:ConOk aTh:=bN (cz) A3 (show bJ ⟨true,false,[0,1,2,4,5,10,22],[],[(22,.bt),(132,.rc 2)],[],24⟩ aTh Tryz.f149=true by kernel_rfl)
theorem aVb:ConOk aTj:=bN (cz) A3 (show bJ ⟨true,false,[0,1,2,4,5,10,21],[],[(22,.bt),(82,.rc 0)],[],23⟩ aTj Tryz.f150=true by kernel_rfl)
theorem aU9:ConOk aT8:=bN (cn aU5 (cn aU6 (cn aU7 (cn aVb (cz))))) A3 (show bJ ⟨true,false,[0,1,2,3,4,5,6,7,12,35,40,53,58,103,108,139],[],[(22,.bt),(83,.rc 1),(84,.rc 12),(132,.rc 2),(82,.rc 0)],[aTf,aTg,aTh,aTj],140⟩ aT8 Tryz.f104=true by kernel_rfl)
theorem aU8:ConOk aTi:=bN (cz) A3 (show bJ ⟨true,false,[0,1,4,5,6,7,8,16,20,75,85],[],[(22,.bt)],[],86⟩ aTi Tryz.f115=true by kernel_rfl)
theorem aVf:ConOk aTl:=bN (cn aU8 (cz)) A3 (show bJ ⟨true,false,[0,1,2,3,4,5,15,20,40,43,60,69,93],[],[(22,.bt),(78,.rc 3),(32,.ii)],[aTi],94⟩ aTl Tryz.f146=true by kernel_rfl)
theorem aT4:ConOk aTm:=bN (cz) A3 (show bJ ⟨true,false,[0,1,4,5,9,20],[],[(22,.bt),(49,.rc 4)],[],22⟩ aTm Tryz.f105=true by kernel_rfl)
theorem aVe:ConOk aUa:=bN (cn aVf (cn aT4 (cz))) A3 (show bJ ⟨true,false,[0,2,3,6,10,29],[],[(49,.rc 4),(22,.bt)],[aTl,aTm],30⟩ aUa Tryz.f103=true by kernel_rfl)
theorem aVd:ConOk aT9:=bN (cz) A3 (show bJ ⟨true,false,[0,1,4,5,9,19],[],[(82,.rc 0),(22,.bt)],[],20⟩ aT9 Tryz.f106=true by kernel_rfl)
theorem oE {c:Con}(h:ConOk c){τ:Sm}{w:World}{vs:List Value}(hT:TH τ w)(Dm:Tg τ)(hA:∀I,aCi τ w I c.args vs)(hst:c.st=true:=by rfl)(hg:bF c.args=false:=by rfl)(hc:eJ c.args=false:=by rfl):
  Calls Tryz.prog c.f vs.toArray w fun e w'=>∃v,e=.returned v/\w.grownBy w' none/\∃τ' I,c.res.ok true τ' w.heap.size I v:=by
 let I:Inp:=⟨0,0,undef,undef,undef,undef,undef,undef,undef,false⟩
 refine(h τ w I vs hT (fun _=>Dm) ⟨fun e=>(by rw[hg]at e;cases e),fun e=>(by rw[hc]at e;cases e)⟩ (hA I)).mono ?_;rintro e w' ⟨v,τ',rfl,fr,_,_,hr⟩;have hK:c.K I=[]:=by unfold Con.K;rw[hg,hc];rfl
 rw[hst]at hr fr;refine⟨v,rfl,⟨fr.os,fr.tape,fr.output,fr.size,fun b hb _=>?_⟩,τ',I,hr⟩;cases e:τ b with
 | none=>exact fr.blk b hb e (by show b ∉ c.K I;rw[hK];simp)
 | some s=>exact(fr.str rfl b hb (by show τ b ≠ none;rw[e];simp)).2
end Eg
section
namespace Eg
section
variable {τ:Sm} {w:World} {b:Option Addr} {nf d:Nat}
theorem fskW (hT:TH τ w)(Dm:Tg τ)(hF:SVb τ (.rc 4) 0 3 (.slice b nf d)):Calls Tryz.prog 103 #[.slice b nf d] w fun e w'=>∃z:Bool,e=.returned (.bool z)/\w.grownBy w' none:=
 (oE aVe hT Dm fun I=>⟨_,_,rfl,hF,rfl⟩).mono fun e w' ⟨_,he,hg,_,_,z,hz⟩=>⟨z,hz ▸ he,hg⟩
theorem nmsW {vs:List Value}(hT:TH τ w)(Dm:Tg τ)(hv:RV τ (Dt 13).2 vs):Calls Tryz.prog 104 #[.agg vs.toArray] w fun e w'=>∃z:Bool,e=.returned (.bool z)/\w.grownBy w' none:=
 (oE aU9 hT Dm fun I=>⟨_,_,rfl,⟨vs,rfl,hv⟩,rfl⟩).mono fun e w' ⟨_,he,hg,_,_,z,hz⟩=>⟨z,hz ▸ he,hg⟩
theorem fofW {u:Value}(hT:TH τ w)(Dm:Tg τ)(hF:SVb τ (.rc 4) 0 3 (.slice b nf d))(hu:SVb τ .bt 0 4 u):Calls Tryz.prog 105 #[.slice b nf d,u] w fun e w'=>∃z:Int,e=.returned (.int .i64 z)/\w.grownBy w' none:=
 (oE aT4 hT Dm fun I=>⟨_,_,rfl,hF,_,_,rfl,hu,rfl⟩).mono fun e w' ⟨_,he,hg,_,_,z,hz,_⟩=>⟨z,hz ▸ he,hg⟩
theorem hasW {u v:Value}(hT:TH τ w)(Dm:Tg τ)(hF:SVb τ (.rc 0) 0 2 v)(hu:SVb τ .bt 0 4 u):Calls Tryz.prog 106 #[v,u] w fun e w'=>∃z:Bool,e=.returned (.bool z)/\w.grownBy w' none:=
 (oE aVd hT Dm fun I=>⟨_,_,rfl,hF,_,_,rfl,hu,rfl⟩).mono fun e w' ⟨_,he,hg,_,_,z,hz⟩=>⟨z,hz ▸ he,hg⟩
theorem useAt {an ap:Value}{bx off nu cu j:Nat}{v2 u:Value}(hT:TH τ w)(Dm:Tg τ)(hv:RV τ (Dt 13).2 [an,.slice (some ⟨bx,off,none⟩) nu cu,v2,ap])(hj:j<nu)(hc:w.cell? ⟨bx,off+j,none⟩=some u):
  SVb τ .bt 0 4 u/\SVb τ (.rc 0) 0 2 (.slice (some ⟨bx,off,none⟩) j cu):=by
 obtain⟨_,e,n,⟨_,hn⟩,hS⟩:=RV.get hv (i:=1) rfl;cases e;rcases hS with⟨e,_⟩|⟨b,j0,c,s,e,hb,h1,h2,h3,h4⟩
 .
  cases e
 .
  cases e;obtain⟨us,a1,a2,a3⟩:=(hT _ s hb).el (j0+j) A0;rw[Dm _ s hb,h1]at a2;obtain⟨v,_,rfl,⟨k,hk,hs⟩,rfl⟩:=a2;have hx:=a3 0 _ rfl;rw[h1]at hx;have e1:(Rs.rc 0).k=1:=rfl;rw[e1]at hx;simp only[Nat.mul_one,zG1]at hx;rw[e1,Nat.mul_one,hx]at hc;cases hc;refine⟨⟨?_,zD1 _, ?_⟩,⟨.inr ⟨_,j0,cu,s,rfl,hb,h1,by show j0+j<=_;omega,by show j<=_;omega,h4⟩,zD1 _,by show j<=2;omega⟩⟩;all_goals (rcases hs with⟨rfl,rfl⟩|⟨b',j',c',s',rfl,q⟩)
  .
   exact SV.nil _
  .
   exact .inr ⟨b',j',c',s',rfl,q⟩
  .
   exact zD1 _
  .
   exact hk
end
end Eg
theorem aN3 (m:Mo){q:Pr}(hq:q ∈ m.procs):q.params.length<=aO m.fl:=by
 have h1:=bZ (List.mem_map_of_mem (f:=Pr.fl) hq);have e:q.params.length<=aO q.fl:=by simp[Pr.fl,aO,Fl.len];omega
 have e2:aG (m.procs.map Pr.fl)<=aO m.fl:=by simp[Mo.fl,aO,Fl.len];omega
 omega
theorem aF7 (m:Mo)(w:World)(vs:List Value)(h:aL w m.fl vs)(hs:aO m.fl<=1048576):
  Calls Tryz.prog 102 #[.agg vs.toArray] w fun e w'=>∃b,e=.returned (.bool b)/\(b=true->cH m=true)/\w.grownBy w' none:=by
 have yy:=aE w (.cells vs.toArray 86 (0,0)) none;have HP:=aNo m vs (w.alloc (.cells vs.toArray 86 (0,0))) (h.below (aA yy)) hs;have HQ:cH m=true->∀w1,(w.alloc (.cells vs.toArray 86 (0,0))).grownBy w1 none->_:=fun hf w1 h1=>aG3 m hf w1 vs ((h.below (aA yy)).below (aA h1)) hs;have x0:=Blk.new w 86 vs;obtain⟨u0,u1,u2,u3,rfl⟩:=xD (h.len.trans (show m.fl.length=4 from rfl));simp only[agg]at HP HQ;clear h hs;go_enter Tryz.func102,Tryz.ntmps102;go_upto_region 1 with fail;generalize w.alloc (.cells #[u0,u1,u2,u3] 86 (0,0))=w1 at *;obtain⟨k0,k1,k2,k3⟩:=x0.c4;cases hf:cH m
 .
  rw[hf]at HP;clear HQ hf;go_wp2_with fail;refine HP.mono ?_;rintro e w2 ⟨rfl,hg⟩;go_wp2;go_ret;exact⟨false,rfl,fun e=> A69,aC yy hg⟩
 .
  have Pv:=HQ hf;have HF:=hid hf;rw[hf]at HP;clear HQ hf;go_wp2_with fail;refine HP.mono ?_;rintro e w2 ⟨rfl,hg⟩;have H3:=Pv w2 hg;replace x0:=x0.below (aA hg) x0.lt;clear k0 k1 k2 k3 HP Pv;obtain⟨k0,k1,k2,k3⟩:=x0.c4;go_wp2_with fail;refine H3.mono ?_;rintro e w3 ⟨a1,nL,c1,rfl,hn,Bm⟩;have yf:=aC yy (aC hg Bm);clear H3;go_wp2;go_ret;exact⟨_,rfl,fun _=>HF.out,yf⟩
theorem aA6 {τ:Eg.Sm}(m:Mo)(fs:List Fa)(vs:List Value)(b:Option Addr)(nf d:Nat)(w:World)(h:aL w m.fl vs)(hs:aO m.fl<=1048576)(hf:aW w b d 2 (fs.map Fa.fl))(Hi:fs.length=nf)(hT:Eg.TH τ w)(Dm:Eg.Tg τ)(hv:Eg.RV τ (Eg.Dt 13).2 vs)(hF:Eg.SVb τ (.rc 4) 0 3 (.slice b nf d)):
  Calls Tryz.prog 52 #[agg vs,.slice b nf d] w fun e w'=>∃c,e=.returned (.int .i64 c)/\rg4 c/\(c=0->aQm m fs)/\w.grownBy w' none:=by
 have h0:=h;obtain⟨v0,_,rfl,⟨an,cn,rfl,Be,_⟩,v1,_,rfl,hu,v2,_,rfl,Wg,v3,_,rfl,hp,rfl⟩:=h;obtain⟨au,cu,rfl,hU⟩:=hu.list;obtain⟨ap,cp,rfl,hP⟩:=hp.list;have hu9:=hU.len9;have Ub:=hP.len9;have huc:=hU.cap;have eu:(dI m.uses).length=m.uses.length:=by simp[dI]
 simp only[zB2,eu]at hu9 Ub huc h0 hv ⊢;obtain⟨nu,hnu⟩:=zx (m.uses.length);obtain⟨np,Eu⟩:=zx (m.procs.length);have HNU:=hid hnu.symm;have Px:=hid Eu.symm;rw[<-hnu,<-Eu]at h0 hv ⊢;rw[<-hnu]at hu9 huc;rw[<-Eu]at Ub;have HM:=hid h0;have HU:=hid hU;have HP:=hid hP;have Mk:=hid Be;have HFS:=hid hf;have HFL:=hid Hi;have HSZ:=hid hs;have HPL:Hid (∀q ∈ m.procs,q.params.length<=1048576):=fun q hq=>zF2 (aN3 m hq) hs;have HT:Hid (∀wl,Below w.heap.size w wl->Eg.TH τ wl):=fun wl hb=>hT.on fun b s e=>hb.block b (hT.lt e);clear h0 hU hP Be hf Hi hs hu Wg hp hnu Eu eu hT;have z0:=Blk.new w 86 [.slice an m.name.length cn,.slice au nu cu,v2,.slice ap np cp];have y0:=aE w (.cells #[.slice an m.name.length cn,.slice au nu cu,v2,.slice ap np cp] 86 (0,0)) none;simp only[List.toArray]at z0;simp only[agg];go_enter Tryz.func52,Tryz.ntmps52;go_upto_region 1 with fail;generalize w.alloc (.cells #[.slice an m.name.length cn,.slice au nu cu,v2,.slice ap np cp] 86 (0,0))=w1 at *;have H1:=aF7 m w1 _ (aL.below HM.out (aA y0)) HSZ.out;simp only[List.toArray]at H1;obtain⟨k0,k1,k2,k3⟩:=z0.c4;go_wp2_with fail;refine H1.mono ?_;rintro r w2 ⟨bo,rfl,Jh,hg⟩;have yg:=aC y0 hg;replace z0:=z0.below (aA hg) z0.lt;clear H1 k0 k1 k2 k3 y0 hg;have H2:=Eg.fskW (HT.out w2 (aA yg)) Dm hF;cases bo
 .
  go_wp2;go_ret;exact⟨1,rfl,⟨by omega,by omega⟩,fun e=> A69,yg⟩
 have HFO:Hid (cH m=true):=Jh rfl;clear Jh;go_wp2_with fail;refine H2.mono ?_;rintro r w3 ⟨bo,rfl,hg⟩;have yh:=aC yg hg;replace z0:=z0.below (aA hg) z0.lt;clear H2 yg hg;have H3:=Eg.nmsW (HT.out w3 (aA yh)) Dm hv;cases bo
 .
  go_wp2;go_ret;exact⟨1,rfl,⟨by omega,by omega⟩,fun e=> A69,yh⟩
 obtain⟨k0,k1,k2,k3⟩:=z0.c4;go_wp2_with fail;refine H3.mono ?_;rintro r w4 ⟨bo,rfl,hg⟩;have Y4:=hid (aC yh hg);have Z4:=hid (z0.below (aA hg) z0.lt);clear H3 yh hg k0 k1 k2 k3 z0;cases bo
 .
  go_wp2;go_ret;exact⟨2,rfl,⟨by omega,by omega⟩,fun e=> A69,Y4.out⟩
 go_wp2_with fail;go_loopw [5] (fun i wr=>∃j:Nat,j<=nu/\i=.int .i64 j/\Hid (w4.grownBy wr none)) (fun i _=>nu-(intOf i).toNat)
 case atStart=>exact⟨0,zD1 _,rfl,aP _ _⟩
 case round=>
  obtain⟨j,hj,rfl,Hg⟩:=hrel;have hg:=Hg.out;have yw:=aC Y4.out hg;have bw:=aA yw;have z0:=Z4.out.below (aA hg) Z4.out.lt;have k1:=z0.k 1;by_cases Ad:j<nu
  .
   obtain⟨x,hx⟩:∃x,m.uses[j]?=some x:=⟨_,zA0 (by rw[HNU.out];exact Ad)⟩
   obtain⟨bx,off,ys,rfl,Ky,Ab⟩:=aW.cellsAt HU.out (show(dI m.uses)[j]?=some [Fl.b x] by unfold dI;rw[zA2,hx];rfl);obtain⟨y0,_,rfl,⟨ax,cx,rfl,Cb,_⟩,_⟩:=Ky;have HBX:=hid Cb;have r0:=Ab 0 _ rfl;rw[zG1,Nat.mul_one]at r0;obtain⟨TX,TK⟩:=Eg.useAt (HT.out w (zD2 _ _)) Dm hv Ad r0;replace r0:=aB r0 bw;clear Ab hx Cb;have hjc:j<=cu:=A0;have HS:∀{wl:World},Below wr.heap.size wr wl->wl.cell? ⟨w.heap.size,0,none⟩=some (.slice an m.name.length cn)/\wl.cell? ⟨w.heap.size,1,none⟩=some (.slice (some ⟨bx,off,none⟩) nu cu)/\wl.cell? ⟨bx,off+j,none⟩=some (.slice ax x.length cx)/\aV wl ax x.length x/\aV wl an m.name.length m.name:=fun hb=>⟨aB (z0.k 0) hb,aB (z0.k 1) hb,aB r0 hb,(aV.below HBX.out bw).below hb,(aV.below Mk.out bw).below hb⟩;have An:=HS (wl:=wr.drew) (zD2 _ _).drew;have H17:=Eg.fofW (HT.out wr.drew bw.drew) Dm hF TX;have H30:=fun w5 (b5:Below w.heap.size w w5)=>Eg.hasW (HT.out w5 b5) Dm TK TX;clear z0;cases hbq:((strOfNums x).toList == (strOfNums m.name).toList)
   .
    go_wp2_with fail;refine zJ3 (S:=fun wl=>wl.cell? ⟨w.heap.size,0,none⟩=some (.slice an m.name.length cn)/\wl.cell? ⟨w.heap.size,1,none⟩=some (.slice (some ⟨bx,off,none⟩) nu cu)/\wl.cell? ⟨bx,off+j,none⟩=some (.slice ax x.length cx)/\aV wl ax x.length x/\aV wl an m.name.length m.name) A1 An (fun Aa=>?_);refine ta 0 ?_;refine ta 1 ?_;refine ta 2 ?_;try simp only[nrm]
    refine ta 3 ?_;refine ta 4 ?_;try simp only[nrm]
    refine tk (i:=5) (v:=?v905) rfl A1 (.inl ⟨by rfl, ?y905⟩) Aa (fun _ _ _ h=>h) ?_
    case y905=>intro w Ko;have kc:=aR cx Ko.2.2.2.1;(try dsimp only at Ko);go_simp;first|done|rfl
    try simp only[nrm]
    refine ta 6 ?_;refine ta 7 ?_;try simp only[nrm]
    refine tk (i:=8) (v:=?v908) rfl A1 (.inl ⟨by rfl, ?y908⟩) Aa (fun _ _ _ h=>h) ?_
    case y908=>intro w Ko;have kc:=aR cn Ko.2.2.2.2;(try dsimp only at Ko);go_simp;first|done|rfl
    try simp only[nrm]
    refine ta 9 ?_;refine ta 10 ?_;try simp only[nrm]
    refine ta 11 ?_;refine ta 12 ?_;refine ta 13 ?_;try simp only[nrm]
    refine ta 14 ?_;refine ta 15 ?_;refine ta 16 ?_;try simp only[nrm]
    refine ra 17 fun K hK=>?_;go_simp
    (with_reducible refine H17.mono ?_)
    rintro r w5 ⟨z,rfl,Az⟩;have b5:Below wr.heap.size wr w5:=(zD2 wr.heap.size wr).drew.trans (aA Az);have Wx:=bw.trans (b5.mono bw.size);have Fc:=HS b5;go_wp2_with fail;refine hK.out _ _ (Fc) (fun Aa=>?_);clear hK K;try simp only[nrm]
    clear H17 Az;by_cases hz:z<0
    .
     refine ta 18 ?_;refine ta 19 ?_;refine ta 20 ?_;try simp only[nrm]
     refine sa 21 ?_;refine sa 22 ?_;refine sa 23 ?_;try simp only[nrm]
     refine sa 24 ?_;refine sa 25 ?_;refine sa 26 ?_;try simp only[nrm]
     refine sa 27 ?_;refine sa 28 ?_;refine sa 29 ?_;try simp only[nrm]
     refine sa 30 ?_;try simp only[nrm]
     refine ta 31 ?_;try simp only[nrm]
     refine zK0 A1 ?_ _;go_wp2;go_ret;exact⟨3,rfl,⟨by omega,by omega⟩,fun e=> A69,aM Wx none⟩
    .
     refine ta 18 ?_;refine ta 19 ?_;refine ta 20 ?_;try simp only[nrm]
     refine ta 21 ?_;refine ta 22 ?_;refine ta 23 ?_;try simp only[nrm]
     refine ta 24 ?_;refine ta 25 ?_;refine ta 26 ?_;try simp only[nrm]
     refine ta 27 ?_;refine ta 28 ?_;refine ta 29 ?_;try simp only[nrm]
     refine ra 30 fun K hK=>?_;go_simp
     (with_reducible refine(H30 w5 Wx).mono ?_)
     rintro r w6 ⟨bo,rfl,Bt⟩;have b6:=b5.trans ((aA Bt).mono b5.size);have HS6:=HS b6;go_wp2_with fail;refine hK.out _ _ (HS6) (fun Aa=>?_);clear hK K;try simp only[nrm]
     clear H30 Bt Fc HS6 r0 hbq hz;cases bo
     .
      refine ta 31 ?_;try simp only[nrm]
      refine zK0 A1 ?_ _;clear Aa HS An;go_wp2;go_roundw
      case rel=>exact⟨j+1,by omega,by go_num,aC hg (aM b6 none)⟩
      case measure=>simp[intOf];omega
     .
      refine ta 31 ?_;try simp only[nrm]
      refine zK0 A1 ?_ _;go_wp2;go_ret;exact⟨3,rfl,⟨by omega,by omega⟩,fun e=> A69,aM (bw.trans (b6.mono bw.size)) none⟩
   .
    go_wp2_with fail;refine zJ3 (S:=fun wl=>wl.cell? ⟨w.heap.size,0,none⟩=some (.slice an m.name.length cn)/\wl.cell? ⟨w.heap.size,1,none⟩=some (.slice (some ⟨bx,off,none⟩) nu cu)/\wl.cell? ⟨bx,off+j,none⟩=some (.slice ax x.length cx)/\aV wl ax x.length x/\aV wl an m.name.length m.name) A1 An (fun Aa=>?_);refine ta 0 ?_;refine ta 1 ?_;refine ta 2 ?_;try simp only[nrm]
    refine ta 3 ?_;refine ta 4 ?_;try simp only[nrm]
    refine tk (i:=5) (v:=?v905) rfl A1 (.inl ⟨by rfl, ?y905⟩) Aa (fun _ _ _ h=>h) ?_
    case y905=>intro w Ko;have kc:=aR cx Ko.2.2.2.1;(try dsimp only at Ko);go_simp;first|done|rfl
    try simp only[nrm]
    refine ta 6 ?_;refine ta 7 ?_;try simp only[nrm]
    refine tk (i:=8) (v:=?v908) rfl A1 (.inl ⟨by rfl, ?y908⟩) Aa (fun _ _ _ h=>h) ?_
    case y908=>intro w Ko;have kc:=aR cn Ko.2.2.2.2;(try dsimp only at Ko);go_simp;first|done|rfl
    try simp only[nrm]
    refine ta 9 ?_;refine ta 10 ?_;try simp only[nrm]
    refine sa 11 ?_;refine sa 12 ?_;refine sa 13 ?_;try simp only[nrm]
    refine sa 14 ?_;refine sa 15 ?_;refine sa 16 ?_;try simp only[nrm]
    refine sa 17 ?_;refine sa 18 ?_;try simp only[nrm]
    refine ta 19 ?_;refine ta 20 ?_;try simp only[nrm]
    refine sa 21 ?_;refine sa 22 ?_;refine sa 23 ?_;try simp only[nrm]
    refine sa 24 ?_;refine sa 25 ?_;refine sa 26 ?_;try simp only[nrm]
    refine sa 27 ?_;refine sa 28 ?_;refine sa 29 ?_;try simp only[nrm]
    refine sa 30 ?_;try simp only[nrm]
    refine ta 31 ?_;try simp only[nrm]
    refine zK0 A1 ?_ _;go_wp2;go_ret;exact⟨3,rfl,⟨by omega,by omega⟩,fun e=> A69,aM bw.drew none⟩
  .
   have:nu=j:=A0;subst this;have Z5:=hid z0;have Y5:=hid yw;clear Hg hg z0 yw bw;go_wp2_with fail;clear k1;generalize wr=w5 at *;go_loopw [6,7] (fun cc i wr=>∃(j:Nat) (z:Int),j<=np/\i=.int .i64 j/\cc=.int .i64 z/\Hid (z=tT m fs 0 (m.procs.take j))/\Hid (w5.grownBy wr none)) (fun _ i _=>np-(intOf i).toNat)
   case atStart=>exact⟨0,0,zD1 _,rfl,rfl,(by show _=_;simp[tT]),aP _ _⟩
   case round=>
    obtain⟨j,z,hj,rfl,rfl,hz,Hg⟩:=hrel;have hg:=Hg.out;have yw:=aC Y5.out hg;have bw:=aA yw;have z0:=Z5.out.below (aA hg) Z5.out.lt;have k3:=z0.k 3;by_cases Ad:j<np
    .
     obtain⟨q,hq⟩:∃q,m.procs[j]?=some q:=⟨_,zA0 (by rw[Px.out];exact Ad)⟩
     have HZ:Hid (dH z (eQ m fs q 0 q.body)=tT m fs 0 (m.procs.take (j+1))):=by show _=_;rw[aC5 hq,hz.out]
     obtain⟨bx,off,es,rfl,Tf,Ab⟩:=aW.cellsAt HP.out (show(m.procs.map Pr.fl)[j]?=some q.fl by rw[zA2,hq];rfl);have Ua:=Tf;obtain⟨s0,_,rfl,_,s1,_,rfl,_,s2,_,rfl,_,s3,_,rfl,_,s4,_,rfl,Mq,rfl⟩:=Tf;obtain⟨ab,cb,rfl,hB⟩:=Mq.list;have eb:(sts q.body).length=q.body.length:=by simp[bA]
     rw[eb]at Ab Ua;have HQQ:=hid Ua;have HB:=hid hB;have r0:=aB (Ab 0 _ rfl) bw;have r1:=aB (Ab 1 _ rfl) bw;have r2:=aB (Ab 2 _ rfl) bw;have r3:=aB (Ab 3 _ rfl) bw;have r4:=aB (Ab 4 _ rfl) bw;rw[zG1]at r0;clear Ab hq Ua Mq hB eb hz;have HS:∀{wl:World},Below wr.heap.size wr wl->wl.cell? ⟨w.heap.size,0,none⟩=some (.slice an m.name.length cn)/\wl.cell? ⟨w.heap.size,1,none⟩=some (.slice au nu cu)/\wl.cell? ⟨w.heap.size,2,none⟩=some (v2)/\wl.cell? ⟨w.heap.size,3,none⟩=some (.slice (some ⟨bx,off,none⟩) np cp)/\wl.cell? ⟨bx,off+j*5,none⟩=some s0/\wl.cell? ⟨bx,off+j*5+1,none⟩=some s1/\wl.cell? ⟨bx,off+j*5+2,none⟩=some s2/\wl.cell? ⟨bx,off+j*5+3,none⟩=some s3/\wl.cell? ⟨bx,off+j*5+4,none⟩=some (.slice ab q.body.length cb):=fun hb=>⟨aB (z0.k 0) hb,aB (z0.k 1) hb,aB (z0.k 2) hb,aB (z0.k 3) hb,aB r0 hb,aB r1 hb,aB r2 hb,aB r3 hb,aB r4 hb⟩;have An:=HS (wl:=wr.drew) (zD2 _ _).drew;have H14:=aTq m fs q q.body wr.drew _ _ b nf d ab cb ⟨aL.below HM.out bw.drew,aL.below HQQ.out bw.drew,aW.below HFS.out bw.drew,HFL.out,HPL.out⟩ (aW.below HB.out bw.drew);simp only[agg,List.toArray]at H14;go_wp2_with fail;refine zJ3 (S:=fun wl=>wl.cell? ⟨w.heap.size,0,none⟩=some (.slice an m.name.length cn)/\wl.cell? ⟨w.heap.size,1,none⟩=some (.slice au nu cu)/\wl.cell? ⟨w.heap.size,2,none⟩=some (v2)/\wl.cell? ⟨w.heap.size,3,none⟩=some (.slice (some ⟨bx,off,none⟩) np cp)/\wl.cell? ⟨bx,off+j*5,none⟩=some s0/\wl.cell? ⟨bx,off+j*5+1,none⟩=some s1/\wl.cell? ⟨bx,off+j*5+2,none⟩=some s2/\wl.cell? ⟨bx,off+j*5+3,none⟩=some s3/\wl.cell? ⟨bx,off+j*5+4,none⟩=some (.slice ab q.body.length cb)) A1 An (fun Aa=>?_);refine ta 0 ?_;refine ta 1 ?_;refine ta 2 ?_;try simp only[nrm]
     refine ta 3 ?_;refine ta 4 ?_;refine ta 5 ?_;try simp only[nrm]
     refine ta 6 ?_;refine ta 7 ?_;refine ta 8 ?_;try simp only[nrm]
     refine ta 9 ?_;refine ta 10 ?_;refine ta 11 ?_;try simp only[nrm]
     refine ta 12 ?_;refine ta 13 ?_;try simp only[nrm]
     refine ra 14 fun K hK=>?_;go_simp
     (with_reducible refine H14.mono ?_)
     rintro r w6 ⟨rfl,Bt⟩;have b6:Below wr.heap.size wr w6:=(zD2 wr.heap.size wr).drew.trans (aA Bt);have HS6:=HS b6;have H15:=sY z (eQ m fs q 0 q.body) w6;go_wp2_with fail;refine hK.out _ _ (HS6) (fun Aa=>?_);clear hK K;try simp only[nrm]
     refine ra 15 fun K hK=>?_;go_simp
     (with_reducible refine H15.mono ?_)
     rintro r w7 ⟨rfl,rfl⟩;go_wp2_with fail;refine hK.out _ _ (HS6) (fun Aa=>?_);clear hK K;try simp only[nrm]
     refine ta 16 ?_;try simp only[nrm]
     refine zK0 A1 ?_ _;have HG7:=hid (aC hg (aM b6 none));clear HS An HS6 Aa H14 H15 r0 r1 r2 r3 r4 k3 z0 bw yw hg Hg Bt b6;generalize dH z (eQ m fs q 0 q.body)=z' at *;go_wp2;go_roundw
     case rel=>exact⟨j+1,z',by omega,by go_num,rfl,HZ,HG7⟩
     case measure=>simp[intOf];omega
    .
     have:np=j:=A0;subst this;have HZ:Hid (z=tT m fs 0 m.procs):=by show _=_;rw[hz.out,zD3 (by rw[Px.out];exact zB0 _)]
     clear z0 bw hz Hg hg;go_wp2;go_ret;exact⟨z,rfl,by rw[HZ.out];exact aC4 m fs _ 0 ⟨by omega,by omega⟩,fun e=>aVo HFO.out (HZ.out.symm.trans e),yw⟩
end
end Go.Proofs.YtcbhdhmhidpdgaaGreatDoor
