import Derived.Test.YtcbhdhmhidpdgaaGreatPackD
import Derived.Test.YtcbhdhmhidpdgaaGreatPackF
namespace Go.Proofs.YtcbhdhmhidpdgaaGreat
open Go.RowKit
set_option linter.unusedVariables false
set_option linter.unusedSimpArgs false
set_option maxRecDepth 100000
theorem aOm {α:Type}{l:List α}(h:l.length=6):∃a b c d e f,l=[a,b,c,d,e,f]:=by
 match l,h with
 | [a,b,c,d,e,f],_=>exact⟨a,b,c,d,e,f,rfl⟩
set_option maxHeartbeats 40000000 in
theorem aC9 (l:List St)(S:∀x ∈ l,aRx x):aJa l:=by
 intro w0 w a c g left d h hb hg hL Gl Xl Zc hd1 hs;have Fw:(sts l).length=l.length:=by simp[bE]
 have h9:l.length<=9223372036854775807:=by have h7:=h.cap;have h6:=h.most;unfold maxLen at h6;omega
 obtain⟨n,hn⟩:=zx (l.length);rw[<-hn]at h9 Fw ⊢;have HN:=hid hn.symm;clear hn;have Eb:Hid (Lft w g (left-(aK (l.take 0):Int))):=by show Lft _ _ _;simpa [aK] using hL
 have HB:=hid hb;have HR:=hid h;clear hb hL h;go_enter Tryz.func110,Tryz.ntmps110;go_wp2_with fail;go_loopw [7] (fun i wr=>∃j:Nat,j<=n/\i=.int .i64 j/\Hid (w.grownBy wr (some g))/\Hid (Lft wr g (left-(aK (l.take j):Int)))/\Hid ((aK (l.take j):Int)<=left)/\Hid (∀i x,i<j->l[i]?=some x->aZ x d (left-(aK (l.take i):Int))=true)) (fun i _=>n-(intOf i).toNat)
 case atStart=>exact⟨0,zD1 _,rfl,aQ _ _,Eb,by show(_:Int)<=_;simp[aK];omega,by show ∀_ _,_;omega⟩
 case round=>
  obtain⟨j,hj,rfl,Am,Cw,Ei,Aq⟩:=hrel;clear Eb;have hb:=bY HB.out Am.out hg;by_cases Ad:j<n
  .
   obtain⟨b3,o3,rfl⟩:=aX.addr HR.out (by rw[Fw];omega);obtain⟨x,hx⟩:∃x,l[j]?=some x:=⟨l[j]'(by rw[HN.out];exact Ad),zA0 _⟩
   have Bc:(sts l)[j]?=some x.fl:=by rw[bE,zA2,hx];rfl
   obtain⟨us,Al,Ab⟩:=(aX.el HR.out Bc).vals;obtain⟨u0,u1,u2,u3,u4,u5,rfl⟩:=aOm (Al.len.trans (aK6 x));replace Ab:∀i v,_->_:=fun i v hv=>aB (Ab i v hv) hb;have t0:wr.cell? ⟨b3,o3+j*6,none⟩=some u0:=Ab 0 _ rfl;have t1:wr.cell? ⟨b3,o3+j*6+1,none⟩=some u1:=Ab 1 _ rfl;have t2:wr.cell? ⟨b3,o3+j*6+2,none⟩=some u2:=Ab 2 _ rfl;have t3:wr.cell? ⟨b3,o3+j*6+3,none⟩=some u3:=Ab 3 _ rfl;have t4:wr.cell? ⟨b3,o3+j*6+4,none⟩=some u4:=Ab 4 _ rfl;have t5:wr.cell? ⟨b3,o3+j*6+5,none⟩=some u5:=Ab 5 _ rfl;have Ch:=zF2 (cA (zA3 Bc)) hs;have HC:=S x (zA3 hx) w0 wr [u0,u1,u2,u3,u4,u5] g (left-(aK (l.take j):Int)) d Al hb hg Cw.out A25 A0 Zc hd1 Ch;simp only[agg]at HC;have HJ:=hid hx;have Dq:=hid (fD hx);clear Ab hx Bc Ch Al;generalize hsp:aZ x d (left-(aK (l.take j):Int))=rr at *;have Co:=hid hsp;clear hsp;go_wp2_with fail;refine M924 ?_;intro w4 Ah Bd;refine M949 ?_;intro Di Dv;clear HC t0 t1 t2 t3 t4 t5 hb Ah Bd;cases rr
   .
    have he:=hid (aE4 HJ.out Co.out);go_wp2;go_ret;rw[he.out];exact⟨rfl,Di.out,by simp⟩
   .
    have Ci:=aIn Co.out;have Fo:Hid (Lft w4 g (left-(aK (l.take (j+1)):Int))):=by
     have:=Dv.out rfl;rw[show left-(aK (l.take j):Int)-(gG x:Int)=left-(aK (l.take (j+1)):Int) by rw[Dq.out];omega]at this;exact this
    go_wp2;go_roundw
    case rel=>exact⟨j+1,by omega,by go_num,Di,Fo,A11,(show ∀i x,i<j+1->_ from fun i y hi hy=>(zJ2 i j).elim (fun h=>Aq.out i y h hy) (fun h=>by
     obtain rfl:i=j:=A0;rw[HJ.out]at hy;cases hy;exact Co.out))⟩
    case measure=>simp[intOf];omega
  .
   have:j=n:=A0;subst this;have Ht:Hid (cJ l d left=true):=aCd (fun i y hy=>Aq.out i y (by have:=(zC1.1 hy).1;rw[HN.out]at this;exact this) hy) Gl;have Dd:=Cw.out;rw[zD3 (by rw[HN.out];exact zB0 _)]at Dd;go_wp2;go_ret;rw[Ht.out];exact⟨rfl,Am.out,fun _=>Dd⟩
mutual
theorem aSi:∀x:St,aRx x
 | .mk k n m ks bs es=>aSj k n m ks bs es (aDa ks) (aC9 bs (aGs bs)) (aC9 es (aGs es))
theorem aGs:∀(l:List St),∀x ∈ l,aRx x
 | [],x,h=>by simp at h
 | y :: l,x,h=>by
  rcases zG3.1 h with h|h
  .
   rw[h];exact aSi y
  .
   exact aGs l x h
end
theorem aOk (l:List St):aJa l:=aC9 l (aGs l)
section
variable{x:List Int}{m:Mo}{j:Nat}{q:Pr}{v:Va}
theorem mP{α:Type}{l:List α}{f:α->Bool}{x:α}(h:l[j]?=some x)(hx:f x=false):l.all f=false:=by
 rw[List.all_eq_false];exact⟨x,zA3 h,by simp[hx]⟩
theorem mO{α:Type}{l:List α}{f:α->Bool}(h:∀(j:Nat) (x:α),l[j]?=some x->f x=true):l.all f=true:=by
 rw[zF3];intro x hx;obtain⟨j,hj⟩:=List.getElem?_of_mem hx;exact h j x hj
theorem xT(h:aO m.name true=false):cI m=false:=by unfold cI;rw[h];rfl
theorem xS(h:6<m.uses.length):cI m=false:=by unfold cI;rw[zC2 (by omega:¬m.uses.length<=6)];simp
theorem xR(h:8<m.vars.length):cI m=false:=by unfold cI;rw[zC2 (by omega:¬m.vars.length<=8)];simp
theorem vC(h:8<m.procs.length):cI m=false:=by unfold cI;rw[zC2 (by omega:¬m.procs.length<=8)];simp
theorem aCc(h:m.uses[j]?=some x)(hx:aO x true=false):cI m=false:=by unfold cI;rw[mP h (f:=sK) hx];simp
theorem nD{x:Va}(h:m.vars[j]?=some x)(hx:yM x=false):cI m=false:=by unfold cI;rw[mP h hx];simp
theorem gT{x:Pr}(h:m.procs[j]?=some x)(hx:qH x=false):cI m=false:=by unfold cI;rw[mP h hx];simp
theorem xU{x:Pr}(h:m.procs[j]?=some x)(hx:cJ x.body 1 (250-(gL (m.procs.take j):Int))=false):cI m=false:=by
 have:pT m.procs 250=false:=by
  unfold pT;rw[List.all_eq_false];exact⟨j,by simpa using (zC1.1 h).1,by rw[h];simpa using hx⟩
 unfold cI;rw[this];simp
theorem aCb(h0:aO m.name true=true)(h1:m.uses.length<=6)(h2:m.vars.length<=8)(h3:m.procs.length<=8)(g1:∀(j:Nat) (x:List Int),m.uses[j]?=some x->aO x true=true)(g2:∀(j:Nat) (x:Va),m.vars[j]?=some x->yM x=true)(g3:∀(j:Nat) (x:Pr),m.procs[j]?=some x->cJ x.body 1 (250-(gL (m.procs.take j):Int))=true/\qH x=true):cI m=true:=by
 have h7:pT m.procs 250=true:=by
  unfold pT;rw[zF3];intro j hj;have Gw:j<m.procs.length:=by simpa using hj
  have hx:=zA0 Gw;rw[hx];exact(g3 j _ hx).1
 unfold cI;rw[h0,zB3 h1,zB3 h2,zB3 h3,mO (f:=sK) g1,mO g2,mO (f:=qH) fun j x hx=>(g3 j x hx).2,h7];rfl
theorem aC2(h:aO v.name false=false):yM v=false:=by unfold yM;rw[h];rfl
theorem tJ(h:v.size<0\/20<v.size):yM v=false:=by
 unfold yM inB;rw[zH3];right;simp;omega
theorem aGf(h:aO v.name false=true)(h0:0<=v.size)(h1:v.size<=20):yM v=true:=by
 unfold yM inB;rw[h];simp;omega
theorem aEs(h:aO q.name false=false):qH q=false:=by unfold qH;rw[h];rfl
theorem xK(h:4<q.params.length):qH q=false:=by unfold qH;rw[zC2 (by omega:¬q.params.length<=4)];simp
theorem xL(h:8<q.locals.length):qH q=false:=by unfold qH;rw[zC2 (by omega:¬q.locals.length<=8)];simp
theorem aB8{x:Pa}(h:q.params[j]?=some x)(hx:aO x.name false=false):qH q=false:=by unfold qH;rw[mP h (f:=aSy) hx];simp
theorem aB9(h:q.locals[j]?=some x)(hx:aO x false=false):qH q=false:=by unfold qH;rw[mP h (f:=wI) hx];simp
theorem aIc(h0:aO q.name false=true)(h1:q.params.length<=4)(h2:q.locals.length<=8)(g1:∀(j:Nat) (x:Pa),q.params[j]?=some x->aO x.name false=true)(g2:∀(j:Nat) (x:List Int),q.locals[j]?=some x->aO x false=true):qH q=true:=by
 unfold qH;rw[h0,zB3 h1,zB3 h2,mO (f:=aSy) g1,mO (f:=wI) g2];rfl
end
theorem QA71{p:Prop}(h:p:=by
 go_wp2
 go_ret
 exact⟨aF he.out.symm,HY.out⟩):p:=h
theorem QA76{p:Prop}(h:p:=by
 go_wp2
 go_ret
 exact⟨aF he.out.symm,yy⟩):p:=h
theorem QA86{p:Prop}(h:p:=by
 go_wp2
 go_ret
 exact⟨aF he.out.symm,aN Hh.out none⟩):p:=h
theorem QA87{p:Prop}(h:p:=by
 go_wp2
 go_ret
 exact⟨aF he.out.symm,aN Bv.out none⟩):p:=h
set_option maxHeartbeats 40000000 in
theorem aOj (m:Mo)(vs:List Value)(w:World)(hr:aL w m.fl vs)(hs:aP m.fl<=1048576):
  Calls Tryz.prog 97 #[agg vs] w fun e w'=>e=.returned (.bool (cI m))/\w.grownBy w' none:=by
 have Qi:aP m.fl=m.name.length+((dK m.uses).length+aG (dK m.uses))+((m.vars.map Va.fl).length+aG (m.vars.map Va.fl))+((m.procs.map Pr.fl).length+aG (m.procs.map Pr.fl)):=by simp[Mo.fl,aP,Fl.len] <;> omega
 rw[Qi]at hs;have hs0:m.name.length<=1048576:=A0;have Jw:aG (dK m.uses)<=1048576:=A0;have Df:aG (m.vars.map Va.fl)<=1048576:=A0;have Nb:aG (m.procs.map Pr.fl)<=1048576:=A0;clear hs Qi;unfold Mo.fl at hr;obtain⟨y0,_,rfl,⟨a0,c0,rfl,h0,Iu,_⟩,y1,_,rfl,La,y2,_,rfl,Xw,y3,_,rfl,h3',rfl⟩:=hr;obtain⟨a1,c1,rfl,h1⟩:=La.list;obtain⟨a2,c2,rfl,h2⟩:=Xw.list;obtain⟨a3,c3,rfl,h3⟩:=h3'.list;clear La Xw h3';have k1:(dK m.uses).length=m.uses.length:=by simp[dK]
 have k2:(m.vars.map Va.fl).length=m.vars.length:=by simp
 have k3:(m.procs.map Pr.fl).length=m.procs.length:=by simp
 have m1:m.uses.length<=9223372036854775807:=by have h7:=h1.cap;have h6:=h1.most;unfold maxLen at h6;omega
 have m2:m.vars.length<=9223372036854775807:=by have h7:=h2.cap;have h6:=h2.most;unfold maxLen at h6;omega
 have m3:m.procs.length<=9223372036854775807:=by have h7:=h3.cap;have h6:=h3.most;unfold maxLen at h6;omega
 rw[k1,k2,k3];simp only[agg];obtain⟨n0,e0⟩:=zx (m.name.length);obtain⟨n1,e1⟩:=zx (m.uses.length);obtain⟨n2,e2⟩:=zx (m.vars.length);obtain⟨n3,e3⟩:=zx (m.procs.length);rw[<-e0]at h0 hs0 Iu ⊢;rw[<-e1]at k1 m1 ⊢;rw[<-e2]at k2 m2 ⊢;rw[<-e3]at k3 m3 ⊢;have E1:=hid e1.symm;have E2:=hid e2.symm;have E3:=hid e3.symm;clear e0 e1 e2 e3;have yy:=aE w (.cells #[.slice a0 n0 c0,.slice a1 n1 c1,.slice a2 n2 c2,.slice a3 n3 c3] 81 (0,0)) none;have x0:=Blk.new w 81 [.slice a0 n0 c0,.slice a1 n1 c1,.slice a2 n2 c2,.slice a3 n3 c3];have HN:=aR a0 _ c0 m.name true _ (h0.below (aA yy)) A0;have H1:=hid h1;have H2:=hid h2;have H3:=hid h3;clear h0 h1 h2 h3 Iu;go_enter Tryz.func97,Tryz.ntmps97;go_upto_region 1 with fail;generalize w.alloc (.cells #[.slice a0 n0 c0,.slice a1 n1 c1,.slice a2 n2 c2,.slice a3 n3 c3] 81 (0,0))=w1 at *;obtain⟨gx,Au⟩:=zx (w.heap.size);rw[<-Au]at x0 ⊢;have HGX:=hid Au;clear Au;obtain⟨q0,q1,q2,q3⟩:=x0.c4;generalize Aj:aO m.name true=ok at HN;have HNO:=hid Aj;clear Aj;go_wp2_with fail;refine HN.mono ?_;rintro e w1 ⟨rfl,rfl⟩;clear HN;cases ok
 .
  have he:=hid (xT HNO.out);exact QA76
 by_cases l1:(6:Int)<(n1:Int)
 .
  have he:Hid (cI m=false):=xS (by rw[E1.out];omega);exact QA76
 by_cases l2:(8:Int)<(n2:Int)
 .
  have he:Hid (cI m=false):=xR (by rw[E2.out];omega);exact QA76
 by_cases l3:(8:Int)<(n3:Int)
 .
  have he:Hid (cI m=false):=vC (by rw[E3.out];omega);exact QA76
 go_wp2_with fail;have Ga:=hid x0;have HY:=hid yy;clear q0 q1 q2 q3 x0 yy;go_loopw [3] (fun i wr=>wr=w1/\∃j:Nat,j<=n1/\i=.int .i64 j/\Hid (∀(i:Nat) (x:List Int),i<j->m.uses[i]?=some x->aO x true=true)) (fun i _=>n1-(intOf i).toNat)
 case atStart=>exact⟨rfl,0,zD1 _,rfl,by show ∀_ _,_;omega⟩
 case round=>
  obtain⟨rfl,j,hj,rfl,Aq⟩:=hrel;have q1:=Blk.cell Ga.out (i:=1) rfl;by_cases Ad:j<n1
  .
   obtain⟨b,o,rfl⟩:=aX.addr H1.out (by rw[k1];omega);obtain⟨x,hx⟩:∃x,m.uses[j]?=some x:=⟨m.uses[j]'(by rw[E1.out];exact Ad),zA0 _⟩
   have Bc:(dK m.uses)[j]?=some [.b x]:=by unfold dK;rw[zA2,hx];rfl
   obtain⟨us,Al,Ab⟩:=((aX.below H1.out (aA HY.out)).el Bc).vals;obtain⟨y0,_,rfl,⟨ax,cx,rfl,Ce,_⟩,rfl⟩:=Al;have t0:wr.cell? ⟨b,o+j*1,none⟩=some (.slice ax x.length cx):=Ab 0 _ rfl;have Ch:=zF2 (cA (zA3 Bc)) Jw;have HC:=aR ax x.length cx x true wr Ce (by simp[aP,Fl.len]at Ch;omega);have HJ:=hid hx;clear Ab hx Bc Ch Ce;generalize Aj:aO x true=ok at HC;have Zk:=hid Aj;clear Aj;generalize x.length=nx at *;simp only[Nat.mul_one]at t0;go_wp2_with fail;refine HC.mono ?_;rintro e wr ⟨rfl,rfl⟩;clear HC;cases ok
   .
    have he:=hid (aCc HJ.out Zk.out);exact QA71
   .
    go_wp2;go_roundw
    case rel=>exact⟨trivial,j+1,by omega,by go_num,(show ∀(i:Nat) (x:List Int),i<j+1->_ from fun i y hi hy=>(zJ2 i j).elim (fun h=>Aq.out i y h hy) (fun h=>by
     obtain rfl:i=j:=A0;rw[HJ.out]at hy;cases hy;exact Zk.out))⟩
    case measure=>simp[intOf];omega
  .
   have:n1=j:=A0;subst this;have HU:Hid (∀(i:Nat) (x:List Int),m.uses[i]?=some x->aO x true=true):=fun i y hy=>Aq.out i y (by have:=(zC1.1 hy).1;rw[E1.out]at this;exact this) hy;clear Aq;go_wp2_with fail;clear q1;go_loopw [4] (fun i wr'=>wr'=wr/\∃j:Nat,j<=n2/\i=.int .i64 j/\Hid (∀(i:Nat) (x:Va),i<j->m.vars[i]?=some x->yM x=true)) (fun i _=>n2-(intOf i).toNat)
   case atStart=>exact⟨rfl,0,zD1 _,rfl,by show ∀_ _,_;omega⟩
   case round=>
    obtain⟨rfl,j,hj,rfl,Aq⟩:=hrel;have q2:=Blk.cell Ga.out (i:=2) rfl;by_cases Ad:j<n2
    .
     obtain⟨b,o,rfl⟩:=aX.addr H2.out (by rw[k2];omega);obtain⟨x,hx⟩:∃x,m.vars[j]?=some x:=⟨m.vars[j]'(by rw[E2.out];exact Ad),zA0 _⟩
     have Bc:(m.vars.map Va.fl)[j]?=some x.fl:=by rw[zA2,hx];rfl
     obtain⟨us,Al,Ab⟩:=((aX.below H2.out (aA HY.out)).el Bc).vals;obtain⟨y0,_,rfl,⟨ax,cx,rfl,Ce,_⟩,y1,_,rfl,rfl,rfl⟩:=Al;have t0:wr.cell? ⟨b,o+j*2,none⟩=some (.slice ax x.name.length cx):=Ab 0 _ rfl;have t1:wr.cell? ⟨b,o+j*2+1,none⟩=some (.int .i64 x.size):=Ab 1 _ rfl;have Ch:=zF2 (cA (zA3 Bc)) Df;have HC:=aR ax x.name.length cx x.name false wr Ce (by simp[Va.fl,aP,Fl.len]at Ch;omega);have HJ:=hid hx;clear Ab hx Bc Ch Ce;generalize Aj:aO x.name false=ok at HC;have Zk:=hid Aj;clear Aj;generalize x.name.length=nx at *;obtain⟨sz,Bg⟩:=zx (x.size);rw[<-Bg]at t1;have HSZ:=hid Bg.symm;clear Bg;go_wp2_with fail;refine HC.mono ?_;rintro e wr ⟨rfl,rfl⟩;clear HC;cases ok
     .
      have he:=hid (nD HJ.out (aC2 Zk.out));exact QA71
     by_cases z0:sz<0
     .
      have he:Hid (cI m=false):=nD HJ.out (tJ (.inl (by rw[HSZ.out];exact z0)));exact QA71
     by_cases z1:20<sz
     .
      have he:Hid (cI m=false):=nD HJ.out (tJ (.inr (by rw[HSZ.out];exact z1)));exact QA71
     have HV:Hid (yM x=true):=aGf Zk.out (by rw[HSZ.out];omega) (by rw[HSZ.out];omega);go_wp2;go_roundw
     case rel=>exact⟨trivial,j+1,by omega,by go_num,(show ∀(i:Nat) (x:Va),i<j+1->_ from fun i y hi hy=>(zJ2 i j).elim (fun h=>Aq.out i y h hy) (fun h=>by
      obtain rfl:i=j:=A0;rw[HJ.out]at hy;cases hy;exact HV.out))⟩
     case measure=>simp[intOf];omega
    .
     have:n2=j:=A0;subst this;have HVA:Hid (∀(i:Nat) (x:Va),m.vars[i]?=some x->yM x=true):=fun i y hy=>Aq.out i y (by have:=(zC1.1 hy).1;rw[E2.out]at this;exact this) hy;clear Aq;have hL:Lft (wr.alloc (.cells #[.int .i64 250] 3 (0,0))) wr.heap.size 250:=Blk.new wr 3 [.int .i64 250];have hb:Below w.heap.size w (wr.alloc (.cells #[.int .i64 250] 3 (0,0))):=(aA HY.out).alloc HY.out.size _;have Au:gx ≠ wr.heap.size:=by have:=Blk.lt Ga.out;omega
     have x0:=Blk.old Ga.out (o:=.cells #[.int .i64 250] 3 (0,0));have hwg:w.heap.size<=wr.heap.size:=HY.out.size;go_upto_region 14 with fail;generalize wr.alloc (.cells #[.int .i64 250] 3 (0,0))=w2 at *;generalize wr.heap.size=g at *;have HXP:=hid x0;have HB:Hid (Below w.heap.size w w2):=hb;have HL:Hid (Lft w2 g (250-(gL (m.procs.take 0):Int))):=by show Lft _ _ _;simpa [gL] using hL
     clear Ga HY x0 hb hL q2;go_wp2_with fail;go_loopw [6,7,8,9] (fun i _ _ _ wr=>∃j:Nat,j<=n3/\i=.int .i64 j/\Hid (w2.grownBy wr (some g))/\Hid (Lft wr g (250-(gL (m.procs.take j):Int)))/\Hid ((gL (m.procs.take j):Int)<=250)/\Hid (∀(i:Nat) (x:Pr),i<j->m.procs[i]?=some x->cJ x.body 1 (250-(gL (m.procs.take i):Int))=true/\qH x=true)) (fun i _ _ _ _=>n3-(intOf i).toNat)
     case atStart=>exact⟨0,zD1 _,rfl,aQ _ _,HL,by show(_:Int)<=_;simp[gL],by show ∀_ _,_;omega⟩
     case round=>
      obtain⟨j,hj,rfl,Am,Cw,Ei,Aq⟩:=hrel;clear HL;have q3:=(Blk.grown HXP.out Am.out Au).k 3;have hb:=bY HB.out Am.out hwg;by_cases Ad:j<n3
      .
       obtain⟨b,o,rfl⟩:=aX.addr H3.out (by rw[k3];omega);obtain⟨x,hx⟩:∃x,m.procs[j]?=some x:=⟨m.procs[j]'(by rw[E3.out];exact Ad),zA0 _⟩
       have Bc:(m.procs.map Pr.fl)[j]?=some x.fl:=by rw[zA2,hx];rfl
       have Ch:=zF2 (cA (zA3 Bc)) Nb;have Qi:aP x.fl=x.name.length+((x.params.map Pa.fl).length+aG (x.params.map Pa.fl))+((dK x.locals).length+aG (dK x.locals))+((sts x.body).length+aG (sts x.body)):=by simp[Pr.fl,aP,Fl.len] <;> omega
       rw[Qi]at Ch;have s0:x.name.length<=1048576:=A0;have s2:aG (x.params.map Pa.fl)<=1048576:=A0;have s3:aG (dK x.locals)<=1048576:=A0;have s4:aG (sts x.body)<=1048576:=A0;clear Ch Qi;obtain⟨us,Al,Ab⟩:=(aX.el H3.out Bc).vals;replace Ab:∀i v,_->_:=fun i v hv=>aB (Ab i v hv) hb;unfold Pr.fl at Al;obtain⟨y0,_,rfl,⟨p0,d0,rfl,g0,_⟩,y1,_,rfl,rfl,y2,_,rfl,g2',y3,_,rfl,g3',y4,_,rfl,g4',rfl⟩:=Al;obtain⟨p2,d2,rfl,g2⟩:=g2'.list;obtain⟨p3,d3,rfl,g3⟩:=g3'.list;obtain⟨p4,d4,rfl,g4⟩:=g4'.list;clear g2' g3' g4';have j2:(x.params.map Pa.fl).length=x.params.length:=by simp
       have j3:(dK x.locals).length=x.locals.length:=by simp[dK]
       have j4:(sts x.body).length=x.body.length:=by simp[bE]
       have b2:x.params.length<=9223372036854775807:=by have h7:=g2.cap;have h6:=g2.most;unfold maxLen at h6;omega
       have b3:x.locals.length<=9223372036854775807:=by have h7:=g3.cap;have h6:=g3.most;unfold maxLen at h6;omega
       rw[j2,j3,j4]at Ab;generalize x.opn=bo at Ab;have t0:wr.cell? ⟨b,o+j*5,none⟩=some (.slice p0 x.name.length d0):=Ab 0 _ rfl;have t1:wr.cell? ⟨b,o+j*5+1,none⟩=some (.bool bo):=Ab 1 _ rfl;have t2:wr.cell? ⟨b,o+j*5+2,none⟩=some (.slice p2 x.params.length d2):=Ab 2 _ rfl;have t3:wr.cell? ⟨b,o+j*5+3,none⟩=some (.slice p3 x.locals.length d3):=Ab 3 _ rfl;have t4:wr.cell? ⟨b,o+j*5+4,none⟩=some (.slice p4 x.body.length d4):=Ab 4 _ rfl;have HJ:=hid hx;clear Ab hx Bc;obtain⟨v0,f0⟩:=zx (x.name.length);obtain⟨v2,f2⟩:=zx (x.params.length);obtain⟨v3,f3⟩:=zx (x.locals.length);obtain⟨v4,f4⟩:=zx (x.body.length);rw[<-f0]at t0 s0 g0;rw[<-f2]at t2 j2 b2;rw[<-f3]at t3 j3 b3;rw[<-f4]at t4 j4;have F2:=hid f2.symm;have F3:=hid f3.symm;have F4:=hid f4.symm;clear f0 f2 f3 f4;have Ey:=Blk.lt Cw.out;have yp:=aE wr (.cells #[.slice p0 v0 d0,.bool bo,.slice p2 v2 d2,.slice p3 v3 d3,.slice p4 v4 d4] 111 (0,0)) (some g);have xp:=Blk.new wr 111 [.slice p0 v0 d0,.bool bo,.slice p2 v2 d2,.slice p3 v3 d3,.slice p4 v4 d4];have Zf:=Blk.old Cw.out (o:=.cells #[.slice p0 v0 d0,.bool bo,.slice p2 v2 d2,.slice p3 v3 d3,.slice p4 v4 d4] 111 (0,0));go_upto_region 18 with fail;generalize wr.alloc (.cells #[.slice p0 v0 d0,.bool bo,.slice p2 v2 d2,.slice p3 v3 d3,.slice p4 v4 d4] 111 (0,0))=w3 at *;obtain⟨gp,Uw⟩:=zx (wr.heap.size);rw[<-Uw]at xp ⊢;have hgpg:gp ≠ g:=A0;clear Uw Ey;have HG3:=hid (aC Am.out yp);have Je:=bY hb yp hwg;have Bv:=hid Je;have HN:=aR p0 v0 d0 x.name false w3 (g0.below Je) A0;have HC:=aOk x.body w w3 p4 d4 g (250-(gL (m.procs.take j):Int)) 1 g4 Je hwg Zf A25 A0 A0 A0 s4;rw[F4.out]at HC;have HP2:=hid g2;have HP3:=hid g3;have HXB:=hid xp;have Dq:=hid (aBs HJ.out);have r0:=xp.k 0;have r2:=xp.k 2;have r3:=xp.k 3;have r4:=xp.k 4;clear t0 t1 t2 t3 t4 q3 hb Je xp yp Zf g0 g2 g3 g4;generalize Aj:aO x.name false=ok at HN;have Zk:=hid Aj;clear Aj;generalize hft:cJ x.body 1 (250-(gL (m.procs.take j):Int))=ft at HC;have HFT:=hid hft;clear hft;go_wp2_with fail;refine HN.mono ?_;rintro e w3 ⟨rfl,rfl⟩;clear HN;cases ok
       .
        have he:=hid (gT HJ.out (aEs Zk.out));exact QA87
       by_cases y2:(4:Int)<(v2:Int)
       .
        have he:Hid (cI m=false):=gT HJ.out (xK (by rw[F2.out];omega));exact QA87
       by_cases y3:(8:Int)<(v3:Int)
       .
        have he:Hid (cI m=false):=gT HJ.out (xL (by rw[F3.out];omega));exact QA87
       go_wp2_with fail;refine M924 ?_;intro w4 Ah Bd;have Di:=hid (aC HG3.out Ah);have Hh:=hid (bY Bv.out Ah hwg);have Xy:=hid (Blk.grown HXB.out Ah hgpg);have Dv:=hid Bd;clear HC r0 r2 r3 r4 HXB Ah Bd;cases ft
       .
        have he:=hid (xU HJ.out HFT.out);exact QA86
       have Ci:=eP HFT.out;have Fo:Hid (Lft w4 g (250-(gL (m.procs.take (j+1)):Int))):=by
        have:=Dv.out rfl;rw[show(250:Int)-(gL (m.procs.take j):Int)-(aK x.body:Int)=250-(gL (m.procs.take (j+1)):Int) by rw[Dq.out];omega]at this;exact this
       go_wp2_with fail;go_loopw [8] (fun i wr=>wr=w4/\∃k:Nat,k<=v2/\i=.int .i64 k/\Hid (∀(i:Nat) (y:Pa),i<k->x.params[i]?=some y->aO y.name false=true)) (fun i _=>v2-(intOf i).toNat)
       case atStart=>exact⟨rfl,0,zD1 _,rfl,by show ∀_ _,_;omega⟩
       case round=>
        obtain⟨rfl,k,hk,rfl,hye2⟩:=hrel;have r2:=Blk.cell Xy.out (i:=2) rfl;by_cases Dx:k<v2
        .
         obtain⟨b',o',rfl⟩:=aX.addr HP2.out (by rw[j2];omega);obtain⟨y,hy⟩:∃y,x.params[k]?=some y:=⟨x.params[k]'(by rw[F2.out];exact Dx),zA0 _⟩
         have Mz:(x.params.map Pa.fl)[k]?=some y.fl:=by rw[zA2,hy];rfl
         obtain⟨us,Al,Ab⟩:=((aX.below HP2.out Hh.out).el Mz).vals;obtain⟨z0,_,rfl,⟨ax,cx,rfl,Ce,_⟩,z1,_,rfl,rfl,rfl⟩:=Al;have t0:wr.cell? ⟨b',o'+k*2,none⟩=some (.slice ax y.name.length cx):=Ab 0 _ rfl;have Ch:=zF2 (cA (zA3 Mz)) s2;have HC:=aR ax y.name.length cx y.name false wr Ce (by simp[Pa.fl,aP,Fl.len]at Ch;omega);have HK:=hid hy;clear Ab hy Mz Ch Ce;generalize Aj:aO y.name false=ok at HC;have Jh:=hid Aj;clear Aj;generalize y.name.length=ny at *;go_wp2_with fail;refine HC.mono ?_;rintro e wr ⟨rfl,rfl⟩;clear HC;cases ok
         .
          have he:=hid (gT HJ.out (aB8 HK.out Jh.out));exact QA86
         .
          go_wp2;go_roundw
          case rel=>exact⟨trivial,k+1,by omega,by go_num,(show ∀(i:Nat) (y:Pa),i<k+1->_ from fun i u hi hu=>(zJ2 i k).elim (fun h=>hye2.out i u h hu) (fun h=>by
           obtain rfl:i=k:=A0;rw[HK.out]at hu;cases hu;exact Jh.out))⟩
          case measure=>simp[intOf];omega
        .
         have:v2=k:=A0;subst this;have HPA:Hid (∀(i:Nat) (y:Pa),x.params[i]?=some y->aO y.name false=true):=fun i y hy=>hye2.out i y (by have:=(zC1.1 hy).1;rw[F2.out]at this;exact this) hy;clear hye2;go_wp2_with fail;clear r2;go_loopw [9] (fun i wr'=>wr'=wr/\∃k:Nat,k<=v3/\i=.int .i64 k/\Hid (∀(i:Nat) (y:List Int),i<k->x.locals[i]?=some y->aO y false=true)) (fun i _=>v3-(intOf i).toNat)
         case atStart=>exact⟨rfl,0,zD1 _,rfl,by show ∀_ _,_;omega⟩
         case round=>
          obtain⟨rfl,k,hk,rfl,hye3⟩:=hrel;have r3:=Blk.cell Xy.out (i:=3) rfl;by_cases To:k<v3
          .
           obtain⟨b',o',rfl⟩:=aX.addr HP3.out (by rw[j3];omega);obtain⟨y,hy⟩:∃y,x.locals[k]?=some y:=⟨x.locals[k]'(by rw[F3.out];exact To),zA0 _⟩
           have Mz:(dK x.locals)[k]?=some [.b y]:=by unfold dK;rw[zA2,hy];rfl
           obtain⟨us,Al,Ab⟩:=((aX.below HP3.out Hh.out).el Mz).vals;obtain⟨z0,_,rfl,⟨ax,cx,rfl,Ce,_⟩,rfl⟩:=Al;have t0:wr.cell? ⟨b',o'+k*1,none⟩=some (.slice ax y.length cx):=Ab 0 _ rfl;have Ch:=zF2 (cA (zA3 Mz)) s3;have HC:=aR ax y.length cx y false wr Ce (by simp[aP,Fl.len]at Ch;omega);have HK:=hid hy;clear Ab hy Mz Ch Ce;generalize Aj:aO y false=ok at HC;have Jh:=hid Aj;clear Aj;generalize y.length=ny at *;simp only[Nat.mul_one]at t0;go_wp2_with fail;refine HC.mono ?_;rintro e wr ⟨rfl,rfl⟩;clear HC;cases ok
           .
            have he:=hid (gT HJ.out (aB9 HK.out Jh.out));exact QA86
           .
            go_wp2;go_roundw
            case rel=>exact⟨trivial,k+1,by omega,by go_num,(show ∀(i:Nat) (y:List Int),i<k+1->_ from fun i u hi hu=>(zJ2 i k).elim (fun h=>hye3.out i u h hu) (fun h=>by
             obtain rfl:i=k:=A0;rw[HK.out]at hu;cases hu;exact Jh.out))⟩
            case measure=>simp[intOf];omega
          .
           have:v3=k:=A0;subst this;have HLO:Hid (∀(i:Nat) (y:List Int),x.locals[i]?=some y->aO y false=true):=fun i y hy=>hye3.out i y (by have:=(zC1.1 hy).1;rw[F3.out]at this;exact this) hy;clear hye3;have HHD:Hid (qH x=true):=aIc Zk.out (by rw[F2.out];omega) (by rw[F3.out];omega) HPA.out HLO.out;go_wp2;go_roundw
           case rel=>exact⟨j+1,by omega,by go_num,Di,Fo,A11,(show ∀(i:Nat) (x:Pr),i<j+1->_ from fun i u hi hu=>(zJ2 i j).elim (fun h=>Aq.out i u h hu) (fun h=>by
            obtain rfl:i=j:=A0;rw[HJ.out]at hu;cases hu;exact⟨HFT.out,HHD.out⟩))⟩
           case measure=>simp[intOf];omega
      .
       have:n3=j:=A0;subst this;have he:Hid (cI m=true):=aCb HNO.out (by rw[E1.out];omega) (by rw[E2.out];omega) (by rw[E3.out];omega) HU.out HVA.out (fun i y hy=>Aq.out i y (by have:=(zC1.1 hy).1;rw[E3.out]at this;exact this) hy);go_wp2;go_ret;exact⟨aF he.out.symm,aN hb none⟩
end Go.Proofs.YtcbhdhmhidpdgaaGreat
