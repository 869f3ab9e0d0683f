import Derived.Test.YtffphdacgblaoaaGreatDoorSpSt
namespace Go.Proofs.YtffphdacgblaoaaGreatDoor
open Go.RowKit
set_option linter.unusedVariables false
set_option linter.unusedSimpArgs false
set_option maxRecDepth 100000
theorem aNs {α:Type}{l:List α}(h:l.length=6):∃a b c d e f,l=[a,b,c,d,e,f]:=by
 match l,h with
 | [a,b,c,d,e,f],_=>exact⟨a,b,c,d,e,f,rfl⟩
set_option maxHeartbeats 40000000 in
theorem aD1 (l:List St)(S:∀x ∈ l,aP7 x):aJm l:=by
 intro w0 w a c g left d h hb hg hL hl0 hl1 hd0 hd1 hs
 have hln:(sts l).length=l.length:=by simp[bL]
 have h9:l.length<=9223372036854775807:=by have h7:=h.cap;have h6:=h.most;unfold maxLen at h6;omega
 obtain⟨n,hn⟩:∃z,z=l.length:=⟨_,rfl⟩
 rw[<-hn]at h9 hln ⊢;have HN:=hid hn.symm;clear hn
 have HLF:Hid (Lft w g (left-(aU (l.take 0):Int))):=by show Lft _ _ _;simpa [aU] using hL
 have HB:=hid hb;have HR:=hid h;clear hb hL h;go_enter Tryz.func54,Tryz.ntmps54;go_wp2_with fail
 go_loopw [7] (fun i wr=>∃j:Nat,j<=n/\i=.int .i64 j/\Hid (w.grownBy wr (some g))/\Hid (Lft wr g (left-(aU (l.take j):Int)))/\Hid ((aU (l.take j):Int)<=left)/\Hid (∀i x,i<j->l[i]?=some x->bI x d (left-(aU (l.take i):Int))=true)) (fun i _=>n-(intOf i).toNat)
 case atStart=>exact⟨0,zD1 _,rfl,aR _ _,HLF,by show(_:Int)<=_;simp[aU];omega,by show ∀_ _,_;omega⟩
 case round=>
  obtain⟨j,hj,rfl,Az,hLj,hnj,Av⟩:=hrel;clear HLF;have hb:=bZ HB.out Az.out hg
  by_cases Aj:j<n
  .
   obtain⟨b3,o3,rfl⟩:=bQ.addr HR.out (by rw[hln];omega)
   obtain⟨x,hx⟩:∃x,l[j]?=some x:=⟨l[j]'(by rw[HN.out];exact Aj),zA0 _⟩
   have Bc:(sts l)[j]?=some x.fl:=by rw[bL,zA2,hx];rfl
   obtain⟨us,Ai,Ab⟩:=(bQ.el HR.out Bc).vals;obtain⟨u0,u1,u2,u3,u4,u5,rfl⟩:=aNs (Ai.len.trans (aDw x))
   replace Ab:∀i v,_->_:=fun i v hv=>aC (Ab i v hv) hb
   have t0:wr.cell? ⟨b3,o3+j*6,none⟩=some u0:=Ab 0 _ rfl
   have t1:wr.cell? ⟨b3,o3+j*6+1,none⟩=some u1:=Ab 1 _ rfl
   have t2:wr.cell? ⟨b3,o3+j*6+2,none⟩=some u2:=Ab 2 _ rfl
   have t3:wr.cell? ⟨b3,o3+j*6+3,none⟩=some u3:=Ab 3 _ rfl
   have t4:wr.cell? ⟨b3,o3+j*6+4,none⟩=some u4:=Ab 4 _ rfl
   have t5:wr.cell? ⟨b3,o3+j*6+5,none⟩=some u5:=Ab 5 _ rfl
   have hsx:=zF2 (aX (zA3 Bc)) hs;have HC:=S x (zA3 hx) w0 wr [u0,u1,u2,u3,u4,u5] g (left-(aU (l.take j):Int)) d Ai hb hg hLj.out Q27 Q0 hd0 hd1 hsx;simp only[agg]at HC;have HJ:=hid hx;have HNX:=hid (lG hx);clear Ab hx Bc hsx Ai;generalize hsp:bI x d (left-(aU (l.take j):Int))=rr at *;have HSP:=hid hsp;clear hsp;go_wp2_with fail;refine M934 ?_;intro w4 Bd hL4 HG4 HL4;clear HC t0 t1 t2 t3 t4 t5 hb Bd hL4;cases rr
   .
    have he:=hid (vP HJ.out HSP.out);go_wp2;go_ret;rw[he.out]
    exact⟨rfl,HG4.out,by simp⟩
   .
    have hle:=aAj HSP.out
    have HL5:Hid (Lft w4 g (left-(aU (l.take (j+1)):Int))):=by
     have:=HL4.out rfl
     rw[show left-(aU (l.take j):Int)-(mT x:Int)=left-(aU (l.take (j+1)):Int) by rw[HNX.out];omega]at this
     exact this
    go_wp2;go_roundw
    case rel=>exact⟨j+1,by omega,by go_num,HG4,HL5,Q16,(show ∀i x,i<j+1->_ from fun i y hi hy=>(zJ3 i j).elim (fun h=>Av.out i y h hy) (fun h=>by
     obtain rfl:i=j:=Q0
     rw[HJ.out]at hy;cases hy
     exact HSP.out))⟩
    case measure=>simp[intOf];omega
  .
   have:j=n:=Q0
   subst this
   have HSE:Hid (cI l d left=true):=rN (fun i y hy=>Av.out i y (by have:=(zC1.1 hy).1;rw[HN.out]at this;exact this) hy) hl0
   have hLf:=hLj.out
   rw[zD3 (by rw[HN.out];exact zB0 _)]at hLf
   go_wp2;go_ret;rw[HSE.out]
   exact⟨rfl,Az.out,fun _=>hLf⟩
mutual
theorem aQe:∀x:St,aP7 x
 | .mk k n m ks bs es=>aQf k n m ks bs es (aD2 ks) (aD1 bs (aHn bs)) (aD1 es (aHn es))
theorem aHn:∀(l:List St),∀x ∈ l,aP7 x
 | [],x,h=>by simp at h
 | y :: l,x,h=>by
  rcases zG3.1 h with h|h
  .
   rw[h];exact aQe y
  .
   exact aHn l x h
end
theorem aNp (l:List St):aJm l:=aD1 l (aHn l)
theorem nE {α:Type}{l:List α}{f:α->Bool}{j:Nat}{x:α}(h:l[j]?=some x)(hx:f x=false):l.all f=false:=by
 rw[List.all_eq_false];exact⟨x,zA3 h,by simp[hx]⟩
theorem nD {α:Type}{l:List α}{f:α->Bool}(h:∀(j:Nat) (x:α),l[j]?=some x->f x=true):l.all f=true:=by
 rw[zF3];intro x hx;obtain⟨j,hj⟩:=zH3 hx;exact h j x hj
theorem xX {m:Mo}(h:aK m.name true=false):cH m=false:=by unfold cH;rw[h];rfl
theorem xW {m:Mo}(h:6<m.uses.length):cH m=false:=by unfold cH;rw[zC2 (by omega:¬m.uses.length<=6)];simp
theorem xV {m:Mo}(h:8<m.vars.length):cH m=false:=by unfold cH;rw[zC2 (by omega:¬m.vars.length<=8)];simp
theorem vL {m:Mo}(h:8<m.procs.length):cH m=false:=by unfold cH;rw[zC2 (by omega:¬m.procs.length<=8)];simp
theorem aC4 {m:Mo}{j:Nat}{x:List Int}(h:m.uses[j]?=some x)(hx:aK x true=false):cH m=false:=by unfold cH;rw[nE h (f:=jJ) hx];simp
theorem nP {m:Mo}{j:Nat}{x:Va}(h:m.vars[j]?=some x)(hx:mD x=false):cH m=false:=by unfold cH;rw[nE h hx];simp
theorem iT {m:Mo}{j:Nat}{x:Pr}(h:m.procs[j]?=some x)(hx:kH x=false):cH m=false:=by unfold cH;rw[nE h hx];simp
theorem xY {m:Mo}{j:Nat}{x:Pr}(h:m.procs[j]?=some x)(hx:cI x.body 1 (250-(gE (m.procs.take j):Int))=false):cH m=false:=by
 have:kW m.procs 250=false:=by
  unfold kW;rw[List.all_eq_false]
  exact⟨j,by simpa using (zC1.1 h).1,by rw[h];simpa using hx⟩
 unfold cH;rw[this];simp
theorem aC3 {m:Mo}(h0:aK m.name true=true)(h1:m.uses.length<=6)(h2:m.vars.length<=8)(h3:m.procs.length<=8)(g1:∀(j:Nat) (x:List Int),m.uses[j]?=some x->aK x true=true)(g2:∀(j:Nat) (x:Va),m.vars[j]?=some x->mD x=true)(g3:∀(j:Nat) (x:Pr),m.procs[j]?=some x->cI x.body 1 (250-(gE (m.procs.take j):Int))=true/\kH x=true):cH m=true:=by
 have h7:kW m.procs 250=true:=by
  unfold kW;rw[zF3];intro j hj
  have hj':j<m.procs.length:=by simpa using hj
  have hx:=zA0 hj';rw[hx];exact(g3 j _ hx).1
 unfold cH
 rw[h0,zB3 h1,zB3 h2,zB3 h3,nD (f:=jJ) g1,nD g2,nD (f:=kH) fun j x hx=>(g3 j x hx).2,h7]
 rfl
theorem aDp {v:Va}(h:aK v.name false=false):mD v=false:=by unfold mD;rw[h];rfl
theorem tX {v:Va}(h:v.size<0\/20<v.size):mD v=false:=by
 unfold mD inB;rw[zI0];right;simp;omega
theorem aHa {v:Va}(h:aK v.name false=true)(h0:0<=v.size)(h1:v.size<=20):mD v=true:=by
 unfold mD inB;rw[h];simp;omega
theorem aFk {q:Pr}(h:aK q.name false=false):kH q=false:=by unfold kH;rw[h];rfl
theorem xP {q:Pr}(h:4<q.params.length):kH q=false:=by unfold kH;rw[zC2 (by omega:¬q.params.length<=4)];simp
theorem xQ {q:Pr}(h:8<q.locals.length):kH q=false:=by unfold kH;rw[zC2 (by omega:¬q.locals.length<=8)];simp
theorem aCz {q:Pr}{j:Nat}{x:Pa}(h:q.params[j]?=some x)(hx:aK x.name false=false):kH q=false:=by unfold kH;rw[nE h (f:=aDl) hx];simp
theorem aC0 {q:Pr}{j:Nat}{x:List Int}(h:q.locals[j]?=some x)(hx:aK x false=false):kH q=false:=by unfold kH;rw[nE h (f:=jU) hx];simp
theorem aIr {q:Pr}(h0:aK q.name false=true)(h1:q.params.length<=4)(h2:q.locals.length<=8)(g1:∀(j:Nat) (x:Pa),q.params[j]?=some x->aK x.name false=true)(g2:∀(j:Nat) (x:List Int),q.locals[j]?=some x->aK x false=true):kH q=true:=by
 unfold kH;rw[h0,zB3 h1,zB3 h2,nD (f:=aDl) g1,nD (f:=jU) g2]
 rfl
theorem U60{p:Prop}(h:p:=by
 go_wp2
 go_ret
 exact⟨aE he.out.symm,HY.out⟩):p:=h
theorem U71{p:Prop}(h:p:=by
 go_wp2
 go_ret
 exact⟨aE he.out.symm,aW HB4.out none⟩):p:=h
theorem U72{p:Prop}(h:p:=by
 go_wp2
 go_ret
 exact⟨aE he.out.symm,aW HB3.out none⟩):p:=h
set_option maxHeartbeats 40000000 in
theorem aNo (m:Mo)(vs:List Value)(w:World)(hr:cC w m.fl vs)(hs:aL m.fl<=1048576):
  Calls Tryz.prog 19 #[agg vs] w fun e w'=>e=.returned (.bool (cH m))/\w.grownBy w' none:=by
 have es9:aL m.fl=m.name.length+((dC m.uses).length+aH (dC m.uses))+((m.vars.map Va.fl).length+aH (m.vars.map Va.fl))+((m.procs.map Pr.fl).length+aH (m.procs.map Pr.fl)):=by simp[Mo.fl,aL,Fl.len] <;> omega
 rw[es9]at hs;have hs0:m.name.length<=1048576:=Q0
 have hs1:aH (dC m.uses)<=1048576:=Q0
 have hs2:aH (m.vars.map Va.fl)<=1048576:=Q0
 have hs3:aH (m.procs.map Pr.fl)<=1048576:=Q0
 clear hs es9;unfold Mo.fl at hr;obtain⟨y0,_,rfl,⟨a0,c0,rfl,h0,hc0,_⟩,y1,_,rfl,h1',y2,_,rfl,h2',y3,_,rfl,h3',rfl⟩:=hr;obtain⟨a1,c1,rfl,h1⟩:=h1'.list;obtain⟨a2,c2,rfl,h2⟩:=h2'.list;obtain⟨a3,c3,rfl,h3⟩:=h3'.list;clear h1' h2' h3'
 have k1:(dC m.uses).length=m.uses.length:=by simp[dC]
 have k2:(m.vars.map Va.fl).length=m.vars.length:=by simp
 have k3:(m.procs.map Pr.fl).length=m.procs.length:=by simp
 have m1:m.uses.length<=9223372036854775807:=by have h7:=h1.cap;have h6:=h1.most;unfold maxLen at h6;omega
 have m2:m.vars.length<=9223372036854775807:=by have h7:=h2.cap;have h6:=h2.most;unfold maxLen at h6;omega
 have m3:m.procs.length<=9223372036854775807:=by have h7:=h3.cap;have h6:=h3.most;unfold maxLen at h6;omega
 rw[k1,k2,k3];simp only[agg]
 obtain⟨n0,e0⟩:∃z,z=m.name.length:=⟨_,rfl⟩
 obtain⟨n1,e1⟩:∃z,z=m.uses.length:=⟨_,rfl⟩
 obtain⟨n2,e2⟩:∃z,z=m.vars.length:=⟨_,rfl⟩
 obtain⟨n3,e3⟩:∃z,z=m.procs.length:=⟨_,rfl⟩
 rw[<-e0]at h0 hs0 hc0 ⊢;rw[<-e1]at k1 m1 ⊢;rw[<-e2]at k2 m2 ⊢;rw[<-e3]at k3 m3 ⊢;have E1:=hid e1.symm;have E2:=hid e2.symm;have E3:=hid e3.symm;clear e0 e1 e2 e3;have yy:=aB w (.cells #[.slice a0 n0 c0,.slice a1 n1 c1,.slice a2 n2 c2,.slice a3 n3 c3] 27 (0,0)) none;have x0:=Blk.new w 27 [.slice a0 n0 c0,.slice a1 n1 c1,.slice a2 n2 c2,.slice a3 n3 c3];have HN:=bH a0 _ c0 m.name true _ (h0.below (aA yy)) Q0;have H1:=hid h1;have H2:=hid h2;have H3:=hid h3;clear h0 h1 h2 h3 hc0;go_enter Tryz.func19,Tryz.ntmps19;go_upto_region 1 with fail;generalize w.alloc (.cells #[.slice a0 n0 c0,.slice a1 n1 c1,.slice a2 n2 c2,.slice a3 n3 c3] 27 (0,0))=w1 at *
 obtain⟨gx,Al⟩:∃z,z=w.heap.size:=⟨_,rfl⟩
 rw[<-Al]at x0 ⊢;have HGX:=hid Al;clear Al;obtain⟨q0,q1,q2,q3⟩:=x0.c4;generalize hno:aK m.name true=ok at HN;have HNO:=hid hno;clear hno;go_wp2_with fail;refine HN.mono ?_;rintro e w1 ⟨rfl,rfl⟩;clear HN;cases ok
 .
  have he:=hid (xX HNO.out);exact U4
 by_cases l1:(6:Int)<(n1:Int)
 .
  have he:Hid (cH m=false):=xW (by rw[E1.out];omega)
  exact U4
 by_cases l2:(8:Int)<(n2:Int)
 .
  have he:Hid (cH m=false):=xV (by rw[E2.out];omega)
  exact U4
 by_cases l3:(8:Int)<(n3:Int)
 .
  have he:Hid (cH m=false):=vL (by rw[E3.out];omega)
  exact U4
 go_wp2_with fail;have HX0:=hid x0;have HY:=hid yy;clear q0 q1 q2 q3 x0 yy
 go_loopw [3] (fun i wr=>wr=w1/\∃j:Nat,j<=n1/\i=.int .i64 j/\Hid (∀(i:Nat) (x:List Int),i<j->m.uses[i]?=some x->aK x true=true)) (fun i _=>n1-(intOf i).toNat)
 case atStart=>exact⟨rfl,0,zD1 _,rfl,by show ∀_ _,_;omega⟩
 case round=>
  obtain⟨rfl,j,hj,rfl,Av⟩:=hrel;have q1:=Blk.cell HX0.out (i:=1) rfl
  by_cases Aj:j<n1
  .
   obtain⟨b,o,rfl⟩:=bQ.addr H1.out (by rw[k1];omega)
   obtain⟨x,hx⟩:∃x,m.uses[j]?=some x:=⟨m.uses[j]'(by rw[E1.out];exact Aj),zA0 _⟩
   have Bc:(dC m.uses)[j]?=some [.b x]:=by unfold dC;rw[zA2,hx];rfl
   obtain⟨us,Ai,Ab⟩:=((bQ.below H1.out (aA HY.out)).el Bc).vals;obtain⟨y0,_,rfl,⟨ax,cx,rfl,hbx,_⟩,rfl⟩:=Ai
   have t0:wr.cell? ⟨b,o+j*1,none⟩=some (.slice ax x.length cx):=Ab 0 _ rfl
   have hsx:=zF2 (aX (zA3 Bc)) hs1
   have HC:=bH ax x.length cx x true wr hbx (by simp[aL,Fl.len]at hsx;omega)
   have HJ:=hid hx;clear Ab hx Bc hsx hbx;generalize hno:aK x true=ok at HC;have HOK:=hid hno;clear hno;generalize x.length=nx at *;simp only[Nat.mul_one]at t0;go_wp2_with fail;refine HC.mono ?_;rintro e wr ⟨rfl,rfl⟩;clear HC;cases ok
   .
    have he:=hid (aC4 HJ.out HOK.out);exact U60
   .
    go_wp2;go_roundw
    case rel=>exact⟨trivial,j+1,by omega,by go_num,(show ∀(i:Nat) (x:List Int),i<j+1->_ from fun i y hi hy=>(zJ3 i j).elim (fun h=>Av.out i y h hy) (fun h=>by
     obtain rfl:i=j:=Q0
     rw[HJ.out]at hy;cases hy
     exact HOK.out))⟩
    case measure=>simp[intOf];omega
  .
   have:n1=j:=Q0
   subst this
   have HU:Hid (∀(i:Nat) (x:List Int),m.uses[i]?=some x->aK x true=true):=fun i y hy=>Av.out i y (by have:=(zC1.1 hy).1;rw[E1.out]at this;exact this) hy
   clear Av;go_wp2_with fail;clear q1
   go_loopw [4] (fun i wr'=>wr'=wr/\∃j:Nat,j<=n2/\i=.int .i64 j/\Hid (∀(i:Nat) (x:Va),i<j->m.vars[i]?=some x->mD x=true)) (fun i _=>n2-(intOf i).toNat)
   case atStart=>exact⟨rfl,0,zD1 _,rfl,by show ∀_ _,_;omega⟩
   case round=>
    obtain⟨rfl,j,hj,rfl,Av⟩:=hrel;have q2:=Blk.cell HX0.out (i:=2) rfl
    by_cases Aj:j<n2
    .
     obtain⟨b,o,rfl⟩:=bQ.addr H2.out (by rw[k2];omega)
     obtain⟨x,hx⟩:∃x,m.vars[j]?=some x:=⟨m.vars[j]'(by rw[E2.out];exact Aj),zA0 _⟩
     have Bc:(m.vars.map Va.fl)[j]?=some x.fl:=by rw[zA2,hx];rfl
     obtain⟨us,Ai,Ab⟩:=((bQ.below H2.out (aA HY.out)).el Bc).vals;obtain⟨y0,_,rfl,⟨ax,cx,rfl,hbx,_⟩,y1,_,rfl,rfl,rfl⟩:=Ai
     have t0:wr.cell? ⟨b,o+j*2,none⟩=some (.slice ax x.name.length cx):=Ab 0 _ rfl
     have t1:wr.cell? ⟨b,o+j*2+1,none⟩=some (.int .i64 x.size):=Ab 1 _ rfl
     have hsx:=zF2 (aX (zA3 Bc)) hs2
     have HC:=bH ax x.name.length cx x.name false wr hbx (by simp[Va.fl,aL,Fl.len]at hsx;omega)
     have HJ:=hid hx;clear Ab hx Bc hsx hbx;generalize hno:aK x.name false=ok at HC;have HOK:=hid hno;clear hno;generalize x.name.length=nx at *
     obtain⟨sz,Am⟩:∃z,z=x.size:=⟨_,rfl⟩
     rw[<-Am]at t1;have HSZ:=hid Am.symm;clear Am;go_wp2_with fail;refine HC.mono ?_;rintro e wr ⟨rfl,rfl⟩;clear HC;cases ok
     .
      have he:=hid (nP HJ.out (aDp HOK.out));exact U60
     by_cases z0:sz<0
     .
      have he:Hid (cH m=false):=nP HJ.out (tX (.inl (by rw[HSZ.out];exact z0)))
      exact U60
     by_cases z1:20<sz
     .
      have he:Hid (cH m=false):=nP HJ.out (tX (.inr (by rw[HSZ.out];exact z1)))
      exact U60
     have HV:Hid (mD x=true):=aHa HOK.out (by rw[HSZ.out];omega) (by rw[HSZ.out];omega)
     go_wp2;go_roundw
     case rel=>exact⟨trivial,j+1,by omega,by go_num,(show ∀(i:Nat) (x:Va),i<j+1->_ from fun i y hi hy=>(zJ3 i j).elim (fun h=>Av.out i y h hy) (fun h=>by
      obtain rfl:i=j:=Q0
      rw[HJ.out]at hy;cases hy
      exact HV.out))⟩
     case measure=>simp[intOf];omega
    .
     have:n2=j:=Q0
     subst this
     have HVA:Hid (∀(i:Nat) (x:Va),m.vars[i]?=some x->mD x=true):=fun i y hy=>Av.out i y (by have:=(zC1.1 hy).1;rw[E2.out]at this;exact this) hy
     clear Av
     have hL:Lft (wr.alloc (.cells #[.int .i64 250] 3 (0,0))) wr.heap.size 250:=Blk.new wr 3 [.int .i64 250]
     have hb:Below w.heap.size w (wr.alloc (.cells #[.int .i64 250] 3 (0,0))):=(aA HY.out).alloc HY.out.size _
     have Al:gx ≠ wr.heap.size:=by have:=Blk.lt HX0.out;omega
     have x0:=Blk.old HX0.out (o:=.cells #[.int .i64 250] 3 (0,0));have hwg:w.heap.size<=wr.heap.size:=HY.out.size;go_upto_region 14 with fail;generalize wr.alloc (.cells #[.int .i64 250] 3 (0,0))=w2 at *;generalize wr.heap.size=g at *;have HXP:=hid x0
     have HB:Hid (Below w.heap.size w w2):=hb
     have HL:Hid (Lft w2 g (250-(gE (m.procs.take 0):Int))):=by show Lft _ _ _;simpa [gE] using hL
     clear HX0 HY x0 hb hL q2;go_wp2_with fail
     go_loopw [6,7,8,9] (fun i _ _ _ wr=>∃j:Nat,j<=n3/\i=.int .i64 j/\Hid (w2.grownBy wr (some g))/\Hid (Lft wr g (250-(gE (m.procs.take j):Int)))/\Hid ((gE (m.procs.take j):Int)<=250)/\Hid (∀(i:Nat) (x:Pr),i<j->m.procs[i]?=some x->cI x.body 1 (250-(gE (m.procs.take i):Int))=true/\kH x=true)) (fun i _ _ _ _=>n3-(intOf i).toNat)
     case atStart=>exact⟨0,zD1 _,rfl,aR _ _,HL,by show(_:Int)<=_;simp[gE],by show ∀_ _,_;omega⟩
     case round=>
      obtain⟨j,hj,rfl,Az,hLj,hnj,Av⟩:=hrel;clear HL;have q3:=(Blk.grown HXP.out Az.out Al).k 3;have hb:=bZ HB.out Az.out hwg
      by_cases Aj:j<n3
      .
       obtain⟨b,o,rfl⟩:=bQ.addr H3.out (by rw[k3];omega)
       obtain⟨x,hx⟩:∃x,m.procs[j]?=some x:=⟨m.procs[j]'(by rw[E3.out];exact Aj),zA0 _⟩
       have Bc:(m.procs.map Pr.fl)[j]?=some x.fl:=by rw[zA2,hx];rfl
       have hsx:=zF2 (aX (zA3 Bc)) hs3
       have es9:aL x.fl=x.name.length+((x.params.map Pa.fl).length+aH (x.params.map Pa.fl))+((dC x.locals).length+aH (dC x.locals))+((sts x.body).length+aH (sts x.body)):=by simp[Pr.fl,aL,Fl.len] <;> omega
       rw[es9]at hsx;have s0:x.name.length<=1048576:=Q0
       have s2:aH (x.params.map Pa.fl)<=1048576:=Q0
       have s3:aH (dC x.locals)<=1048576:=Q0
       have s4:aH (sts x.body)<=1048576:=Q0
       clear hsx es9;obtain⟨us,Ai,Ab⟩:=(bQ.el H3.out Bc).vals
       replace Ab:∀i v,_->_:=fun i v hv=>aC (Ab i v hv) hb
       unfold Pr.fl at Ai;obtain⟨y0,_,rfl,⟨p0,d0,rfl,g0,_⟩,y1,_,rfl,rfl,y2,_,rfl,g2',y3,_,rfl,g3',y4,_,rfl,g4',rfl⟩:=Ai;obtain⟨p2,d2,rfl,g2⟩:=g2'.list;obtain⟨p3,d3,rfl,g3⟩:=g3'.list;obtain⟨p4,d4,rfl,g4⟩:=g4'.list;clear g2' g3' g4'
       have j2:(x.params.map Pa.fl).length=x.params.length:=by simp
       have j3:(dC x.locals).length=x.locals.length:=by simp[dC]
       have j4:(sts x.body).length=x.body.length:=by simp[bL]
       have b2:x.params.length<=9223372036854775807:=by have h7:=g2.cap;have h6:=g2.most;unfold maxLen at h6;omega
       have b3:x.locals.length<=9223372036854775807:=by have h7:=g3.cap;have h6:=g3.most;unfold maxLen at h6;omega
       rw[j2,j3,j4]at Ab;generalize x.opn=bo at Ab
       have t0:wr.cell? ⟨b,o+j*5,none⟩=some (.slice p0 x.name.length d0):=Ab 0 _ rfl
       have t1:wr.cell? ⟨b,o+j*5+1,none⟩=some (.bool bo):=Ab 1 _ rfl
       have t2:wr.cell? ⟨b,o+j*5+2,none⟩=some (.slice p2 x.params.length d2):=Ab 2 _ rfl
       have t3:wr.cell? ⟨b,o+j*5+3,none⟩=some (.slice p3 x.locals.length d3):=Ab 3 _ rfl
       have t4:wr.cell? ⟨b,o+j*5+4,none⟩=some (.slice p4 x.body.length d4):=Ab 4 _ rfl
       have HJ:=hid hx;clear Ab hx Bc
       obtain⟨v0,f0⟩:∃z,z=x.name.length:=⟨_,rfl⟩
       obtain⟨v2,f2⟩:∃z,z=x.params.length:=⟨_,rfl⟩
       obtain⟨v3,f3⟩:∃z,z=x.locals.length:=⟨_,rfl⟩
       obtain⟨v4,f4⟩:∃z,z=x.body.length:=⟨_,rfl⟩
       rw[<-f0]at t0 s0 g0;rw[<-f2]at t2 j2 b2;rw[<-f3]at t3 j3 b3;rw[<-f4]at t4 j4;have F2:=hid f2.symm;have F3:=hid f3.symm;have F4:=hid f4.symm;clear f0 f2 f3 f4;have hgl:=Blk.lt hLj.out;have yp:=aB wr (.cells #[.slice p0 v0 d0,.bool bo,.slice p2 v2 d2,.slice p3 v3 d3,.slice p4 v4 d4] 55 (0,0)) (some g);have xp:=Blk.new wr 55 [.slice p0 v0 d0,.bool bo,.slice p2 v2 d2,.slice p3 v3 d3,.slice p4 v4 d4];have hL3:=Blk.old hLj.out (o:=.cells #[.slice p0 v0 d0,.bool bo,.slice p2 v2 d2,.slice p3 v3 d3,.slice p4 v4 d4] 55 (0,0));go_upto_region 18 with fail;generalize wr.alloc (.cells #[.slice p0 v0 d0,.bool bo,.slice p2 v2 d2,.slice p3 v3 d3,.slice p4 v4 d4] 55 (0,0))=w3 at *
       obtain⟨gp,hgp⟩:∃z,z=wr.heap.size:=⟨_,rfl⟩
       rw[<-hgp]at xp ⊢
       have hgpg:gp ≠ g:=Q0
       clear hgp hgl;have HG3:=hid (aD Az.out yp);have hb3:=bZ hb yp hwg;have HB3:=hid hb3;have HN:=bH p0 v0 d0 x.name false w3 (g0.below hb3) Q0;have HC:=aNp x.body w w3 p4 d4 g (250-(gE (m.procs.take j):Int)) 1 g4 hb3 hwg hL3 Q27 Q0 Q0 Q0 s4;rw[F4.out]at HC;have HP2:=hid g2;have HP3:=hid g3;have HXB:=hid xp;have HNX:=hid (rJ HJ.out);have r0:=xp.k 0;have r2:=xp.k 2;have r3:=xp.k 3;have r4:=xp.k 4;clear t0 t1 t2 t3 t4 q3 hb hb3 xp yp hL3 g0 g2 g3 g4;generalize hno:aK x.name false=ok at HN;have HOK:=hid hno;clear hno;generalize hft:cI x.body 1 (250-(gE (m.procs.take j):Int))=ft at HC;have HFT:=hid hft;clear hft;go_wp2_with fail;refine HN.mono ?_;rintro e w3 ⟨rfl,rfl⟩;clear HN;cases ok
       .
        have he:=hid (iT HJ.out (aFk HOK.out));exact U72
       by_cases y2:(4:Int)<(v2:Int)
       .
        have he:Hid (cH m=false):=iT HJ.out (xP (by rw[F2.out];omega))
        exact U72
       by_cases y3:(8:Int)<(v3:Int)
       .
        have he:Hid (cH m=false):=iT HJ.out (xQ (by rw[F3.out];omega))
        exact U72
       go_wp2_with fail;refine HC.mono ?_;rintro e w4 ⟨rfl,Bd,hL4⟩;have HG4:=hid (aD HG3.out Bd);have HB4:=hid (bZ HB3.out Bd hwg);have HX4:=hid (Blk.grown HXB.out Bd hgpg);have HL4:=hid hL4;clear HC r0 r2 r3 r4 HXB Bd hL4;cases ft
       .
        have he:=hid (xY HJ.out HFT.out);exact U71
       have hle:=eR HFT.out
       have HL5:Hid (Lft w4 g (250-(gE (m.procs.take (j+1)):Int))):=by
        have:=HL4.out rfl
        rw[show(250:Int)-(gE (m.procs.take j):Int)-(aU x.body:Int)=250-(gE (m.procs.take (j+1)):Int) by rw[HNX.out];omega]at this
        exact this
       go_wp2_with fail
       go_loopw [8] (fun i wr=>wr=w4/\∃k:Nat,k<=v2/\i=.int .i64 k/\Hid (∀(i:Nat) (y:Pa),i<k->x.params[i]?=some y->aK y.name false=true)) (fun i _=>v2-(intOf i).toNat)
       case atStart=>exact⟨rfl,0,zD1 _,rfl,by show ∀_ _,_;omega⟩
       case round=>
        obtain⟨rfl,k,hk,rfl,hye2⟩:=hrel;have r2:=Blk.cell HX4.out (i:=2) rfl
        by_cases hl2:k<v2
        .
         obtain⟨b',o',rfl⟩:=bQ.addr HP2.out (by rw[j2];omega)
         obtain⟨y,hy⟩:∃y,x.params[k]?=some y:=⟨x.params[k]'(by rw[F2.out];exact hl2),zA0 _⟩
         have hyj:(x.params.map Pa.fl)[k]?=some y.fl:=by rw[zA2,hy];rfl
         obtain⟨us,Ai,Ab⟩:=((bQ.below HP2.out HB4.out).el hyj).vals;obtain⟨z0,_,rfl,⟨ax,cx,rfl,hbx,_⟩,z1,_,rfl,rfl,rfl⟩:=Ai
         have t0:wr.cell? ⟨b',o'+k*2,none⟩=some (.slice ax y.name.length cx):=Ab 0 _ rfl
         have hsx:=zF2 (aX (zA3 hyj)) s2
         have HC:=bH ax y.name.length cx y.name false wr hbx (by simp[Pa.fl,aL,Fl.len]at hsx;omega)
         have HK:=hid hy;clear Ab hy hyj hsx hbx;generalize hno:aK y.name false=ok at HC;have HO2:=hid hno;clear hno;generalize y.name.length=ny at *;go_wp2_with fail;refine HC.mono ?_;rintro e wr ⟨rfl,rfl⟩;clear HC;cases ok
         .
          have he:=hid (iT HJ.out (aCz HK.out HO2.out));exact U71
         .
          go_wp2;go_roundw
          case rel=>exact⟨trivial,k+1,by omega,by go_num,(show ∀(i:Nat) (y:Pa),i<k+1->_ from fun i u hi hu=>(zJ3 i k).elim (fun h=>hye2.out i u h hu) (fun h=>by
           obtain rfl:i=k:=Q0
           rw[HK.out]at hu;cases hu
           exact HO2.out))⟩
          case measure=>simp[intOf];omega
        .
         have:v2=k:=Q0
         subst this
         have HPA:Hid (∀(i:Nat) (y:Pa),x.params[i]?=some y->aK y.name false=true):=fun i y hy=>hye2.out i y (by have:=(zC1.1 hy).1;rw[F2.out]at this;exact this) hy
         clear hye2;go_wp2_with fail;clear r2
         go_loopw [9] (fun i wr'=>wr'=wr/\∃k:Nat,k<=v3/\i=.int .i64 k/\Hid (∀(i:Nat) (y:List Int),i<k->x.locals[i]?=some y->aK y false=true)) (fun i _=>v3-(intOf i).toNat)
         case atStart=>exact⟨rfl,0,zD1 _,rfl,by show ∀_ _,_;omega⟩
         case round=>
          obtain⟨rfl,k,hk,rfl,hye3⟩:=hrel;have r3:=Blk.cell HX4.out (i:=3) rfl
          by_cases hl3:k<v3
          .
           obtain⟨b',o',rfl⟩:=bQ.addr HP3.out (by rw[j3];omega)
           obtain⟨y,hy⟩:∃y,x.locals[k]?=some y:=⟨x.locals[k]'(by rw[F3.out];exact hl3),zA0 _⟩
           have hyj:(dC x.locals)[k]?=some [.b y]:=by unfold dC;rw[zA2,hy];rfl
           obtain⟨us,Ai,Ab⟩:=((bQ.below HP3.out HB4.out).el hyj).vals;obtain⟨z0,_,rfl,⟨ax,cx,rfl,hbx,_⟩,rfl⟩:=Ai
           have t0:wr.cell? ⟨b',o'+k*1,none⟩=some (.slice ax y.length cx):=Ab 0 _ rfl
           have hsx:=zF2 (aX (zA3 hyj)) s3
           have HC:=bH ax y.length cx y false wr hbx (by simp[aL,Fl.len]at hsx;omega)
           have HK:=hid hy;clear Ab hy hyj hsx hbx;generalize hno:aK y false=ok at HC;have HO2:=hid hno;clear hno;generalize y.length=ny at *;simp only[Nat.mul_one]at t0;go_wp2_with fail;refine HC.mono ?_;rintro e wr ⟨rfl,rfl⟩;clear HC;cases ok
           .
            have he:=hid (iT HJ.out (aC0 HK.out HO2.out));exact U71
           .
            go_wp2;go_roundw
            case rel=>exact⟨trivial,k+1,by omega,by go_num,(show ∀(i:Nat) (y:List Int),i<k+1->_ from fun i u hi hu=>(zJ3 i k).elim (fun h=>hye3.out i u h hu) (fun h=>by
             obtain rfl:i=k:=Q0
             rw[HK.out]at hu;cases hu
             exact HO2.out))⟩
            case measure=>simp[intOf];omega
          .
           have:v3=k:=Q0
           subst this
           have HLO:Hid (∀(i:Nat) (y:List Int),x.locals[i]?=some y->aK y false=true):=fun i y hy=>hye3.out i y (by have:=(zC1.1 hy).1;rw[F3.out]at this;exact this) hy
           clear hye3
           have HHD:Hid (kH x=true):=aIr HOK.out (by rw[F2.out];omega) (by rw[F3.out];omega) HPA.out HLO.out
           go_wp2;go_roundw
           case rel=>exact⟨j+1,by omega,by go_num,HG4,HL5,Q16,(show ∀(i:Nat) (x:Pr),i<j+1->_ from fun i u hi hu=>(zJ3 i j).elim (fun h=>Av.out i u h hu) (fun h=>by
            obtain rfl:i=j:=Q0
            rw[HJ.out]at hu;cases hu
            exact⟨HFT.out,HHD.out⟩))⟩
           case measure=>simp[intOf];omega
      .
       have:n3=j:=Q0
       subst this
       have he:Hid (cH m=true):=aC3 HNO.out (by rw[E1.out];omega) (by rw[E2.out];omega) (by rw[E3.out];omega) HU.out HVA.out (fun i y hy=>Av.out i y (by have:=(zC1.1 hy).1;rw[E3.out]at this;exact this) hy)
       go_wp2;go_ret;exact⟨aE he.out.symm,aW hb none⟩
end Go.Proofs.YtffphdacgblaoaaGreatDoor
