import Derived.Test.YtegkhlkjfeafjaaGreatDoorSpSt
namespace Go.Proofs.YtegkhlkjfeafjaaGreatDoor
open Go.RowKit
set_option linter.unusedVariables false
set_option linter.unusedSimpArgs false
set_option maxRecDepth 100000
theorem aJ4 {α:Type}{l:List α}(h:l.length=6):∃a b c d e f,l=[a,b,c,d,e,f]:=by
 match l,h with
 | [a,b,c,d,e,f],_=>exact⟨a,b,c,d,e,f,rfl⟩
set_option maxHeartbeats 40000000 in
theorem aA8 (l:List St)(S:∀x ∈ l,aLg x):aFv l:=by
 intro w0 w a c g left d h hb hg hL hl0 hl1 hd0 hd1 hs
 have hln:(sts l).length=l.length:=by simp[aM]
 have h9:l.length<=9223372036854775807:=by have h7:=h.cap;have h6:=h.most;unfold maxLen at h6;omega
 obtain⟨n,hn⟩:∃z,z=l.length:=⟨_,rfl⟩
 rw[<-hn]at h9 hln ⊢;have HN:=hid hn.symm;clear hn
 have HLF:Hid (Lft w g (left-(aW (l.take 0):Int))):=by show Lft _ _ _;simpa [aW] using hL
 have HB:=hid hb;have HR:=hid h;clear hb hL h;go_enter Tryz.func119,Tryz.ntmps119;go_wp2_with fail
 go_loopw [7] (fun i wr=>∃j:Nat,j<=n/\i=.int .i64 j/\Hid (w.grownBy wr (some g))/\Hid (Lft wr g (left-(aW (l.take j):Int)))/\Hid ((aW (l.take j):Int)<=left)/\Hid (∀i x,i<j->l[i]?=some x->bL x d (left-(aW (l.take i):Int))=true)) (fun i _=>n-(intOf i).toNat)
 case atStart=>exact⟨0,zD1 _,rfl,aN0 _ _,HLF,by show(_:Int)<=_;simp[aW];omega,by show ∀_ _,_;omega⟩
 case round=>
  obtain⟨j,hj,rfl,Bk,hLj,hnj,Bc⟩:=hrel;clear HLF;have hb:=bZ HB.out Bk.out hg
  by_cases Ai:j<n
  .
   obtain⟨b3,o3,rfl⟩:=aS.addr HR.out (by rw[hln];omega)
   obtain⟨x,hx⟩:∃x,l[j]?=some x:=⟨l[j]'(by rw[HN.out];exact Ai),zA0 _⟩
   have Ak:(sts l)[j]?=some x.fl:=by rw[aM,zA2,hx];rfl
   obtain⟨us,Ad,Ab⟩:=(aS.el HR.out Ak).vals;obtain⟨u0,u1,u2,u3,u4,u5,rfl⟩:=aJ4 (Ad.len.trans (aA1 x))
   replace Ab:∀i v,_->_:=fun i v hv=>aB (Ab i v hv) hb
   have t0:wr.cell? ⟨b3,o3+j*6,none⟩=some u0:=Ab 0 _ rfl
   have t1:wr.cell? ⟨b3,o3+j*6+1,none⟩=some u1:=Ab 1 _ rfl
   have t2:wr.cell? ⟨b3,o3+j*6+2,none⟩=some u2:=Ab 2 _ rfl
   have t3:wr.cell? ⟨b3,o3+j*6+3,none⟩=some u3:=Ab 3 _ rfl
   have t4:wr.cell? ⟨b3,o3+j*6+4,none⟩=some u4:=Ab 4 _ rfl
   have t5:wr.cell? ⟨b3,o3+j*6+5,none⟩=some u5:=Ab 5 _ rfl
   have hsx:=zF2 (bK (zA3 Ak)) hs;have HC:=S x (zA3 hx) w0 wr [u0,u1,u2,u3,u4,u5] g (left-(aW (l.take j):Int)) d Ad hb hg hLj.out V31 V6 hd0 hd1 hsx;simp only[agg]at HC;have HJ:=hid hx;have HNX:=hid (kD hx);clear Ab hx Ak hsx Ad;generalize hsp:bL x d (left-(aW (l.take j):Int))=rr at *;have HSP:=hid hsp;clear hsp;go_wp2_with fail;refine M964 ?_;intro w4 Bg hL4 HG4 HL4;clear HC t0 t1 t2 t3 t4 t5 hb Bg hL4;cases rr
   .
    have he:=hid (sX HJ.out HSP.out);go_wp2;go_ret;rw[he.out]
    exact⟨rfl,HG4.out,by simp⟩
   .
    have hle:=wQ HSP.out
    have HL5:Hid (Lft w4 g (left-(aW (l.take (j+1)):Int))):=by
     have:=HL4.out rfl
     rw[show left-(aW (l.take j):Int)-(kX x:Int)=left-(aW (l.take (j+1)):Int) by rw[HNX.out];omega]at this
     exact this
    go_wp2;go_roundw
    case rel=>exact⟨j+1,by omega,by go_num,HG4,HL5,V23,(show ∀i x,i<j+1->_ from fun i y hi hy=>(zK1 i j).elim (fun h=>Bc.out i y h hy) (fun h=>by
     obtain rfl:i=j:=V6
     rw[HJ.out]at hy;cases hy
     exact HSP.out))⟩
    case measure=>simp[intOf];omega
  .
   have:j=n:=V6
   subst this
   have HSE:Hid (bP l d left=true):=pV (fun i y hy=>Bc.out i y (by have:=(zC1.1 hy).1;rw[HN.out]at this;exact this) hy) hl0
   have hLf:=hLj.out
   rw[zD3 (by rw[HN.out];exact zB0 _)]at hLf
   go_wp2;go_ret;rw[HSE.out]
   exact⟨rfl,Bk.out,fun _=>hLf⟩
mutual
theorem aLn:∀x:St,aLg x
 | .mk k n m ks bs es=>aLo k n m ks bs es (aA9 ks) (aA8 bs (aEb bs)) (aA8 es (aEb es))
theorem aEb:∀(l:List St),∀x ∈ l,aLg x
 | [],x,h=>by simp at h
 | y :: l,x,h=>by
  rcases zH0.1 h with h|h
  .
   rw[h];exact aLn y
  .
   exact aEb l x h
end
theorem aJ1 (l:List St):aFv l:=aA8 l (aEb l)
theorem mH {α:Type}{l:List α}{f:α->Bool}{j:Nat}{x:α}(h:l[j]?=some x)(hx:f x=false):l.all f=false:=by
 rw[zH3];exact⟨x,zA3 h,by simp[hx]⟩
theorem mG {α:Type}{l:List α}{f:α->Bool}(h:∀(j:Nat) (x:α),l[j]?=some x->f x=true):l.all f=true:=by
 rw[zF3];intro x hx;obtain⟨j,hj⟩:=zI1 hx;exact h j x hj
theorem uX {m:Mo}(h:aK m.name true=false):bY m=false:=by unfold bY;rw[h];rfl
theorem uW {m:Mo}(h:6<m.uses.length):bY m=false:=by unfold bY;rw[zC2 (by omega:¬m.uses.length<=6)];simp
theorem uV {m:Mo}(h:8<m.vars.length):bY m=false:=by unfold bY;rw[zC2 (by omega:¬m.vars.length<=8)];simp
theorem sV {m:Mo}(h:8<m.procs.length):bY m=false:=by unfold bY;rw[zC2 (by omega:¬m.procs.length<=8)];simp
theorem zV {m:Mo}{j:Nat}{x:List Int}(h:m.uses[j]?=some x)(hx:aK x true=false):bY m=false:=by unfold bY;rw[mH h (f:=iK) hx];simp
theorem mP {m:Mo}{j:Nat}{x:Va}(h:m.vars[j]?=some x)(hx:lF x=false):bY m=false:=by unfold bY;rw[mH h hx];simp
theorem gV {m:Mo}{j:Nat}{x:Pr}(h:m.procs[j]?=some x)(hx:jU x=false):bY m=false:=by unfold bY;rw[mH h hx];simp
theorem uY {m:Mo}{j:Nat}{x:Pr}(h:m.procs[j]?=some x)(hx:bP x.body 1 (250-(eZ (m.procs.take j):Int))=false):bY m=false:=by
 have:jW m.procs 250=false:=by
  unfold jW;rw[zH3]
  exact⟨j,by simpa using (zC1.1 h).1,by rw[h];simpa using hx⟩
 unfold bY;rw[this];simp
theorem zU {m:Mo}(h0:aK m.name true=true)(h1:m.uses.length<=6)(h2:m.vars.length<=8)(h3:m.procs.length<=8)(g1:∀(j:Nat) (x:List Int),m.uses[j]?=some x->aK x true=true)(g2:∀(j:Nat) (x:Va),m.vars[j]?=some x->lF x=true)(g3:∀(j:Nat) (x:Pr),m.procs[j]?=some x->bP x.body 1 (250-(eZ (m.procs.take j):Int))=true/\jU x=true):bY m=true:=by
 have h7:jW m.procs 250=true:=by
  unfold jW;rw[zF3];intro j hj
  have hj':j<m.procs.length:=by simpa using hj
  have hx:=zA0 hj';rw[hx];exact(g3 j _ hx).1
 unfold bY
 rw[h0,zB3 h1,zB3 h2,zB3 h3,mG (f:=iK) g1,mG g2,mG (f:=jU) fun j x hx=>(g3 j x hx).2,h7]
 rfl
theorem aAp {v:Va}(h:aK v.name false=false):lF v=false:=by unfold lF;rw[h];rfl
theorem rT {v:Va}(h:v.size<0\/20<v.size):lF v=false:=by
 unfold lF inB;rw[zI2];right;simp;omega
theorem aDu {v:Va}(h:aK v.name false=true)(h0:0<=v.size)(h1:v.size<=20):lF v=true:=by
 unfold lF inB;rw[h];simp;omega
theorem aCg {q:Pr}(h:aK q.name false=false):jU q=false:=by unfold jU;rw[h];rfl
theorem uS {q:Pr}(h:4<q.params.length):jU q=false:=by unfold jU;rw[zC2 (by omega:¬q.params.length<=4)];simp
theorem uT {q:Pr}(h:8<q.locals.length):jU q=false:=by unfold jU;rw[zC2 (by omega:¬q.locals.length<=8)];simp
theorem zQ {q:Pr}{j:Nat}{x:Pa}(h:q.params[j]?=some x)(hx:aK x.name false=false):jU q=false:=by unfold jU;rw[mH h (f:=aAl) hx];simp
theorem zR {q:Pr}{j:Nat}{x:List Int}(h:q.locals[j]?=some x)(hx:aK x false=false):jU q=false:=by unfold jU;rw[mH h (f:=iR) hx];simp
theorem aE3 {q:Pr}(h0:aK q.name false=true)(h1:q.params.length<=4)(h2:q.locals.length<=8)(g1:∀(j:Nat) (x:Pa),q.params[j]?=some x->aK x.name false=true)(g2:∀(j:Nat) (x:List Int),q.locals[j]?=some x->aK x false=true):jU q=true:=by
 unfold jU;rw[h0,zB3 h1,zB3 h2,mG (f:=aAl) g1,mG (f:=iR) g2]
 rfl
theorem U335{p:Prop}(h:p:=by
 go_wp2
 go_ret
 exact⟨aE he.out.symm,HY.out⟩):p:=h
theorem U346{p:Prop}(h:p:=by
 go_wp2
 go_ret
 exact⟨aE he.out.symm,aI HB4.out none⟩):p:=h
theorem U347{p:Prop}(h:p:=by
 go_wp2
 go_ret
 exact⟨aE he.out.symm,aI HB3.out none⟩):p:=h
set_option maxHeartbeats 40000000 in
theorem aJ0 (m:Mo)(vs:List Value)(w:World)(hr:aO w m.fl vs)(hs:aH m.fl<=1048576):
  Calls Tryz.prog 70 #[agg vs] w fun e w'=>e=.returned (.bool (bY m))/\w.grownBy w' none:=by
 have es9:aH m.fl=m.name.length+((bH m.uses).length+aF (bH m.uses))+((m.vars.map Va.fl).length+aF (m.vars.map Va.fl))+((m.procs.map Pr.fl).length+aF (m.procs.map Pr.fl)):=by simp[Mo.fl,aH,Fl.len] <;> omega
 rw[es9]at hs;have hs0:m.name.length<=1048576:=V6
 have hs1:aF (bH m.uses)<=1048576:=V6
 have hs2:aF (m.vars.map Va.fl)<=1048576:=V6
 have hs3:aF (m.procs.map Pr.fl)<=1048576:=V6
 clear hs es9;unfold Mo.fl at hr;obtain⟨y0,_,rfl,⟨a0,c0,rfl,h0,hc0,_⟩,y1,_,rfl,h1',y2,_,rfl,h2',y3,_,rfl,h3',rfl⟩:=hr;obtain⟨a1,c1,rfl,h1⟩:=h1'.list;obtain⟨a2,c2,rfl,h2⟩:=h2'.list;obtain⟨a3,c3,rfl,h3⟩:=h3'.list;clear h1' h2' h3'
 have k1:(bH m.uses).length=m.uses.length:=by simp[bH]
 have k2:(m.vars.map Va.fl).length=m.vars.length:=by simp
 have k3:(m.procs.map Pr.fl).length=m.procs.length:=by simp
 have m1:m.uses.length<=9223372036854775807:=by have h7:=h1.cap;have h6:=h1.most;unfold maxLen at h6;omega
 have m2:m.vars.length<=9223372036854775807:=by have h7:=h2.cap;have h6:=h2.most;unfold maxLen at h6;omega
 have m3:m.procs.length<=9223372036854775807:=by have h7:=h3.cap;have h6:=h3.most;unfold maxLen at h6;omega
 rw[k1,k2,k3];simp only[agg]
 obtain⟨n0,e0⟩:∃z,z=m.name.length:=⟨_,rfl⟩
 obtain⟨n1,e1⟩:∃z,z=m.uses.length:=⟨_,rfl⟩
 obtain⟨n2,e2⟩:∃z,z=m.vars.length:=⟨_,rfl⟩
 obtain⟨n3,e3⟩:∃z,z=m.procs.length:=⟨_,rfl⟩
 rw[<-e0]at h0 hs0 hc0 ⊢;rw[<-e1]at k1 m1 ⊢;rw[<-e2]at k2 m2 ⊢;rw[<-e3]at k3 m3 ⊢;have E1:=hid e1.symm;have E2:=hid e2.symm;have E3:=hid e3.symm;clear e0 e1 e2 e3;have yy:=aC w (.cells #[.slice a0 n0 c0,.slice a1 n1 c1,.slice a2 n2 c2,.slice a3 n3 c3] 48 (0,0)) none;have x0:=Blk.new w 48 [.slice a0 n0 c0,.slice a1 n1 c1,.slice a2 n2 c2,.slice a3 n3 c3];have HN:=bI a0 _ c0 m.name true _ (h0.below (aA yy)) V6;have H1:=hid h1;have H2:=hid h2;have H3:=hid h3;clear h0 h1 h2 h3 hc0;go_enter Tryz.func70,Tryz.ntmps70;go_upto_region 1 with fail;generalize w.alloc (.cells #[.slice a0 n0 c0,.slice a1 n1 c1,.slice a2 n2 c2,.slice a3 n3 c3] 48 (0,0))=w1 at *
 obtain⟨gx,An⟩:∃z,z=w.heap.size:=⟨_,rfl⟩
 rw[<-An]at x0 ⊢;have HGX:=hid An;clear An;obtain⟨q0,q1,q2,q3⟩:=x0.c4;generalize hno:aK m.name true=ok at HN;have HNO:=hid hno;clear hno;go_wp2_with fail;refine HN.mono ?_;rintro e w1 ⟨rfl,rfl⟩;clear HN;cases ok
 .
  have he:=hid (uX HNO.out);exact U270
 by_cases l1:(6:Int)<(n1:Int)
 .
  have he:Hid (bY m=false):=uW (by rw[E1.out];omega)
  exact U270
 by_cases l2:(8:Int)<(n2:Int)
 .
  have he:Hid (bY m=false):=uV (by rw[E2.out];omega)
  exact U270
 by_cases l3:(8:Int)<(n3:Int)
 .
  have he:Hid (bY m=false):=sV (by rw[E3.out];omega)
  exact U270
 go_wp2_with fail;have HX0:=hid x0;have HY:=hid yy;clear q0 q1 q2 q3 x0 yy
 go_loopw [3] (fun i wr=>wr=w1/\∃j:Nat,j<=n1/\i=.int .i64 j/\Hid (∀(i:Nat) (x:List Int),i<j->m.uses[i]?=some x->aK x true=true)) (fun i _=>n1-(intOf i).toNat)
 case atStart=>exact⟨rfl,0,zD1 _,rfl,by show ∀_ _,_;omega⟩
 case round=>
  obtain⟨rfl,j,hj,rfl,Bc⟩:=hrel;have q1:=Blk.cell HX0.out (i:=1) rfl
  by_cases Ai:j<n1
  .
   obtain⟨b,o,rfl⟩:=aS.addr H1.out (by rw[k1];omega)
   obtain⟨x,hx⟩:∃x,m.uses[j]?=some x:=⟨m.uses[j]'(by rw[E1.out];exact Ai),zA0 _⟩
   have Ak:(bH m.uses)[j]?=some [.b x]:=by unfold bH;rw[zA2,hx];rfl
   obtain⟨us,Ad,Ab⟩:=((aS.below H1.out (aA HY.out)).el Ak).vals;obtain⟨y0,_,rfl,⟨ax,cx,rfl,hbx,_⟩,rfl⟩:=Ad
   have t0:wr.cell? ⟨b,o+j*1,none⟩=some (.slice ax x.length cx):=Ab 0 _ rfl
   have hsx:=zF2 (bK (zA3 Ak)) hs1
   have HC:=bI ax x.length cx x true wr hbx (by simp[aH,Fl.len]at hsx;omega)
   have HJ:=hid hx;clear Ab hx Ak hsx hbx;generalize hno:aK x true=ok at HC;have HOK:=hid hno;clear hno;generalize x.length=nx at *;simp only[Nat.mul_one]at t0;go_wp2_with fail;refine HC.mono ?_;rintro e wr ⟨rfl,rfl⟩;clear HC;cases ok
   .
    have he:=hid (zV HJ.out HOK.out);exact U335
   .
    go_wp2;go_roundw
    case rel=>exact⟨trivial,j+1,by omega,by go_num,(show ∀(i:Nat) (x:List Int),i<j+1->_ from fun i y hi hy=>(zK1 i j).elim (fun h=>Bc.out i y h hy) (fun h=>by
     obtain rfl:i=j:=V6
     rw[HJ.out]at hy;cases hy
     exact HOK.out))⟩
    case measure=>simp[intOf];omega
  .
   have:n1=j:=V6
   subst this
   have HU:Hid (∀(i:Nat) (x:List Int),m.uses[i]?=some x->aK x true=true):=fun i y hy=>Bc.out i y (by have:=(zC1.1 hy).1;rw[E1.out]at this;exact this) hy
   clear Bc;go_wp2_with fail;clear q1
   go_loopw [4] (fun i wr'=>wr'=wr/\∃j:Nat,j<=n2/\i=.int .i64 j/\Hid (∀(i:Nat) (x:Va),i<j->m.vars[i]?=some x->lF x=true)) (fun i _=>n2-(intOf i).toNat)
   case atStart=>exact⟨rfl,0,zD1 _,rfl,by show ∀_ _,_;omega⟩
   case round=>
    obtain⟨rfl,j,hj,rfl,Bc⟩:=hrel;have q2:=Blk.cell HX0.out (i:=2) rfl
    by_cases Ai:j<n2
    .
     obtain⟨b,o,rfl⟩:=aS.addr H2.out (by rw[k2];omega)
     obtain⟨x,hx⟩:∃x,m.vars[j]?=some x:=⟨m.vars[j]'(by rw[E2.out];exact Ai),zA0 _⟩
     have Ak:(m.vars.map Va.fl)[j]?=some x.fl:=by rw[zA2,hx];rfl
     obtain⟨us,Ad,Ab⟩:=((aS.below H2.out (aA HY.out)).el Ak).vals;obtain⟨y0,_,rfl,⟨ax,cx,rfl,hbx,_⟩,y1,_,rfl,rfl,rfl⟩:=Ad
     have t0:wr.cell? ⟨b,o+j*2,none⟩=some (.slice ax x.name.length cx):=Ab 0 _ rfl
     have t1:wr.cell? ⟨b,o+j*2+1,none⟩=some (.int .i64 x.size):=Ab 1 _ rfl
     have hsx:=zF2 (bK (zA3 Ak)) hs2
     have HC:=bI ax x.name.length cx x.name false wr hbx (by simp[Va.fl,aH,Fl.len]at hsx;omega)
     have HJ:=hid hx;clear Ab hx Ak hsx hbx;generalize hno:aK x.name false=ok at HC;have HOK:=hid hno;clear hno;generalize x.name.length=nx at *
     obtain⟨sz,Bb⟩:∃z,z=x.size:=⟨_,rfl⟩
     rw[<-Bb]at t1;have HSZ:=hid Bb.symm;clear Bb;go_wp2_with fail;refine HC.mono ?_;rintro e wr ⟨rfl,rfl⟩;clear HC;cases ok
     .
      have he:=hid (mP HJ.out (aAp HOK.out));exact U335
     by_cases z0:sz<0
     .
      have he:Hid (bY m=false):=mP HJ.out (rT (.inl (by rw[HSZ.out];exact z0)))
      exact U335
     by_cases z1:20<sz
     .
      have he:Hid (bY m=false):=mP HJ.out (rT (.inr (by rw[HSZ.out];exact z1)))
      exact U335
     have HV:Hid (lF x=true):=aDu HOK.out (by rw[HSZ.out];omega) (by rw[HSZ.out];omega)
     go_wp2;go_roundw
     case rel=>exact⟨trivial,j+1,by omega,by go_num,(show ∀(i:Nat) (x:Va),i<j+1->_ from fun i y hi hy=>(zK1 i j).elim (fun h=>Bc.out i y h hy) (fun h=>by
      obtain rfl:i=j:=V6
      rw[HJ.out]at hy;cases hy
      exact HV.out))⟩
     case measure=>simp[intOf];omega
    .
     have:n2=j:=V6
     subst this
     have HVA:Hid (∀(i:Nat) (x:Va),m.vars[i]?=some x->lF x=true):=fun i y hy=>Bc.out i y (by have:=(zC1.1 hy).1;rw[E2.out]at this;exact this) hy
     clear Bc
     have hL:Lft (wr.alloc (.cells #[.int .i64 250] 3 (0,0))) wr.heap.size 250:=Blk.new wr 3 [.int .i64 250]
     have hb:Below w.heap.size w (wr.alloc (.cells #[.int .i64 250] 3 (0,0))):=(aA HY.out).alloc HY.out.size _
     have An:gx ≠ wr.heap.size:=by have:=Blk.lt HX0.out;omega
     have x0:=Blk.old HX0.out (o:=.cells #[.int .i64 250] 3 (0,0));have hwg:w.heap.size<=wr.heap.size:=HY.out.size;go_upto_region 14 with fail;generalize wr.alloc (.cells #[.int .i64 250] 3 (0,0))=w2 at *;generalize wr.heap.size=g at *
     have HXP:Hid (Blk w2 gx 48 [.slice a0 n0 c0,.slice a1 n1 c1,.slice a2 n2 c2,.slice a3 n3 c3]):=x0
     have HB:Hid (Below w.heap.size w w2):=hb
     have HL:Hid (Lft w2 g (250-(eZ (m.procs.take 0):Int))):=by show Lft _ _ _;simpa [eZ] using hL
     clear HX0 HY x0 hb hL q2;go_wp2_with fail
     go_loopw [6,7,8,9] (fun i _ _ _ wr=>∃j:Nat,j<=n3/\i=.int .i64 j/\Hid (w2.grownBy wr (some g))/\Hid (Lft wr g (250-(eZ (m.procs.take j):Int)))/\Hid ((eZ (m.procs.take j):Int)<=250)/\Hid (∀(i:Nat) (x:Pr),i<j->m.procs[i]?=some x->bP x.body 1 (250-(eZ (m.procs.take i):Int))=true/\jU x=true)) (fun i _ _ _ _=>n3-(intOf i).toNat)
     case atStart=>exact⟨0,zD1 _,rfl,aN0 _ _,HL,by show(_:Int)<=_;simp[eZ],by show ∀_ _,_;omega⟩
     case round=>
      obtain⟨j,hj,rfl,Bk,hLj,hnj,Bc⟩:=hrel;clear HL;have q3:=(Blk.grown HXP.out Bk.out An).k 3;have hb:=bZ HB.out Bk.out hwg
      by_cases Ai:j<n3
      .
       obtain⟨b,o,rfl⟩:=aS.addr H3.out (by rw[k3];omega)
       obtain⟨x,hx⟩:∃x,m.procs[j]?=some x:=⟨m.procs[j]'(by rw[E3.out];exact Ai),zA0 _⟩
       have Ak:(m.procs.map Pr.fl)[j]?=some x.fl:=by rw[zA2,hx];rfl
       have hsx:=zF2 (bK (zA3 Ak)) hs3
       have es9:aH x.fl=x.name.length+((x.params.map Pa.fl).length+aF (x.params.map Pa.fl))+((bH x.locals).length+aF (bH x.locals))+((sts x.body).length+aF (sts x.body)):=by simp[Pr.fl,aH,Fl.len] <;> omega
       rw[es9]at hsx;have s0:x.name.length<=1048576:=V6
       have s2:aF (x.params.map Pa.fl)<=1048576:=V6
       have s3:aF (bH x.locals)<=1048576:=V6
       have s4:aF (sts x.body)<=1048576:=V6
       clear hsx es9;obtain⟨us,Ad,Ab⟩:=(aS.el H3.out Ak).vals
       replace Ab:∀i v,_->_:=fun i v hv=>aB (Ab i v hv) hb
       unfold Pr.fl at Ad;obtain⟨y0,_,rfl,⟨p0,d0,rfl,g0,_⟩,y1,_,rfl,rfl,y2,_,rfl,g2',y3,_,rfl,g3',y4,_,rfl,g4',rfl⟩:=Ad;obtain⟨p2,d2,rfl,g2⟩:=g2'.list;obtain⟨p3,d3,rfl,g3⟩:=g3'.list;obtain⟨p4,d4,rfl,g4⟩:=g4'.list;clear g2' g3' g4'
       have j2:(x.params.map Pa.fl).length=x.params.length:=by simp
       have j3:(bH x.locals).length=x.locals.length:=by simp[bH]
       have j4:(sts x.body).length=x.body.length:=by simp[aM]
       have b2:x.params.length<=9223372036854775807:=by have h7:=g2.cap;have h6:=g2.most;unfold maxLen at h6;omega
       have b3:x.locals.length<=9223372036854775807:=by have h7:=g3.cap;have h6:=g3.most;unfold maxLen at h6;omega
       rw[j2,j3,j4]at Ab;generalize x.opn=bo at Ab
       have t0:wr.cell? ⟨b,o+j*5,none⟩=some (.slice p0 x.name.length d0):=Ab 0 _ rfl
       have t1:wr.cell? ⟨b,o+j*5+1,none⟩=some (.bool bo):=Ab 1 _ rfl
       have t2:wr.cell? ⟨b,o+j*5+2,none⟩=some (.slice p2 x.params.length d2):=Ab 2 _ rfl
       have t3:wr.cell? ⟨b,o+j*5+3,none⟩=some (.slice p3 x.locals.length d3):=Ab 3 _ rfl
       have t4:wr.cell? ⟨b,o+j*5+4,none⟩=some (.slice p4 x.body.length d4):=Ab 4 _ rfl
       have HJ:=hid hx;clear Ab hx Ak
       obtain⟨v0,f0⟩:∃z,z=x.name.length:=⟨_,rfl⟩
       obtain⟨v2,f2⟩:∃z,z=x.params.length:=⟨_,rfl⟩
       obtain⟨v3,f3⟩:∃z,z=x.locals.length:=⟨_,rfl⟩
       obtain⟨v4,f4⟩:∃z,z=x.body.length:=⟨_,rfl⟩
       rw[<-f0]at t0 s0 g0;rw[<-f2]at t2 j2 b2;rw[<-f3]at t3 j3 b3;rw[<-f4]at t4 j4;have F2:=hid f2.symm;have F3:=hid f3.symm;have F4:=hid f4.symm;clear f0 f2 f3 f4;have hgl:=Blk.lt hLj.out;have yp:=aC wr (.cells #[.slice p0 v0 d0,.bool bo,.slice p2 v2 d2,.slice p3 v3 d3,.slice p4 v4 d4] 95 (0,0)) (some g);have xp:=Blk.new wr 95 [.slice p0 v0 d0,.bool bo,.slice p2 v2 d2,.slice p3 v3 d3,.slice p4 v4 d4];have hL3:=Blk.old hLj.out (o:=.cells #[.slice p0 v0 d0,.bool bo,.slice p2 v2 d2,.slice p3 v3 d3,.slice p4 v4 d4] 95 (0,0));go_upto_region 18 with fail;generalize wr.alloc (.cells #[.slice p0 v0 d0,.bool bo,.slice p2 v2 d2,.slice p3 v3 d3,.slice p4 v4 d4] 95 (0,0))=w3 at *
       obtain⟨gp,hgp⟩:∃z,z=wr.heap.size:=⟨_,rfl⟩
       rw[<-hgp]at xp ⊢
       have hgpg:gp ≠ g:=V6
       clear hgp hgl;have HG3:=hid (aD Bk.out yp);have hb3:=bZ hb yp hwg;have HB3:=hid hb3;have HN:=bI p0 v0 d0 x.name false w3 (g0.below hb3) V6;have HC:=aJ1 x.body w w3 p4 d4 g (250-(eZ (m.procs.take j):Int)) 1 g4 hb3 hwg hL3 V31 V6 V6 V6 s4;rw[F4.out]at HC;have HP2:=hid g2;have HP3:=hid g3;have HXB:=hid xp;have HNX:=hid (pT HJ.out);have r0:=xp.k 0;have r2:=xp.k 2;have r3:=xp.k 3;have r4:=xp.k 4;clear t0 t1 t2 t3 t4 q3 hb hb3 xp yp hL3 g0 g2 g3 g4;generalize hno:aK x.name false=ok at HN;have HOK:=hid hno;clear hno;generalize hft:bP x.body 1 (250-(eZ (m.procs.take j):Int))=ft at HC;have HFT:=hid hft;clear hft;go_wp2_with fail;refine HN.mono ?_;rintro e w3 ⟨rfl,rfl⟩;clear HN;cases ok
       .
        have he:=hid (gV HJ.out (aCg HOK.out));exact U347
       by_cases y2:(4:Int)<(v2:Int)
       .
        have he:Hid (bY m=false):=gV HJ.out (uS (by rw[F2.out];omega))
        exact U347
       by_cases y3:(8:Int)<(v3:Int)
       .
        have he:Hid (bY m=false):=gV HJ.out (uT (by rw[F3.out];omega))
        exact U347
       go_wp2_with fail;refine HC.mono ?_;rintro e w4 ⟨rfl,Bg,hL4⟩;have HG4:=hid (aD HG3.out Bg);have HB4:=hid (bZ HB3.out Bg hwg);have HX4:=hid (Blk.grown HXB.out Bg hgpg);have HL4:=hid hL4;clear HC r0 r2 r3 r4 HXB Bg hL4;cases ft
       .
        have he:=hid (uY HJ.out HFT.out);exact U346
       have hle:=eP HFT.out
       have HL5:Hid (Lft w4 g (250-(eZ (m.procs.take (j+1)):Int))):=by
        have:=HL4.out rfl
        rw[show(250:Int)-(eZ (m.procs.take j):Int)-(aW x.body:Int)=250-(eZ (m.procs.take (j+1)):Int) by rw[HNX.out];omega]at this
        exact this
       go_wp2_with fail
       go_loopw [8] (fun i wr=>wr=w4/\∃k:Nat,k<=v2/\i=.int .i64 k/\Hid (∀(i:Nat) (y:Pa),i<k->x.params[i]?=some y->aK y.name false=true)) (fun i _=>v2-(intOf i).toNat)
       case atStart=>exact⟨rfl,0,zD1 _,rfl,by show ∀_ _,_;omega⟩
       case round=>
        obtain⟨rfl,k,hk,rfl,hye2⟩:=hrel;have r2:=Blk.cell HX4.out (i:=2) rfl
        by_cases hl2:k<v2
        .
         obtain⟨b',o',rfl⟩:=aS.addr HP2.out (by rw[j2];omega)
         obtain⟨y,hy⟩:∃y,x.params[k]?=some y:=⟨x.params[k]'(by rw[F2.out];exact hl2),zA0 _⟩
         have hyj:(x.params.map Pa.fl)[k]?=some y.fl:=by rw[zA2,hy];rfl
         obtain⟨us,Ad,Ab⟩:=((aS.below HP2.out HB4.out).el hyj).vals;obtain⟨z0,_,rfl,⟨ax,cx,rfl,hbx,_⟩,z1,_,rfl,rfl,rfl⟩:=Ad
         have t0:wr.cell? ⟨b',o'+k*2,none⟩=some (.slice ax y.name.length cx):=Ab 0 _ rfl
         have hsx:=zF2 (bK (zA3 hyj)) s2
         have HC:=bI ax y.name.length cx y.name false wr hbx (by simp[Pa.fl,aH,Fl.len]at hsx;omega)
         have HK:=hid hy;clear Ab hy hyj hsx hbx;generalize hno:aK y.name false=ok at HC;have HO2:=hid hno;clear hno;generalize y.name.length=ny at *;go_wp2_with fail;refine HC.mono ?_;rintro e wr ⟨rfl,rfl⟩;clear HC;cases ok
         .
          have he:=hid (gV HJ.out (zQ HK.out HO2.out));exact U346
         .
          go_wp2;go_roundw
          case rel=>exact⟨trivial,k+1,by omega,by go_num,(show ∀(i:Nat) (y:Pa),i<k+1->_ from fun i u hi hu=>(zK1 i k).elim (fun h=>hye2.out i u h hu) (fun h=>by
           obtain rfl:i=k:=V6
           rw[HK.out]at hu;cases hu
           exact HO2.out))⟩
          case measure=>simp[intOf];omega
        .
         have:v2=k:=V6
         subst this
         have HPA:Hid (∀(i:Nat) (y:Pa),x.params[i]?=some y->aK y.name false=true):=fun i y hy=>hye2.out i y (by have:=(zC1.1 hy).1;rw[F2.out]at this;exact this) hy
         clear hye2;go_wp2_with fail;clear r2
         go_loopw [9] (fun i wr'=>wr'=wr/\∃k:Nat,k<=v3/\i=.int .i64 k/\Hid (∀(i:Nat) (y:List Int),i<k->x.locals[i]?=some y->aK y false=true)) (fun i _=>v3-(intOf i).toNat)
         case atStart=>exact⟨rfl,0,zD1 _,rfl,by show ∀_ _,_;omega⟩
         case round=>
          obtain⟨rfl,k,hk,rfl,hye3⟩:=hrel;have r3:=Blk.cell HX4.out (i:=3) rfl
          by_cases hl3:k<v3
          .
           obtain⟨b',o',rfl⟩:=aS.addr HP3.out (by rw[j3];omega)
           obtain⟨y,hy⟩:∃y,x.locals[k]?=some y:=⟨x.locals[k]'(by rw[F3.out];exact hl3),zA0 _⟩
           have hyj:(bH x.locals)[k]?=some [.b y]:=by unfold bH;rw[zA2,hy];rfl
           obtain⟨us,Ad,Ab⟩:=((aS.below HP3.out HB4.out).el hyj).vals;obtain⟨z0,_,rfl,⟨ax,cx,rfl,hbx,_⟩,rfl⟩:=Ad
           have t0:wr.cell? ⟨b',o'+k*1,none⟩=some (.slice ax y.length cx):=Ab 0 _ rfl
           have hsx:=zF2 (bK (zA3 hyj)) s3
           have HC:=bI ax y.length cx y false wr hbx (by simp[aH,Fl.len]at hsx;omega)
           have HK:=hid hy;clear Ab hy hyj hsx hbx;generalize hno:aK y false=ok at HC;have HO2:=hid hno;clear hno;generalize y.length=ny at *;simp only[Nat.mul_one]at t0;go_wp2_with fail;refine HC.mono ?_;rintro e wr ⟨rfl,rfl⟩;clear HC;cases ok
           .
            have he:=hid (gV HJ.out (zR HK.out HO2.out));exact U346
           .
            go_wp2;go_roundw
            case rel=>exact⟨trivial,k+1,by omega,by go_num,(show ∀(i:Nat) (y:List Int),i<k+1->_ from fun i u hi hu=>(zK1 i k).elim (fun h=>hye3.out i u h hu) (fun h=>by
             obtain rfl:i=k:=V6
             rw[HK.out]at hu;cases hu
             exact HO2.out))⟩
            case measure=>simp[intOf];omega
          .
           have:v3=k:=V6
           subst this
           have HLO:Hid (∀(i:Nat) (y:List Int),x.locals[i]?=some y->aK y false=true):=fun i y hy=>hye3.out i y (by have:=(zC1.1 hy).1;rw[F3.out]at this;exact this) hy
           clear hye3
           have HHD:Hid (jU x=true):=aE3 HOK.out (by rw[F2.out];omega) (by rw[F3.out];omega) HPA.out HLO.out
           go_wp2;go_roundw
           case rel=>exact⟨j+1,by omega,by go_num,HG4,HL5,V23,(show ∀(i:Nat) (x:Pr),i<j+1->_ from fun i u hi hu=>(zK1 i j).elim (fun h=>Bc.out i u h hu) (fun h=>by
            obtain rfl:i=j:=V6
            rw[HJ.out]at hu;cases hu
            exact⟨HFT.out,HHD.out⟩))⟩
           case measure=>simp[intOf];omega
      .
       have:n3=j:=V6
       subst this
       have he:Hid (bY m=true):=zU HNO.out (by rw[E1.out];omega) (by rw[E2.out];omega) (by rw[E3.out];omega) HU.out HVA.out (fun i y hy=>Bc.out i y (by have:=(zC1.1 hy).1;rw[E3.out]at this;exact this) hy)
       go_wp2;go_ret;exact⟨aE he.out.symm,aI hb none⟩
end Go.Proofs.YtegkhlkjfeafjaaGreatDoor
