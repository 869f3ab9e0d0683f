import Derived.Test.YtcbhdhmhidpdgaaGreatDoorPackC
import Derived.Deep.RegionHeld3
namespace Go.Proofs.YtcbhdhmhidpdgaaGreatDoor
open Go.RowKit
set_option linter.unusedVariables false
set_option linter.unusedSimpArgs false
set_option maxRecDepth 100000
theorem A2{p:Prop}(h:p:=by kernel_rfl):p:=h
theorem A9{p:Prop}(h:p:=by show(_:Int)<=_;rw[Dn.out];omega):p:=h
theorem A15{p:Prop}(h:p:=by have:=Bu.out;omega):p:=h
theorem A22{p:Prop}(h:p:=by have:=Ej.out;omega):p:=h
theorem A29{p:Prop}(h:p:=by simp[inB,fV,dK];omega):p:=h
theorem A41{p:Prop}(h:p:=by rw[zB3 Jp.out];rfl):p:=h
theorem A43{p:Prop}(h:p:=by rw[Dp];omega):p:=h
theorem A47{p:Prop}(h:p:=by rw[Gw.out];omega):p:=h
theorem A55{p:Prop}(h:p:=by rw[show eC 6=true from by decide];exact Dz.out):p:=h
theorem QA2{p:Prop}(h:p:=by
 have HD:Hid (cQ (.mk 6 n mod name ks)=1+aD ks):=by show _=_;simp[cQ]
 have Ga:Hid _:=x0
 have HY:Hid (w.grownBy w3 (some g)):=yy
 have Bn:Hid (Below w0.heap.size w0 w3):=hb
 have Ea:Hid (Lft w3 g (m-(aD (ks.take 0):Int))):=by show Lft _ _ _;simpa [aD] using Av
 have Eq:Hid (aW w0 a4 c4 5 (exs ks)):=h4
 have HSK:Hid (aG (exs ks)<=1048576):=Hy
 have HSS:Hid (∀x ∈ ks,aIr x):=S
 have Cq:0<=m:=A0
 have Ez:m<=250:=by have:=Bu.out;omega
 have Cj:d+1<=17:=A0
 have Cr:0<=d+1:=A0
 go_wp2_with fail
 clear q0 q1 q2 q3 q4 x0 yy hb Av h4
 go_loopw [10] (fun i wr=>∃j:Nat,j<=ks.length/\i=.int .i64 j/\Hid (w3.grownBy wr (some g))/\Hid (Lft wr g (m-(aD (ks.take j):Int)))/\Hid ((aD (ks.take j):Int)<=m)/\Hid (∀i x,i<j->ks[i]?=some x->cT x (d+1) true (m-(aD (ks.take i):Int))=true)) (fun i _=>ks.length-(intOf i).toNat)
 case atStart=>exact⟨0,zD1 _,rfl,aP _ _,Ea,by show(_:Int)<=_;simp[aD];omega,by show ∀_ _,_;omega⟩
 case round=>
  obtain⟨j,hj,rfl,Al,Cs,Ej,Ao⟩:=hrel
  clear Ea
  have x0:=Blk.grown Ga.out Al.out Ar
  have q0:=x0.k 0
  have q4:=x0.k 4
  have hb:=bW Bn.out Al.out hg
  by_cases Ad:j<ks.length
  .
   obtain⟨b4,o4,rfl⟩:=aW.addr Eq.out A43
   obtain⟨x,hx⟩:∃x,ks[j]?=some x:=⟨ks[j],zA0 _⟩
   have Bc:(exs ks)[j]?=some x.fl:=by rw[aX,zA2,hx];rfl
   obtain⟨us,Ak,Ab⟩:=(aW.el Eq.out Bc).vals
   obtain⟨u0,u1,u2,u3,u4,rfl⟩:=dT (Ak.len.trans (eL x))
   have Iq:w0.cell? ⟨b4,o4+j*5,none⟩=some u0:=Ab 0 _ rfl
   replace Ab:∀i v,_->_:=fun i v hv=>aB (Ab i v hv) hb
   have t0:wr.cell? ⟨b4,o4+j*5,none⟩=some u0:=Ab 0 _ rfl
   have t1:wr.cell? ⟨b4,o4+j*5+1,none⟩=some u1:=Ab 1 _ rfl
   have t2:wr.cell? ⟨b4,o4+j*5+2,none⟩=some u2:=Ab 2 _ rfl
   have t3:wr.cell? ⟨b4,o4+j*5+3,none⟩=some u3:=Ab 3 _ rfl
   have t4:wr.cell? ⟨b4,o4+j*5+4,none⟩=some u4:=Ab 4 _ rfl
   have Em:=zA3 hx
   have Cd:aO x.fl<=1048576:=zF2 (bZ (zA3 Bc)) HSK.out
   have Ok:Below w0.heap.size w0 wr.drew:=hb.drew
   have Ve:Lft wr.drew g (m-(aD (ks.take j):Int)):=Cs.out
   have HC:=HSS.out x Em w0 wr.drew [u0,u1,u2,u3,u4] g (m-(aD (ks.take j):Int)) (d+1) true Ak Ok hg Ve A22 A0 Cr Cj Cd
   simp only[agg]at HC
   have HJ:Hid (ks[j]?=some x):=hx
   have Dn:Hid (aD (ks.take (j+1))=aD (ks.take j)+cQ x):=bR hx
   clear Ab hx Bc Em Cd Ak Ok Ve
   generalize hsp:cT x (d+1) true (m-(aD (ks.take j):Int))=rr at *
   have Cm:Hid (cT x (d+1) true (m-(aD (ks.take j):Int))=rr):=hsp
   clear hsp
   have Eo:b4 ≠ g:=by
    have:=zI2 w0 _ Iq
    simp only at this
    omega
   have An:(wr.drew.cell? ⟨gx,0,none⟩=some (.int .i64 6)/\wr.drew.cell? ⟨gx,4,none⟩=some (.slice (some ⟨b4,o4,none⟩) ks.length c4)/\wr.drew.cell? ⟨b4,o4+j*5,none⟩=some u0/\wr.drew.cell? ⟨b4,o4+j*5+1,none⟩=some u1/\wr.drew.cell? ⟨b4,o4+j*5+2,none⟩=some u2/\wr.drew.cell? ⟨b4,o4+j*5+3,none⟩=some u3/\wr.drew.cell? ⟨b4,o4+j*5+4,none⟩=some u4):=⟨q0,q4,t0,t1,t2,t3,t4⟩
   have Cy:∀{wl:World},wr.drew.grownBy wl (some g)->(wl.cell? ⟨gx,0,none⟩=some (.int .i64 6)/\wl.cell? ⟨gx,4,none⟩=some (.slice (some ⟨b4,o4,none⟩) ks.length c4)/\wl.cell? ⟨b4,o4+j*5,none⟩=some u0/\wl.cell? ⟨b4,o4+j*5+1,none⟩=some u1/\wl.cell? ⟨b4,o4+j*5+2,none⟩=some u2/\wl.cell? ⟨b4,o4+j*5+3,none⟩=some u3/\wl.cell? ⟨b4,o4+j*5+4,none⟩=some u4):=fun hq=>⟨cG An.1 hq Ar,cG An.2.1 hq Ar,cG An.2.2.1 hq Eo,cG An.2.2.2.1 hq Eo,cG An.2.2.2.2.1 hq Eo,cG An.2.2.2.2.2.1 hq Eo,cG An.2.2.2.2.2.2 hq Eo⟩
   have z5:(0:Int)<=(j:Int):=A0
   have z7:IntKind.i64.wrap (d+1)=d+1:=by rw[IntKind.wrap_i64];omega
   have z6:(j:Int)<(ks.length:Int):=A0
   go_upto_region 21 with fail
   go_region_held3 (fun wx=>(wx.cell? ⟨gx,0,none⟩=some (.int .i64 6)/\wx.cell? ⟨gx,4,none⟩=some (.slice (some ⟨b4,o4,none⟩) ks.length c4)/\wx.cell? ⟨b4,o4+j*5,none⟩=some u0/\wx.cell? ⟨b4,o4+j*5+1,none⟩=some u1/\wx.cell? ⟨b4,o4+j*5+2,none⟩=some u2/\wx.cell? ⟨b4,o4+j*5+3,none⟩=some u3/\wx.cell? ⟨b4,o4+j*5+4,none⟩=some u4)) (first|exact An|exact Lv) (first
    | (go_at_call 190;(with_reducible refine HC.mono ?_);rintro e w4 ⟨rfl,Af,Bd⟩;have Lv:=Cy Af))
   clear Lv Cy An
   have Dg:Hid (w3.grownBy w4 (some g)):=aC Al.out (aC (show wr.grownBy wr.drew (some g) from⟨rfl,rfl,rfl,zB0 _,fun _ _ _=>rfl⟩) Af)
   have Ds:Hid (rr=true->Lft w4 g (m-(aD (ks.take j):Int)-(cQ x:Int))):=Bd
   clear HC t0 t1 t2 t3 t4 q0 q4 x0 hb Af Bd
   cases rr
   .
    have he:Hid (cT (.mk 6 n mod name ks) d Bh left=false):=by show _=_;rw[HE.out];exact eA HJ.out Cm.out
    have Bl:=aC HY.out Dg.out
    go_wp2
    go_ret
    rw[he.out]
    exact⟨rfl,Bl,by simp⟩
   .
    have Ce:=fU Cm.out
    have Ey:Hid (Lft w4 g (m-(aD (ks.take (j+1)):Int))):=by
     have:=Ds.out rfl
     rw[show m-(aD (ks.take j):Int)-(cQ x:Int)=m-(aD (ks.take (j+1)):Int) by rw[Dn.out];omega]at this
     exact this
    go_wp2
    go_roundw
    case rel=>exact⟨j+1,by omega,by go_num,Dg,Ey,A9,(show ∀i x,i<j+1->_ from fun i y hi hy=>(zJ1 i j).elim (fun h=>Ao.out i y h hy) (fun h=>by
     obtain rfl:i=j:=A0
     rw[HJ.out]at hy
     cases hy
     exact Cm.out))⟩
    case measure=>simp[intOf];omega
  .
   have:j=ks.length:=A0
   subst this
   have he:Hid (cT (.mk 6 n mod name ks) d Bh left=true):=by
    show _=_
    rw[HE.out]
    exact dJ (fun i y hy=>Ao.out i y (zC1.1 hy).1 hy) Cq
   have Bl:=aC HY.out Al.out
   have Da:=Cs.out
   rw[List.take_length]at Da
   go_wp2
   go_ret
   rw[he.out]
   exact⟨rfl,Bl,fun _=>by rw[HD.out,show left-((1+aD ks:Nat):Int)=m-(aD ks:Int) by have:=Bu.out;omega];exact Da⟩):p:=h
theorem QA3{p:Prop}(h:p:=by
 have Ce:=fU Cm.out
 have Ey:Hid (Lft w4 g (m-(aD (ks.take (j+1)):Int))):=by
  have:=Ds.out rfl
  rw[show m-(aD (ks.take j):Int)-(cQ x:Int)=m-(aD (ks.take (j+1)):Int) by rw[Dn.out];omega]at this
  exact this
 go_wp2
 go_roundw
 case rel=>exact⟨j+1,by omega,by go_num,Dg,Ey,A9,(show ∀i x,i<j+1->_ from fun i y hi hy=>(zJ1 i j).elim (fun h=>Ao.out i y h hy) (fun h=>by
  obtain rfl:i=j:=A0
  rw[HJ.out]at hy
  cases hy
  exact Cm.out))⟩
 case measure=>simp[intOf];omega):p:=h
theorem QA4{p:Prop}(h:p:=by
 go_wp2
 go_ret
 rw[he.out]
 exact⟨rfl,yy,by simp⟩):p:=h
theorem QA7{p:Prop}(h:p:=by
 have hz:ks.length=0:=jX Gp.out.2 A6
 have Ay:ks=[]:=zE0 hz
 have HT:Hid (dY ks (d+1) false m=true):=by show _=_;rw[Ay];exact jS A0
 have Mj:Hid (aD ks=0):=by show _=_;rw[Ay];rfl
 subst Ay
 simp only[zC3]at q4 ⊢
 clear hz x0 Dp Ju
 go_wp2_with fail
 refine zH1 1 ?_
 rw[zE2]
 go_wp2
 go_ret
 rw[HE.out,HT.out]
 exact⟨rfl,yy,fun _=>by rw[HD.out,Mj.out,show left-((1+0:Nat):Int)=m by have:=Bu.out;omega];exact Av⟩):p:=h
theorem QA12{p:Prop}(h:p:=by
 go_wp2
 go_ret
 rw[he.out]
 exact⟨rfl,Bl,by simp⟩):p:=h
theorem QA15{p:Prop}(h:p:=by
 have Bl:=aC HY.out Al.out
 have Da:=Cs.out
 rw[List.take_length]at Da
 go_wp2
 go_ret
 rw[he.out]
 exact⟨rfl,Bl,fun _=>by rw[HD.out,show left-((1+aD ks:Nat):Int)=m-(aD ks:Int) by have:=Bu.out;omega];exact Da⟩):p:=h
theorem QA20{p:Prop}(h:p:=by
 refine ta 7 ?_
 refine ta 8 ?_
 try simp only[nrm]
 refine sa 9 ?_
 refine sa 10 ?_
 refine sa 11 ?_
 try simp only[nrm]
 refine sa 12 ?_
 refine sa 13 ?_
 refine sa 14 ?_
 try simp only[nrm]
 refine ta 15 ?_
 refine ta 16 ?_
 try simp only[nrm]
 refine sa 17 ?_
 refine sa 18 ?_
 refine sa 19 ?_
 try simp only[nrm]
 refine sa 20 ?_
 refine sa 21 ?_
 refine sa 22 ?_
 try simp only[nrm]
 refine sa 23 ?_
 try simp only[nrm]
 refine ta 24 ?_
 try simp only[nrm]
 refine zK0 A2 ?_ _
 go_wp2
 go_ret
 rw[he.out]
 exact⟨rfl,aC yy (cZ y2 _),by simp⟩):p:=h
theorem QA52{p:Prop}(h:p:=by
 show _=_
 rw[HE.out]
 exact dJ (fun i y hy=>Ao.out i y (zC1.1 hy).1 hy) Cq):p:=h
theorem QA79{p:Prop}(h:p:=by
 refine ta 24 ?_
 try simp only[nrm]
 refine zK0 A2 ?_ _
 go_wp2
 go_ret
 rw[he.out]
 exact⟨rfl,aC yy (cZ (aC y2 hq) _),by simp⟩):p:=h
theorem M92{p q:Prop}(k:q)(h:Kx q->p:=by
 intro kQz
 have Co:=aC y2 hq
 replace x0:=x0.below (aA Co) x0.lt
 replace Av:Lft w3 g m:=Blk.below Av (aA Co) (Blk.lt Av)
 replace yy:=aC yy (cZ Co _)
 replace hb:=hb.trans ((aA Co).mono hb.size)
 clear Co
 obtain⟨q0,q1,q2,q3,q4⟩:=x0.c5
 have hn3:=aQ a3 nn c3 name false w3 (h3.below hb) A0
 have hn2:=aQ a2 nm c2 mod true w3 (h2.below hb) A0
 revert hn2;revert hn3;revert q4;revert q3;revert q2;revert q1;revert q0;revert hb;revert yy;revert Av;revert x0
 exact kQz.o):p:=h ⟨k⟩
theorem M95{p q:Prop}(k:q)(h:Kx q->p:=by
 intro kQz
 try simp only[nrm]
 refine ta 3 ?_
 refine ta 4 ?_
 refine ta 5 ?_
 try simp only[nrm]
 refine ta 6 ?_
 refine ta 7 ?_
 refine ta 8 ?_
 try simp only[nrm]
 refine ta 9 ?_
 refine ta 11 ?_
 refine ta 12 ?_
 try simp only[nrm]
 refine ta 13 ?_
 exact kQz.o):p:=h ⟨k⟩
theorem M914{p q:Prop}(k:q)(h:Kx q->p:=by
 intro kQz
 try simp only[nrm]
 refine ta 14 ?_
 refine ta 15 ?_
 refine ta 16 ?_
 try simp only[nrm]
 refine ta 17 ?_
 refine ta 18 ?_
 refine ta 19 ?_
 try simp only[nrm]
 refine ta 20 ?_
 try simp only[nrm]
 refine sa 21 ?_
 refine sa 22 ?_
 try simp only[nrm]
 exact kQz.o):p:=h ⟨k⟩
theorem M915{p q:Prop}(k:q)(h:Kx q->p:=by
 intro kQz
 try simp only[nrm]
 refine ta 14 ?_
 refine ta 15 ?_
 refine ta 16 ?_
 try simp only[nrm]
 refine ta 17 ?_
 refine ta 18 ?_
 refine ta 19 ?_
 try simp only[nrm]
 refine ta 20 ?_
 exact kQz.o):p:=h ⟨k⟩
theorem M922{p q:Prop}(k:q)(h:Kx q->p:=by
 intro kQz
 refine ta 0 ?_
 refine ta 1 ?_
 refine ta 2 ?_
 exact kQz.o):p:=h ⟨k⟩
theorem M925{p q:Prop}(k:q)(h:Kx q->p:=by
 intro kQz
 refine ta 3 ?_
 refine ta 4 ?_
 refine ta 5 ?_
 exact kQz.o):p:=h ⟨k⟩
theorem M970{p q:Prop}(k:q)(h:Kx q->p:=by
 intro kQz
 have Iq:w0.cell? ⟨b4,o4+j*5,none⟩=some u0:=Ab 0 _ rfl
 replace Ab:∀i v,_->_:=fun i v hv=>aB (Ab i v hv) hb
 have t0:wr.cell? ⟨b4,o4+j*5,none⟩=some u0:=Ab 0 _ rfl
 have t1:wr.cell? ⟨b4,o4+j*5+1,none⟩=some u1:=Ab 1 _ rfl
 have t2:wr.cell? ⟨b4,o4+j*5+2,none⟩=some u2:=Ab 2 _ rfl
 have t3:wr.cell? ⟨b4,o4+j*5+3,none⟩=some u3:=Ab 3 _ rfl
 have t4:wr.cell? ⟨b4,o4+j*5+4,none⟩=some u4:=Ab 4 _ rfl
 have Em:=zA3 hx
 have Cd:aO x.fl<=1048576:=zF2 (bZ (zA3 Bc)) HSK.out
 have Ok:Below w0.heap.size w0 wr.drew:=hb.drew
 have Ve:Lft wr.drew g (m-(aD (ks.take j):Int)):=Cs.out
 have HC:=HSS.out x Em w0 wr.drew [u0,u1,u2,u3,u4] g (m-(aD (ks.take j):Int)) (d+1) false Ak Ok hg Ve A22 A0 Cr Cj Cd
 revert HC;revert Ve;revert Ok;revert Cd;revert Em;revert t4;revert t3;revert t2;revert t1;revert t0;revert Ab;revert Iq
 exact kQz.o):p:=h ⟨k⟩
theorem M934{p q:Prop}(k:q)(h:Kx q->p:=by
 intro kQz
 (with_reducible refine HK.mono ?_)
 rintro e w3 ⟨rfl,hq⟩
 revert hq;revert w3
 exact kQz.o):p:=h ⟨k⟩
theorem M936{p q:Prop}(k:q)(h:Kx q->p:=by
 intro kQz
 have Nj:¬(0:Int)<(nm:Int):=A0
 have Jp:Hid (mod.length=0):=Mi.out.trans em
 revert Jp;revert Nj
 exact kQz.o):p:=h ⟨k⟩
theorem M942{p q:Prop}(k:q)(h:Kx q->p:=by
 intro kQz
 refine ta 23 ?_
 refine ta 24 ?_
 try simp only[nrm]
 exact kQz.o):p:=h ⟨k⟩
theorem M943{p q:Prop}(k:q)(h:Kx q->p:=by
 intro kQz
 have Ga:Hid _:=x0
 have HY:Hid (w.grownBy w3 (some g)):=yy
 have Bn:Hid (Below w0.heap.size w0 w3):=hb
 have Ea:Hid (Lft w3 g (m-(aD (ks.take 0):Int))):=by show Lft _ _ _;simpa [aD] using Av
 have Eq:Hid (aW w0 a4 c4 5 (exs ks)):=h4
 have HSK:Hid (aG (exs ks)<=1048576):=Hy
 have HSS:Hid (∀x ∈ ks,aIr x):=S
 have Cq:0<=m:=A0
 have Ez:m<=250:=by have:=Bu.out;omega
 have Cj:d+1<=17:=A0
 have Cr:0<=d+1:=A0
 revert Cr;revert Cj;revert Ez;revert Cq;revert HSS;revert HSK;revert Eq;revert Ea;revert Bn;revert HY;revert Ga
 exact kQz.o):p:=h ⟨k⟩
theorem M959{p q:Prop}(k:q)(h:Kx q->p:=by
 intro kQz
 have Dg:Hid (w3.grownBy w4 (some g)):=aC Al.out (aC (show wr.grownBy wr.drew (some g) from⟨rfl,rfl,rfl,zB0 _,fun _ _ _=>rfl⟩) Af)
 have Ds:Hid (rr=true->Lft w4 g (m-(aD (ks.take j):Int)-(cQ x:Int))):=Bd
 revert Ds;revert Dg
 exact kQz.o):p:=h ⟨k⟩
theorem M963{p q:Prop}(k:q)(h:Kx q->p:=by
 intro kQz
 have Av:Lft _ g (left-1):=Blk.set Tl (i:=0) (.int .i64 (left-1))
 have hq:w1.grownBy (w1.setCell ⟨g,0,none⟩ (.int .i64 (left-1))) (some g):=uO
 revert hq;revert Av
 exact kQz.o):p:=h ⟨k⟩
def Lft (w:World)(g:Nat)(n:Int):Prop:=Blk w g 3 [.int .i64 n]
def aIr (x:Ex):Prop:=∀(w0 w:World) (vs:List Value) (g:Nat) (left d:Int) (Bh:Bool),aL w0 x.fl vs->Below w0.heap.size w0 w->w0.heap.size<=g->Lft w g left->0<=left->left<=250->0<=d->d<=17->aO x.fl<=1048576 →
 Calls Tryz.prog 190 #[agg vs,.int .i64 d,.bool Bh,.pointer (some ⟨g,0,none⟩)] w fun e w'=>e=.returned (.bool (cT x d Bh left))/\w.grownBy w' (some g)/\(cT x d Bh left=true->Lft w' g (left-(cQ x:Int)))
theorem aJ3 {n:Int}:(n == wrap64 (wrap32 n))=inB n (-2147483648) 2147483647:=by
 rw[Bool.eq_iff_iff];simp only[beq_iff_eq,inB,zC0,zE3,wrap64,wrap32];omega
theorem dT {α:Type}{l:List α}(h:l.length=5):∃a b c d e,l=[a,b,c,d,e]:=by
 match l,h with
 | [a,b,c,d,e],_=>exact⟨a,b,c,d,e,rfl⟩
theorem aCu (n:Int)(w:World):
  Calls Tryz.prog 186 #[.int .i64 n] w fun e w'=>e=.returned (.int .i64 (wrap64 (wrap32 n)))/\w'=w:=by
 go_enter Tryz.func186,Tryz.ntmps186;go_wp2;go_ret;exact⟨rfl,rfl⟩
set_option maxHeartbeats 40000000 in
theorem aRn (k n:Int)(mod name:List Int)(ks:List Ex)(S:∀x ∈ ks,aIr x):aIr (.mk k n mod name ks):=by
 intro w0 w vs g left d Bh hr hb hg hL Gh Wj Yf hd1 hs;unfold Ex.fl at hr;have Ee:mod.length<=1048576/\name.length<=1048576:=by simp only[Ex.fl,aO,Fl.len]at hs;omega
 have Hy:aG (exs ks)<=1048576:=by simp only[Ex.fl,aO,Fl.len]at hs;omega
 clear hs;obtain⟨y0,_,rfl,rfl,y1,_,rfl,rfl,y2,_,rfl,⟨a2,c2,rfl,h2,Dl,_⟩,y3,_,rfl,⟨a3,c3,rfl,h3,Gj,_⟩,y4,_,rfl,Ps,rfl⟩:=hr;obtain⟨a4,c4,rfl,h4⟩:=Ps.list;clear Ps;have Dp:(exs ks).length=ks.length:=by simp[aX]
 have Ju:ks.length<=9223372036854775807:=by have h5:=h4.cap;have h6:=h4.most;unfold maxLen at h6;omega
 rw[Dp];simp only[agg];obtain⟨nn,Iv⟩:=zx (name.length);obtain⟨nm,Gz⟩:=zx (mod.length);rw[<-Iv]at h3 Ee Gj ⊢;rw[<-Gz]at h2 Ee Dl ⊢;have Gw:Hid (name.length=nn):=Iv.symm;have Mi:Hid (mod.length=nm):=Gz.symm;clear Iv Gz;have Fb:g<w.heap.size:=Blk.lt hL;have Ar:w.heap.size ≠ g:=A0;have yy:=aE w (.cells #[.int .i64 k,.int .i64 n,.slice a2 nm c2,.slice a3 nn c3,.slice a4 ks.length c4] 176 (0,0)) (some g);have x0:=Blk.new w 176 [.int .i64 k,.int .i64 n,.slice a2 nm c2,.slice a3 nn c3,.slice a4 ks.length c4];have Tl:=Blk.old hL (o:=.cells #[.int .i64 k,.int .i64 n,.slice a2 nm c2,.slice a3 nn c3,.slice a4 ks.length c4] 176 (0,0));replace hb:Below w0.heap.size w0 (w.alloc (.cells #[.int .i64 k,.int .i64 n,.slice a2 nm c2,.slice a3 nn c3,.slice a4 ks.length c4] 176 (0,0))):=hb.alloc hb.size _;clear hL;go_enter Tryz.func190,Tryz.ntmps190;go_upto_region 1 with fail;generalize w.alloc (.cells #[.int .i64 k,.int .i64 n,.slice a2 nm c2,.slice a3 nn c3,.slice a4 ks.length c4] 176 (0,0))=w1 at *;have z0:=Tl.k 0;have z1:=Tl.free 0;go_upto_region 2 with fail;refine M963 ?_;intro Av hq;replace x0:=x0.grown hq Ar;replace yy:=aC yy hq;replace hb:=bW hb hq hg;generalize w1.setCell ⟨g,0,none⟩ (.int .i64 (left-1))=w2 at *;generalize w.heap.size=gx at *;clear z0 z1 Tl hq Fb;obtain⟨m,hm⟩:=zx (left-1);rw[<-hm]at Av;have z0:=Av.k 0;obtain⟨q0,q1,q2,q3,q4⟩:=x0.c5;have Bu:Hid (m=left-1):=hm;have An:(w2.drew.cell? ⟨g,0,none⟩=some (.int .i64 m)/\w2.drew.cell? ⟨gx,0,none⟩=some (.int .i64 k)/\w2.drew.cell? ⟨gx,1,none⟩=some (.int .i64 n)/\w2.drew.cell? ⟨gx,2,none⟩=some (.slice a2 nm c2)/\w2.drew.cell? ⟨gx,3,none⟩=some (.slice a3 nn c3)/\w2.drew.cell? ⟨gx,4,none⟩=some (.slice a4 ks.length c4)):=⟨z0,q0,q1,q2,q3,q4⟩
 have Cy:∀{wl:World},w2.drew.grownBy wl none->(wl.cell? ⟨g,0,none⟩=some (.int .i64 m)/\wl.cell? ⟨gx,0,none⟩=some (.int .i64 k)/\wl.cell? ⟨gx,1,none⟩=some (.int .i64 n)/\wl.cell? ⟨gx,2,none⟩=some (.slice a2 nm c2)/\wl.cell? ⟨gx,3,none⟩=some (.slice a3 nn c3)/\wl.cell? ⟨gx,4,none⟩=some (.slice a4 ks.length c4)):=by
  intro wl hq;have hb:Below w2.drew.heap.size w2.drew wl:=aA hq;exact⟨aB An.1 hb,aB An.2.1 hb,aB An.2.2.1 hb,aB An.2.2.2.1 hb,aB An.2.2.2.2.1 hb,aB An.2.2.2.2.2 hb⟩
 have HK:=aLd k n (.slice a2 nm c2) (.slice a3 nn c3) a4 ks.length c4 w2.drew Ju;have y2:w2.grownBy w2.drew none:=⟨rfl,rfl,rfl,zB0 _,fun _ _ _=>rfl⟩
 by_cases r1:m<0
 .
  have he:Hid (cT (.mk k n mod name ks) d Bh left=false):=tE (.inl A0);clear HK Cy hm;refine zJ3 (S:=fun wx=>(wx.cell? ⟨g,0,none⟩=some (.int .i64 m)/\wx.cell? ⟨gx,0,none⟩=some (.int .i64 k)/\wx.cell? ⟨gx,1,none⟩=some (.int .i64 n)/\wx.cell? ⟨gx,2,none⟩=some (.slice a2 nm c2)/\wx.cell? ⟨gx,3,none⟩=some (.slice a3 nn c3)/\wx.cell? ⟨gx,4,none⟩=some (.slice a4 ks.length c4))) A2 An (fun Aa=>?_);refine M922 ?_;try simp only[nrm]
  refine ta 3 ?_;refine ta 4 ?_;try simp only[nrm]
  refine sa 5 ?_;refine sa 6 ?_;try simp only[nrm]
  exact QA20
 by_cases r2:16<d
 .
  have he:Hid (cT (.mk k n mod name ks) d Bh left=false):=tE (.inr r2);clear HK Cy hm;refine zJ3 (S:=fun wx=>(wx.cell? ⟨g,0,none⟩=some (.int .i64 m)/\wx.cell? ⟨gx,0,none⟩=some (.int .i64 k)/\wx.cell? ⟨gx,1,none⟩=some (.int .i64 n)/\wx.cell? ⟨gx,2,none⟩=some (.slice a2 nm c2)/\wx.cell? ⟨gx,3,none⟩=some (.slice a3 nn c3)/\wx.cell? ⟨gx,4,none⟩=some (.slice a4 ks.length c4))) A2 An (fun Aa=>?_);refine M922 ?_;try simp only[nrm]
  refine M925 ?_;try simp only[nrm]
  refine ta 6 ?_;exact QA20
 by_cases r3:eN k ks.length=ks.length;rotate_left
 .
  have hI:=fun h=>r3 ((tG k ks.length).2 h);have r3':(eN k ks.length != (ks.length:Int))=true:=by simpa using r3
  have Ql:gZ k n mod name ks.length=false:=by
   cases i1:inB k 0 7
   .
    exact cM (.inl i1)
   .
    refine cM (.inr (.inl ?_));cases i2:inB (ks.length:Int) (cX k) (iM k)
    .
     rfl
    .
     exact absurd ⟨i1,by simp[inB]at i2;omega,by simp[inB]at i2;omega⟩ hI
  have he:Hid (cT (.mk k n mod name ks) d Bh left=false):=bK Ql;clear hI Ql hm r3;generalize eN k ks.length=sk at *;refine zJ3 (S:=fun wx=>(wx.cell? ⟨g,0,none⟩=some (.int .i64 m)/\wx.cell? ⟨gx,0,none⟩=some (.int .i64 k)/\wx.cell? ⟨gx,1,none⟩=some (.int .i64 n)/\wx.cell? ⟨gx,2,none⟩=some (.slice a2 nm c2)/\wx.cell? ⟨gx,3,none⟩=some (.slice a3 nn c3)/\wx.cell? ⟨gx,4,none⟩=some (.slice a4 ks.length c4))) A2 An (fun Aa=>?_);refine M922 ?_;refine M95 ?_;try simp only[nrm]
  refine ra 10 fun K hK=>?_;go_simp;refine M934 ?_;intro w3 hq;go_wp2_with fail;refine hK.out _ _ (Cy hq) (fun Aa=>?_);clear hK K;try simp only[nrm]
  refine ta 14 ?_;refine ta 15 ?_;refine ta 16 ?_;try simp only[nrm]
  refine sa 17 ?_;refine sa 18 ?_;refine sa 19 ?_;try simp only[nrm]
  refine sa 20 ?_;refine sa 21 ?_;refine sa 22 ?_;try simp only[nrm]
  refine sa 23 ?_;try simp only[nrm]
  exact QA79
 obtain⟨i1,i2,i3⟩:=(tG k ks.length).1 r3;have Gp:Hid (inB k 0 7=true/\inB (ks.length:Int) (cX k) (iM k)=true):=⟨i1,by simp[inB];omega⟩
 rw[r3]at HK;have h8:k=0\/k=1\/k=2\/k=3\/k=4\/k=5\/k=6\/k=7:=by simp[inB]at i1;omega
 clear r3 i1 i2 i3 hm;rcases h8 with rfl|rfl|rfl|rfl|rfl|rfl|rfl|rfl
 .
  refine zJ3 (S:=fun wx=>(wx.cell? ⟨g,0,none⟩=some (.int .i64 m)/\wx.cell? ⟨gx,0,none⟩=some (.int .i64 0)/\wx.cell? ⟨gx,1,none⟩=some (.int .i64 n)/\wx.cell? ⟨gx,2,none⟩=some (.slice a2 nm c2)/\wx.cell? ⟨gx,3,none⟩=some (.slice a3 nn c3)/\wx.cell? ⟨gx,4,none⟩=some (.slice a4 ks.length c4))) A2 An (fun Aa=>?_);refine M922 ?_;refine M95 ?_;try simp only[nrm]
  refine ra 10 fun K hK=>?_;go_simp;refine M934 ?_;intro w3 hq;go_wp2_with fail;refine hK.out _ _ (Cy hq) (fun Aa=>?_);clear hK K;refine M914 ?_;refine M942 ?_;refine zK0 A2 ?_ _;refine M92 ?_;clear x0 Av yy hb HK hq z0 q0 q1 q2 q3 q4 An Cy y2;intro x0 Av yy hb q0 q1 q2 q3 q4 hn3 hn2;by_cases e0:nn=0;rotate_left
  .
   have Eh:(0:Int)<(nn:Int):=A0;have he:Hid (cT (.mk 0 n mod name ks) d Bh left=false):=bK (cM (.inr (.inr (.inr (.inr (.inl ⟨by decide,by rw[Gw.out];exact e0⟩))))));exact QA4
  have Eh:¬(0:Int)<(nn:Int):=A0;have Lz:Hid (name.length=0):=Gw.out.trans e0;clear e0;by_cases em:nm=0;rotate_left
  .
   have Nj:(0:Int)<(nm:Int):=A0;have he:Hid (cT (.mk 0 n mod name ks) d Bh left=false):=bK (cM (.inr (.inr (.inr (.inr (.inr (.inl ⟨by rw[Mi.out];exact em,by decide⟩)))))));exact QA4
  refine M936 ?_;intro Nj Jp;clear em;have hwf:(n != wrap64 (wrap32 n)) = !(inB n (-2147483648) 2147483647):=by rw[<-aJ3];rfl
  have HW:=aCu n w3.drew;generalize wrap64 (wrap32 n)=wn at *;generalize Iv:inB n (-2147483648) 2147483647=nnb at *;have Dr:Hid (inB n (fV 0) (dK 0)=nnb):=Iv;clear Iv;go_upto_region 13 with fail;have q1d:w3.drew.cell? ⟨gx,1,none⟩=some (.int .i64 n):=q1;go_region_held3 (fun wx=>wx.cell? ⟨gx,1,none⟩=some (.int .i64 n)) (first|exact q1d) (first
   | (go_at_call 186;(with_reducible refine HW.mono ?_);rintro e w4 ⟨rfl,rfl⟩))
  have y3:w3.grownBy w3.drew none:=⟨rfl,rfl,rfl,zB0 _,fun _ _ _=>rfl⟩
  replace x0:Blk w3.drew gx 176 _:=x0;replace Av:Lft w3.drew g m:=Av;replace yy:=aC yy (cZ y3 _);replace hb:=hb.drew;clear HW q0 q1 q2 q3 q4 q1d y3 hn2 hn3;generalize w3.drew=w4 at *;obtain⟨q0,q1,q2,q3,q4⟩:=x0.c5;cases nnb
  .
   have he:Hid (cT (.mk 0 n mod name ks) d Bh left=false):=bK (cM (.inr (.inr (.inl Dr.out))));exact QA4
  have HE:Hid (cT (.mk 0 n mod name ks) d Bh left=dY ks (d+1) false m):=by
   show _=_
   rw[eH (jF Gp.out.1 Gp.out.2 Dr.out (by rw[show eC 0=false from by decide];exact zB3 Lz.out) A41) (.inl A6) A15 A0,Bu.out];rfl
  have HD:Hid (cQ (.mk 0 n mod name ks)=1+aD ks):=by show _=_;simp[cQ]
  exact QA7
 .
  refine zJ3 (S:=fun wx=>(wx.cell? ⟨g,0,none⟩=some (.int .i64 m)/\wx.cell? ⟨gx,0,none⟩=some (.int .i64 1)/\wx.cell? ⟨gx,1,none⟩=some (.int .i64 n)/\wx.cell? ⟨gx,2,none⟩=some (.slice a2 nm c2)/\wx.cell? ⟨gx,3,none⟩=some (.slice a3 nn c3)/\wx.cell? ⟨gx,4,none⟩=some (.slice a4 ks.length c4))) A2 An (fun Aa=>?_);refine M922 ?_;refine M95 ?_;try simp only[nrm]
  refine ra 10 fun K hK=>?_;go_simp;refine M934 ?_;intro w3 hq;go_wp2_with fail;refine hK.out _ _ (Cy hq) (fun Aa=>?_);clear hK K;refine M914 ?_;refine M942 ?_;refine zK0 A2 ?_ _;refine M92 ?_;clear x0 Av yy hb HK hq z0 q0 q1 q2 q3 q4 An Cy y2;intro x0 Av yy hb q0 q1 q2 q3 q4 hn3 hn2;by_cases e0:nn=0
  .
   have Ai:aN name false=false:=cY A47;rw[e0]at q3 ⊢;have he:Hid (cT (.mk 1 n mod name ks) d Bh left=false):=bK (cM (.inr (.inr (.inr (.inl ⟨by decide,Ai⟩)))));exact QA4
  have Eh:(0:Int)<(nn:Int):=A0;generalize Ba:aN name false=nb at *;have Dz:Hid (aN name false=nb):=Ba;clear Ba;go_wp2_with fail;refine hn3.mono ?_;rintro e w3 ⟨rfl,rfl⟩;clear hn3;cases nb
  .
   have he:Hid (cT (.mk 1 n mod name ks) d Bh left=false):=bK (cM (.inr (.inr (.inr (.inl ⟨by decide,Dz.out⟩)))));exact QA4
  by_cases em:nm=0;rotate_left
  .
   have Nj:(0:Int)<(nm:Int):=A0;have he:Hid (cT (.mk 1 n mod name ks) d Bh left=false):=bK (cM (.inr (.inr (.inr (.inr (.inr (.inl ⟨by rw[Mi.out];exact em,by decide⟩)))))));exact QA4
  refine M936 ?_;intro Nj Jp;clear em;by_cases n0:n=0;rotate_left
  .
   have n0':(n != 0)=true:=by simpa using n0
   have he:Hid (cT (.mk 1 n mod name ks) d Bh left=false):=bK (cM (.inr (.inr (.inl A29))));exact QA4
  have n0':(n != 0)=false:=by simpa using n0
  have Dr:Hid (inB n (fV 1) (dK 1)=true):=by show _=_;rw[n0];decide
  clear n0;have HE:Hid (cT (.mk 1 n mod name ks) d Bh left=dY ks (d+1) false m):=by
   show _=_
   rw[eH (jF Gp.out.1 Gp.out.2 Dr.out (by rw[show eC 1=true from by decide];exact Dz.out) A41) (.inl A6) A15 A0,Bu.out];rfl
  have HD:Hid (cQ (.mk 1 n mod name ks)=1+aD ks):=by show _=_;simp[cQ]
  exact QA7
 .
  refine zJ3 (S:=fun wx=>(wx.cell? ⟨g,0,none⟩=some (.int .i64 m)/\wx.cell? ⟨gx,0,none⟩=some (.int .i64 2)/\wx.cell? ⟨gx,1,none⟩=some (.int .i64 n)/\wx.cell? ⟨gx,2,none⟩=some (.slice a2 nm c2)/\wx.cell? ⟨gx,3,none⟩=some (.slice a3 nn c3)/\wx.cell? ⟨gx,4,none⟩=some (.slice a4 ks.length c4))) A2 An (fun Aa=>?_);refine M922 ?_;refine M95 ?_;try simp only[nrm]
  refine ra 10 fun K hK=>?_;go_simp;refine M934 ?_;intro w3 hq;go_wp2_with fail;refine hK.out _ _ (Cy hq) (fun Aa=>?_);clear hK K;refine M914 ?_;refine M942 ?_;refine zK0 A2 ?_ _;refine M92 ?_;clear x0 Av yy hb HK hq z0 q0 q1 q2 q3 q4 An Cy y2;intro x0 Av yy hb q0 q1 q2 q3 q4 hn3 hn2;by_cases e0:nn=0
  .
   have Ai:aN name false=false:=cY A47;rw[e0]at q3 ⊢;have he:Hid (cT (.mk 2 n mod name ks) d Bh left=false):=bK (cM (.inr (.inr (.inr (.inl ⟨by decide,Ai⟩)))));exact QA4
  have Eh:(0:Int)<(nn:Int):=A0;generalize Ba:aN name false=nb at *;have Dz:Hid (aN name false=nb):=Ba;clear Ba;go_wp2_with fail;refine hn3.mono ?_;rintro e w3 ⟨rfl,rfl⟩;clear hn3;cases nb
  .
   have he:Hid (cT (.mk 2 n mod name ks) d Bh left=false):=bK (cM (.inr (.inr (.inr (.inl ⟨by decide,Dz.out⟩)))));exact QA4
  by_cases em:nm=0;rotate_left
  .
   have Nj:(0:Int)<(nm:Int):=A0;have he:Hid (cT (.mk 2 n mod name ks) d Bh left=false):=bK (cM (.inr (.inr (.inr (.inr (.inr (.inl ⟨by rw[Mi.out];exact em,by decide⟩)))))));exact QA4
  refine M936 ?_;intro Nj Jp;clear em;by_cases n0:n=0;rotate_left
  .
   have n0':(n != 0)=true:=by simpa using n0
   have he:Hid (cT (.mk 2 n mod name ks) d Bh left=false):=bK (cM (.inr (.inr (.inl A29))));exact QA4
  have n0':(n != 0)=false:=by simpa using n0
  have Dr:Hid (inB n (fV 2) (dK 2)=true):=by show _=_;rw[n0];decide
  clear n0;have HE:Hid (cT (.mk 2 n mod name ks) d Bh left=dY ks (d+1) false m):=by
   show _=_
   rw[eH (jF Gp.out.1 Gp.out.2 Dr.out (by rw[show eC 2=true from by decide];exact Dz.out) A41) (.inl A6) A15 A0,Bu.out];rfl
  have HD:Hid (cQ (.mk 2 n mod name ks)=1+aD ks):=by show _=_;simp[cQ]
  refine M943 ?_;intro Ga HY Bn Ea Eq HSK HSS Cq Ez Cj Cr;go_wp2_with fail;clear q0 q1 q2 q3 q4 x0 yy hb Av h4;go_loopw [10] (fun i wr=>∃j:Nat,j<=ks.length/\i=.int .i64 j/\Hid (w3.grownBy wr (some g))/\Hid (Lft wr g (m-(aD (ks.take j):Int)))/\Hid ((aD (ks.take j):Int)<=m)/\Hid (∀i x,i<j->ks[i]?=some x->cT x (d+1) false (m-(aD (ks.take i):Int))=true)) (fun i _=>ks.length-(intOf i).toNat)
  case atStart=>exact⟨0,zD1 _,rfl,aP _ _,Ea,by show(_:Int)<=_;simp[aD];omega,by show ∀_ _,_;omega⟩
  case round=>
   obtain⟨j,hj,rfl,Al,Cs,Ej,Ao⟩:=hrel;clear Ea;have x0:=Blk.grown Ga.out Al.out Ar;have q0:=x0.k 0;have q4:=x0.k 4;have hb:=bW Bn.out Al.out hg;by_cases Ad:j<ks.length
   .
    obtain⟨b4,o4,rfl⟩:=aW.addr Eq.out A43;obtain⟨x,hx⟩:∃x,ks[j]?=some x:=⟨ks[j],zA0 _⟩
    have Bc:(exs ks)[j]?=some x.fl:=by rw[aX,zA2,hx];rfl
    obtain⟨us,Ak,Ab⟩:=(aW.el Eq.out Bc).vals;obtain⟨u0,u1,u2,u3,u4,rfl⟩:=dT (Ak.len.trans (eL x));refine M970 ?_;clear Ab;intro Iq Ab t0 t1 t2 t3 t4 Em Cd Ok Ve HC;simp only[agg]at HC;have HJ:Hid (ks[j]?=some x):=hx;have Dn:Hid (aD (ks.take (j+1))=aD (ks.take j)+cQ x):=bR hx;clear Ab hx Bc Em Cd Ak Ok Ve;generalize hsp:cT x (d+1) false (m-(aD (ks.take j):Int))=rr at *;have Cm:Hid (cT x (d+1) false (m-(aD (ks.take j):Int))=rr):=hsp;clear hsp;have Eo:b4 ≠ g:=by
     have:=zI2 w0 _ Iq;simp only at this;omega
    have An:(wr.drew.cell? ⟨gx,0,none⟩=some (.int .i64 2)/\wr.drew.cell? ⟨gx,4,none⟩=some (.slice (some ⟨b4,o4,none⟩) ks.length c4)/\wr.drew.cell? ⟨b4,o4+j*5,none⟩=some u0/\wr.drew.cell? ⟨b4,o4+j*5+1,none⟩=some u1/\wr.drew.cell? ⟨b4,o4+j*5+2,none⟩=some u2/\wr.drew.cell? ⟨b4,o4+j*5+3,none⟩=some u3/\wr.drew.cell? ⟨b4,o4+j*5+4,none⟩=some u4):=⟨q0,q4,t0,t1,t2,t3,t4⟩
    have Cy:∀{wl:World},wr.drew.grownBy wl (some g)->(wl.cell? ⟨gx,0,none⟩=some (.int .i64 2)/\wl.cell? ⟨gx,4,none⟩=some (.slice (some ⟨b4,o4,none⟩) ks.length c4)/\wl.cell? ⟨b4,o4+j*5,none⟩=some u0/\wl.cell? ⟨b4,o4+j*5+1,none⟩=some u1/\wl.cell? ⟨b4,o4+j*5+2,none⟩=some u2/\wl.cell? ⟨b4,o4+j*5+3,none⟩=some u3/\wl.cell? ⟨b4,o4+j*5+4,none⟩=some u4):=fun hq=>⟨cG An.1 hq Ar,cG An.2.1 hq Ar,cG An.2.2.1 hq Eo,cG An.2.2.2.1 hq Eo,cG An.2.2.2.2.1 hq Eo,cG An.2.2.2.2.2.1 hq Eo,cG An.2.2.2.2.2.2 hq Eo⟩;have z5:(0:Int)<=(j:Int):=A0;have z7:IntKind.i64.wrap (d+1)=d+1:=by rw[IntKind.wrap_i64];omega
    have z6:(j:Int)<(ks.length:Int):=A0;go_upto_region 21 with fail;go_region_held3 (fun wx=>(wx.cell? ⟨gx,0,none⟩=some (.int .i64 2)/\wx.cell? ⟨gx,4,none⟩=some (.slice (some ⟨b4,o4,none⟩) ks.length c4)/\wx.cell? ⟨b4,o4+j*5,none⟩=some u0/\wx.cell? ⟨b4,o4+j*5+1,none⟩=some u1/\wx.cell? ⟨b4,o4+j*5+2,none⟩=some u2/\wx.cell? ⟨b4,o4+j*5+3,none⟩=some u3/\wx.cell? ⟨b4,o4+j*5+4,none⟩=some u4)) (first|exact An|exact Lv) (first
     | (go_at_call 190;(with_reducible refine HC.mono ?_);rintro e w4 ⟨rfl,Af,Bd⟩;have Lv:=Cy Af))
    clear Lv Cy An;refine M959 ?_;intro Dg Ds;clear HC t0 t1 t2 t3 t4 q0 q4 x0 hb Af Bd;cases rr
    .
     have he:Hid (cT (.mk 2 n mod name ks) d Bh left=false):=by show _=_;rw[HE.out];exact eA HJ.out Cm.out
     have Bl:=aC HY.out Dg.out;exact QA12
    .
     exact QA3
   .
    have:j=ks.length:=A0;subst this;have he:Hid (cT (.mk 2 n mod name ks) d Bh left=true):=by
     exact QA52
    exact QA15
 .
  refine zJ3 (S:=fun wx=>(wx.cell? ⟨g,0,none⟩=some (.int .i64 m)/\wx.cell? ⟨gx,0,none⟩=some (.int .i64 3)/\wx.cell? ⟨gx,1,none⟩=some (.int .i64 n)/\wx.cell? ⟨gx,2,none⟩=some (.slice a2 nm c2)/\wx.cell? ⟨gx,3,none⟩=some (.slice a3 nn c3)/\wx.cell? ⟨gx,4,none⟩=some (.slice a4 ks.length c4))) A2 An (fun Aa=>?_);refine M922 ?_;refine M95 ?_;try simp only[nrm]
  refine ra 10 fun K hK=>?_;go_simp;refine M934 ?_;intro w3 hq;go_wp2_with fail;refine hK.out _ _ (Cy hq) (fun Aa=>?_);clear hK K;refine M914 ?_;refine M942 ?_;refine zK0 A2 ?_ _;refine M92 ?_;clear x0 Av yy hb HK hq z0 q0 q1 q2 q3 q4 An Cy y2;intro x0 Av yy hb q0 q1 q2 q3 q4 hn3 hn2;by_cases e0:nn=0;rotate_left
  .
   have Eh:(0:Int)<(nn:Int):=A0;have he:Hid (cT (.mk 3 n mod name ks) d Bh left=false):=bK (cM (.inr (.inr (.inr (.inr (.inl ⟨by decide,by rw[Gw.out];exact e0⟩))))));exact QA4
  have Eh:¬(0:Int)<(nn:Int):=A0;have Lz:Hid (name.length=0):=Gw.out.trans e0;clear e0;by_cases em:nm=0;rotate_left
  .
   have Nj:(0:Int)<(nm:Int):=A0;have he:Hid (cT (.mk 3 n mod name ks) d Bh left=false):=bK (cM (.inr (.inr (.inr (.inr (.inr (.inl ⟨by rw[Mi.out];exact em,by decide⟩)))))));exact QA4
  refine M936 ?_;intro Nj Jp;clear em;by_cases n0:n<0
  .
   have he:Hid (cT (.mk 3 n mod name ks) d Bh left=false):=bK (cM (.inr (.inr (.inl A29))));exact QA4
  by_cases n5:5<n
  .
   have he:Hid (cT (.mk 3 n mod name ks) d Bh left=false):=bK (cM (.inr (.inr (.inl A29))));exact QA4
  have Dr:Hid (inB n (fV 3) (dK 3)=true):=by show _=_;simp[inB,fV,dK];omega
  have HE:Hid (cT (.mk 3 n mod name ks) d Bh left=dY ks (d+1) false m):=by
   show _=_
   rw[eH (jF Gp.out.1 Gp.out.2 Dr.out (by rw[show eC 3=false from by decide];exact zB3 Lz.out) A41) (.inl A6) A15 A0,Bu.out];rfl
  have HD:Hid (cQ (.mk 3 n mod name ks)=1+aD ks):=by show _=_;simp[cQ]
  refine M943 ?_;intro Ga HY Bn Ea Eq HSK HSS Cq Ez Cj Cr;go_wp2_with fail;clear q0 q1 q2 q3 q4 x0 yy hb Av h4;go_loopw [10] (fun i wr=>∃j:Nat,j<=ks.length/\i=.int .i64 j/\Hid (w3.grownBy wr (some g))/\Hid (Lft wr g (m-(aD (ks.take j):Int)))/\Hid ((aD (ks.take j):Int)<=m)/\Hid (∀i x,i<j->ks[i]?=some x->cT x (d+1) false (m-(aD (ks.take i):Int))=true)) (fun i _=>ks.length-(intOf i).toNat)
  case atStart=>exact⟨0,zD1 _,rfl,aP _ _,Ea,by show(_:Int)<=_;simp[aD];omega,by show ∀_ _,_;omega⟩
  case round=>
   obtain⟨j,hj,rfl,Al,Cs,Ej,Ao⟩:=hrel;clear Ea;have x0:=Blk.grown Ga.out Al.out Ar;have q0:=x0.k 0;have q4:=x0.k 4;have hb:=bW Bn.out Al.out hg;by_cases Ad:j<ks.length
   .
    obtain⟨b4,o4,rfl⟩:=aW.addr Eq.out A43;obtain⟨x,hx⟩:∃x,ks[j]?=some x:=⟨ks[j],zA0 _⟩
    have Bc:(exs ks)[j]?=some x.fl:=by rw[aX,zA2,hx];rfl
    obtain⟨us,Ak,Ab⟩:=(aW.el Eq.out Bc).vals;obtain⟨u0,u1,u2,u3,u4,rfl⟩:=dT (Ak.len.trans (eL x));refine M970 ?_;clear Ab;intro Iq Ab t0 t1 t2 t3 t4 Em Cd Ok Ve HC;simp only[agg]at HC;have HJ:Hid (ks[j]?=some x):=hx;have Dn:Hid (aD (ks.take (j+1))=aD (ks.take j)+cQ x):=bR hx;clear Ab hx Bc Em Cd Ak Ok Ve;generalize hsp:cT x (d+1) false (m-(aD (ks.take j):Int))=rr at *;have Cm:Hid (cT x (d+1) false (m-(aD (ks.take j):Int))=rr):=hsp;clear hsp;have Eo:b4 ≠ g:=by
     have:=zI2 w0 _ Iq;simp only at this;omega
    have An:(wr.drew.cell? ⟨gx,0,none⟩=some (.int .i64 3)/\wr.drew.cell? ⟨gx,4,none⟩=some (.slice (some ⟨b4,o4,none⟩) ks.length c4)/\wr.drew.cell? ⟨b4,o4+j*5,none⟩=some u0/\wr.drew.cell? ⟨b4,o4+j*5+1,none⟩=some u1/\wr.drew.cell? ⟨b4,o4+j*5+2,none⟩=some u2/\wr.drew.cell? ⟨b4,o4+j*5+3,none⟩=some u3/\wr.drew.cell? ⟨b4,o4+j*5+4,none⟩=some u4):=⟨q0,q4,t0,t1,t2,t3,t4⟩
    have Cy:∀{wl:World},wr.drew.grownBy wl (some g)->(wl.cell? ⟨gx,0,none⟩=some (.int .i64 3)/\wl.cell? ⟨gx,4,none⟩=some (.slice (some ⟨b4,o4,none⟩) ks.length c4)/\wl.cell? ⟨b4,o4+j*5,none⟩=some u0/\wl.cell? ⟨b4,o4+j*5+1,none⟩=some u1/\wl.cell? ⟨b4,o4+j*5+2,none⟩=some u2/\wl.cell? ⟨b4,o4+j*5+3,none⟩=some u3/\wl.cell? ⟨b4,o4+j*5+4,none⟩=some u4):=fun hq=>⟨cG An.1 hq Ar,cG An.2.1 hq Ar,cG An.2.2.1 hq Eo,cG An.2.2.2.1 hq Eo,cG An.2.2.2.2.1 hq Eo,cG An.2.2.2.2.2.1 hq Eo,cG An.2.2.2.2.2.2 hq Eo⟩;have z5:(0:Int)<=(j:Int):=A0;have z7:IntKind.i64.wrap (d+1)=d+1:=by rw[IntKind.wrap_i64];omega
    have z6:(j:Int)<(ks.length:Int):=A0;go_upto_region 21 with fail;go_region_held3 (fun wx=>(wx.cell? ⟨gx,0,none⟩=some (.int .i64 3)/\wx.cell? ⟨gx,4,none⟩=some (.slice (some ⟨b4,o4,none⟩) ks.length c4)/\wx.cell? ⟨b4,o4+j*5,none⟩=some u0/\wx.cell? ⟨b4,o4+j*5+1,none⟩=some u1/\wx.cell? ⟨b4,o4+j*5+2,none⟩=some u2/\wx.cell? ⟨b4,o4+j*5+3,none⟩=some u3/\wx.cell? ⟨b4,o4+j*5+4,none⟩=some u4)) (first|exact An|exact Lv) (first
     | (go_at_call 190;(with_reducible refine HC.mono ?_);rintro e w4 ⟨rfl,Af,Bd⟩;have Lv:=Cy Af))
    clear Lv Cy An;refine M959 ?_;intro Dg Ds;clear HC t0 t1 t2 t3 t4 q0 q4 x0 hb Af Bd;cases rr
    .
     have he:Hid (cT (.mk 3 n mod name ks) d Bh left=false):=by show _=_;rw[HE.out];exact eA HJ.out Cm.out
     have Bl:=aC HY.out Dg.out;exact QA12
    .
     exact QA3
   .
    have:j=ks.length:=A0;subst this;have he:Hid (cT (.mk 3 n mod name ks) d Bh left=true):=by
     exact QA52
    exact QA15
 .
  refine zJ3 (S:=fun wx=>(wx.cell? ⟨g,0,none⟩=some (.int .i64 m)/\wx.cell? ⟨gx,0,none⟩=some (.int .i64 4)/\wx.cell? ⟨gx,1,none⟩=some (.int .i64 n)/\wx.cell? ⟨gx,2,none⟩=some (.slice a2 nm c2)/\wx.cell? ⟨gx,3,none⟩=some (.slice a3 nn c3)/\wx.cell? ⟨gx,4,none⟩=some (.slice a4 ks.length c4))) A2 An (fun Aa=>?_);refine M922 ?_;refine M95 ?_;try simp only[nrm]
  refine ra 10 fun K hK=>?_;go_simp;refine M934 ?_;intro w3 hq;go_wp2_with fail;refine hK.out _ _ (Cy hq) (fun Aa=>?_);clear hK K;refine M914 ?_;refine M942 ?_;refine zK0 A2 ?_ _;refine M92 ?_;clear x0 Av yy hb HK hq z0 q0 q1 q2 q3 q4 An Cy y2;intro x0 Av yy hb q0 q1 q2 q3 q4 hn3 hn2;by_cases e0:nn=0;rotate_left
  .
   have Eh:(0:Int)<(nn:Int):=A0;have he:Hid (cT (.mk 4 n mod name ks) d Bh left=false):=bK (cM (.inr (.inr (.inr (.inr (.inl ⟨by decide,by rw[Gw.out];exact e0⟩))))));exact QA4
  have Eh:¬(0:Int)<(nn:Int):=A0;have Lz:Hid (name.length=0):=Gw.out.trans e0;clear e0;by_cases em:nm=0;rotate_left
  .
   have Nj:(0:Int)<(nm:Int):=A0;have he:Hid (cT (.mk 4 n mod name ks) d Bh left=false):=bK (cM (.inr (.inr (.inr (.inr (.inr (.inl ⟨by rw[Mi.out];exact em,by decide⟩)))))));exact QA4
  refine M936 ?_;intro Nj Jp;clear em;by_cases n0:n=0;rotate_left
  .
   have n0':(n != 0)=true:=by simpa using n0
   have he:Hid (cT (.mk 4 n mod name ks) d Bh left=false):=bK (cM (.inr (.inr (.inl A29))));exact QA4
  have n0':(n != 0)=false:=by simpa using n0
  have Dr:Hid (inB n (fV 4) (dK 4)=true):=by show _=_;rw[n0];decide
  clear n0;have HE:Hid (cT (.mk 4 n mod name ks) d Bh left=dY ks (d+1) false m):=by
   show _=_
   rw[eH (jF Gp.out.1 Gp.out.2 Dr.out (by rw[show eC 4=false from by decide];exact zB3 Lz.out) A41) (.inl A6) A15 A0,Bu.out];rfl
  have HD:Hid (cQ (.mk 4 n mod name ks)=1+aD ks):=by show _=_;simp[cQ]
  exact QA7
 .
  refine zJ3 (S:=fun wx=>(wx.cell? ⟨g,0,none⟩=some (.int .i64 m)/\wx.cell? ⟨gx,0,none⟩=some (.int .i64 5)/\wx.cell? ⟨gx,1,none⟩=some (.int .i64 n)/\wx.cell? ⟨gx,2,none⟩=some (.slice a2 nm c2)/\wx.cell? ⟨gx,3,none⟩=some (.slice a3 nn c3)/\wx.cell? ⟨gx,4,none⟩=some (.slice a4 ks.length c4))) A2 An (fun Aa=>?_);refine M922 ?_;refine M95 ?_;try simp only[nrm]
  refine ra 10 fun K hK=>?_;go_simp;refine M934 ?_;intro w3 hq;go_wp2_with fail;refine hK.out _ _ (Cy hq) (fun Aa=>?_);clear hK K;refine M914 ?_;refine M942 ?_;refine zK0 A2 ?_ _;refine M92 ?_;clear x0 Av yy hb HK hq z0 q0 q1 q2 q3 q4 An Cy y2;intro x0 Av yy hb q0 q1 q2 q3 q4 hn3 hn2;by_cases e0:nn=0
  .
   have Ai:aN name false=false:=cY A47;rw[e0]at q3 ⊢;have he:Hid (cT (.mk 5 n mod name ks) d Bh left=false):=bK (cM (.inr (.inr (.inr (.inl ⟨by decide,Ai⟩)))));exact QA4
  have Eh:(0:Int)<(nn:Int):=A0;generalize Ba:aN name false=nb at *;have Dz:Hid (aN name false=nb):=Ba;clear Ba;go_wp2_with fail;refine hn3.mono ?_;rintro e w3 ⟨rfl,rfl⟩;clear hn3;cases nb
  .
   have he:Hid (cT (.mk 5 n mod name ks) d Bh left=false):=bK (cM (.inr (.inr (.inr (.inl ⟨by decide,Dz.out⟩)))));exact QA4
  by_cases em:nm=0;rotate_left
  .
   have Nj:(0:Int)<(nm:Int):=A0;have he:Hid (cT (.mk 5 n mod name ks) d Bh left=false):=bK (cM (.inr (.inr (.inr (.inr (.inr (.inl ⟨by rw[Mi.out];exact em,by decide⟩)))))));exact QA4
  refine M936 ?_;intro Nj Jp;clear em;by_cases n0:n=0;rotate_left
  .
   have n0':(n != 0)=true:=by simpa using n0
   have he:Hid (cT (.mk 5 n mod name ks) d Bh left=false):=bK (cM (.inr (.inr (.inl A29))));exact QA4
  have n0':(n != 0)=false:=by simpa using n0
  have Dr:Hid (inB n (fV 5) (dK 5)=true):=by show _=_;rw[n0];decide
  clear n0;have HE:Hid (cT (.mk 5 n mod name ks) d Bh left=dY ks (d+1) false m):=by
   show _=_
   rw[eH (jF Gp.out.1 Gp.out.2 Dr.out (by rw[show eC 5=true from by decide];exact Dz.out) A41) (.inl A6) A15 A0,Bu.out];rfl
  have HD:Hid (cQ (.mk 5 n mod name ks)=1+aD ks):=by show _=_;simp[cQ]
  exact QA7
 .
  refine zJ3 (S:=fun wx=>(wx.cell? ⟨g,0,none⟩=some (.int .i64 m)/\wx.cell? ⟨gx,0,none⟩=some (.int .i64 6)/\wx.cell? ⟨gx,1,none⟩=some (.int .i64 n)/\wx.cell? ⟨gx,2,none⟩=some (.slice a2 nm c2)/\wx.cell? ⟨gx,3,none⟩=some (.slice a3 nn c3)/\wx.cell? ⟨gx,4,none⟩=some (.slice a4 ks.length c4))) A2 An (fun Aa=>?_);refine M922 ?_;refine M95 ?_;try simp only[nrm]
  refine ra 10 fun K hK=>?_;go_simp;refine M934 ?_;intro w3 hq;go_wp2_with fail;refine hK.out _ _ (Cy hq) (fun Aa=>?_);clear hK K;refine M914 ?_;refine M942 ?_;refine zK0 A2 ?_ _;refine M92 ?_;clear x0 Av yy hb HK hq z0 q0 q1 q2 q3 q4 An Cy y2;intro x0 Av yy hb q0 q1 q2 q3 q4 hn3 hn2;by_cases e0:nn=0
  .
   have Ai:aN name false=false:=cY A47;rw[e0]at q3 ⊢;have he:Hid (cT (.mk 6 n mod name ks) d Bh left=false):=bK (cM (.inr (.inr (.inr (.inl ⟨by decide,Ai⟩)))));exact QA4
  have Eh:(0:Int)<(nn:Int):=A0;generalize Ba:aN name false=nb at *;have Dz:Hid (aN name false=nb):=Ba;clear Ba;go_wp2_with fail;refine hn3.mono ?_;rintro e w3 ⟨rfl,rfl⟩;clear hn3;cases nb
  .
   have he:Hid (cT (.mk 6 n mod name ks) d Bh left=false):=bK (cM (.inr (.inr (.inr (.inl ⟨by decide,Dz.out⟩)))));exact QA4
  by_cases em:nm=0
  .
   refine M936 ?_;intro Nj Jp;clear em;by_cases n0:n=0;rotate_left
   .
    have n0':(n != 0)=true:=by simpa using n0
    have he:Hid (cT (.mk 6 n mod name ks) d Bh left=false):=bK (cM (.inr (.inr (.inl A29))));exact QA4
   have n0':(n != 0)=false:=by simpa using n0
   have Dr:Hid (inB n (fV 6) (dK 6)=true):=by show _=_;rw[n0];decide
   clear n0;have HE:Hid (cT (.mk 6 n mod name ks) d Bh left=dY ks (d+1) true m):=by
    show _=_
    rw[eH (jF Gp.out.1 Gp.out.2 Dr.out A55 A41) (.inl A6) A15 A0,Bu.out];rfl
   exact QA2
  .
   have Nj:(0:Int)<(nm:Int):=A0;generalize hmb:aN mod true=mb at *;have HMB:Hid (aN mod true=mb):=hmb;clear hmb;go_wp2_with fail;refine hn2.mono ?_;rintro e w3 ⟨rfl,rfl⟩;clear hn2;cases mb
   .
    have he:Hid (cT (.mk 6 n mod name ks) d Bh left=false):=bK (cM (.inr (.inr (.inr (.inr (.inr (.inr ⟨by rw[Mi.out];exact em,HMB.out⟩)))))));exact QA4
   by_cases n0:n=0;rotate_left
   .
    have n0':(n != 0)=true:=by simpa using n0
    have he:Hid (cT (.mk 6 n mod name ks) d Bh left=false):=bK (cM (.inr (.inr (.inl A29))));exact QA4
   have n0':(n != 0)=false:=by simpa using n0
   have Dr:Hid (inB n (fV 6) (dK 6)=true):=by show _=_;rw[n0];decide
   clear n0;have HE:Hid (cT (.mk 6 n mod name ks) d Bh left=dY ks (d+1) true m):=by
    show _=_
    rw[eH (jF Gp.out.1 Gp.out.2 Dr.out A55 (by rw[HMB.out];simp)) (.inl A6) A15 A0,Bu.out];rfl
   exact QA2
 .
  cases Bh
  .
   have he:Hid (cT (.mk 7 n mod name ks) d false left=false):=aF9;clear Gp;refine zJ3 (S:=fun wx=>(wx.cell? ⟨g,0,none⟩=some (.int .i64 m)/\wx.cell? ⟨gx,0,none⟩=some (.int .i64 7)/\wx.cell? ⟨gx,1,none⟩=some (.int .i64 n)/\wx.cell? ⟨gx,2,none⟩=some (.slice a2 nm c2)/\wx.cell? ⟨gx,3,none⟩=some (.slice a3 nn c3)/\wx.cell? ⟨gx,4,none⟩=some (.slice a4 ks.length c4))) A2 An (fun Aa=>?_);refine M922 ?_;refine M95 ?_;try simp only[nrm]
   refine ra 10 fun K hK=>?_;go_simp;refine M934 ?_;intro w3 hq;go_wp2_with fail;refine hK.out _ _ (Cy hq) (fun Aa=>?_);clear hK K;refine M915 ?_;refine ta 21 ?_;refine ta 22 ?_;try simp only[nrm]
   refine ta 23 ?_;exact QA79
  refine zJ3 (S:=fun wx=>(wx.cell? ⟨g,0,none⟩=some (.int .i64 m)/\wx.cell? ⟨gx,0,none⟩=some (.int .i64 7)/\wx.cell? ⟨gx,1,none⟩=some (.int .i64 n)/\wx.cell? ⟨gx,2,none⟩=some (.slice a2 nm c2)/\wx.cell? ⟨gx,3,none⟩=some (.slice a3 nn c3)/\wx.cell? ⟨gx,4,none⟩=some (.slice a4 ks.length c4))) A2 An (fun Aa=>?_);refine M922 ?_;refine M95 ?_;try simp only[nrm]
  refine ra 10 fun K hK=>?_;go_simp;refine M934 ?_;intro w3 hq;go_wp2_with fail;refine hK.out _ _ (Cy hq) (fun Aa=>?_);clear hK K;refine M915 ?_;try simp only[nrm]
  refine ta 21 ?_;refine ta 22 ?_;try simp only[nrm]
  refine M942 ?_;refine zK0 A2 ?_ _;refine M92 ?_;clear x0 Av yy hb HK hq z0 q0 q1 q2 q3 q4 An Cy y2;intro x0 Av yy hb q0 q1 q2 q3 q4 hn3 hn2;by_cases e0:nn=0
  .
   have Ai:aN name false=false:=cY A47;rw[e0]at q3 ⊢;have he:Hid (cT (.mk 7 n mod name ks) d true left=false):=bK (cM (.inr (.inr (.inr (.inl ⟨by decide,Ai⟩)))));exact QA4
  have Eh:(0:Int)<(nn:Int):=A0;generalize Ba:aN name false=nb at *;have Dz:Hid (aN name false=nb):=Ba;clear Ba;go_wp2_with fail;refine hn3.mono ?_;rintro e w3 ⟨rfl,rfl⟩;clear hn3;cases nb
  .
   have he:Hid (cT (.mk 7 n mod name ks) d true left=false):=bK (cM (.inr (.inr (.inr (.inl ⟨by decide,Dz.out⟩)))));exact QA4
  by_cases em:nm=0;rotate_left
  .
   have Nj:(0:Int)<(nm:Int):=A0;have he:Hid (cT (.mk 7 n mod name ks) d true left=false):=bK (cM (.inr (.inr (.inr (.inr (.inr (.inl ⟨by rw[Mi.out];exact em,by decide⟩)))))));exact QA4
  refine M936 ?_;intro Nj Jp;clear em;by_cases n0:n=0;rotate_left
  .
   have n0':(n != 0)=true:=by simpa using n0
   have he:Hid (cT (.mk 7 n mod name ks) d true left=false):=bK (cM (.inr (.inr (.inl A29))));exact QA4
  have n0':(n != 0)=false:=by simpa using n0
  have Dr:Hid (inB n (fV 7) (dK 7)=true):=by show _=_;rw[n0];decide
  clear n0;have HE:Hid (cT (.mk 7 n mod name ks) d true left=dY ks (d+1) false m):=by
   show _=_
   rw[eH (jF Gp.out.1 Gp.out.2 Dr.out (by rw[show eC 7=true from by decide];exact Dz.out) A41) (.inr rfl) A15 A0,Bu.out];rfl
  have HD:Hid (cQ (.mk 7 n mod name ks)=1+aD ks):=by show _=_;simp[cQ]
  exact QA7
mutual
theorem aRm:∀x:Ex,aIr x
 | .mk k n m a ks=>aRn k n m a ks (aCw ks)
theorem aCw:∀(l:List Ex),∀x ∈ l,aIr x
 | [],x,h=>by simp at h
 | y :: l,x,h=>by
  rcases zG3.1 h with h|h
  .
   rw[h];exact aRm y
  .
   exact aCw l x h
end
end Go.Proofs.YtcbhdhmhidpdgaaGreatDoor
