import Derived.Test.YtcbhdhmhidpdgaaGreatPackC
import Derived.Deep.RegionHeld3
namespace Go.Proofs.YtcbhdhmhidpdgaaGreat
open Go.RowKit
set_option linter.unusedVariables false
set_option linter.unusedSimpArgs false
set_option maxRecDepth 100000
theorem A2{p:Prop}(h:p:=by kernel_rfl):p:=h
theorem A7{p:Prop}(h:p:=by decide):p:=h
theorem A11{p:Prop}(h:p:=by show(_:Int)<=_;rw[Dq.out];omega):p:=h
theorem A17{p:Prop}(h:p:=by have:=Bt.out;omega):p:=h
theorem A25{p:Prop}(h:p:=by have:=Ei.out;omega):p:=h
theorem A33{p:Prop}(h:p:=by simp[inB,gD,dM];omega):p:=h
theorem A45{p:Prop}(h:p:=by rw[zB3 Js.out];rfl):p:=h
theorem A48{p:Prop}(h:p:=by rw[Ds];omega):p:=h
theorem A52{p:Prop}(h:p:=by rw[Ha.out];omega):p:=h
theorem A60{p:Prop}(h:p:=by rw[show eF 6=true from by decide];exact Ea.out):p:=h
theorem QA2{p:Prop}(h:p:=by
 have HD:Hid (cU (.mk 6 n mod name ks)=1+aD ks):=by show _=_;simp[cU]
 have Ga:Hid _:=x0
 have HY:Hid (w.grownBy w3 (some g)):=yy
 have Bv:Hid (Below w0.heap.size w0 w3):=hb
 have Eb:Hid (Lft w3 g (m-(aD (ks.take 0):Int))):=by show Lft _ _ _;simpa [aD] using Av
 have Ep:Hid (aX w0 a4 c4 5 (exs ks)):=h4
 have HSK:Hid (aG (exs ks)<=1048576):=Iz
 have HSS:Hid (∀x ∈ ks,aJb x):=S
 have Cu:0<=m:=A0
 have Ew:m<=250:=by have:=Bt.out;omega
 have Cn:d+1<=17:=A0
 have Cv:0<=d+1:=A0
 go_wp2_with fail
 clear q0 q1 q2 q3 q4 x0 yy hb Av h4
 go_loopw [10] (fun i wr=>∃j:Nat,j<=ks.length/\i=.int .i64 j/\Hid (w3.grownBy wr (some g))/\Hid (Lft wr g (m-(aD (ks.take j):Int)))/\Hid ((aD (ks.take j):Int)<=m)/\Hid (∀i x,i<j->ks[i]?=some x->cY x (d+1) true (m-(aD (ks.take i):Int))=true)) (fun i _=>ks.length-(intOf i).toNat)
 case atStart=>exact⟨0,zD1 _,rfl,aQ _ _,Eb,by show(_:Int)<=_;simp[aD];omega,by show ∀_ _,_;omega⟩
 case round=>
  obtain⟨j,hj,rfl,Am,Cw,Ei,Aq⟩:=hrel
  clear Eb
  have x0:=Blk.grown Ga.out Am.out Au
  have q0:=x0.k 0
  have q4:=x0.k 4
  have hb:=bY Bv.out Am.out hg
  by_cases Ad:j<ks.length
  .
   obtain⟨b4,o4,rfl⟩:=aX.addr Ep.out A48
   obtain⟨x,hx⟩:∃x,ks[j]?=some x:=⟨ks[j],zA0 _⟩
   have Bc:(exs ks)[j]?=some x.fl:=by rw[aY,zA2,hx];rfl
   obtain⟨us,Al,Ab⟩:=(aX.el Ep.out Bc).vals
   obtain⟨u0,u1,u2,u3,u4,rfl⟩:=dV (Al.len.trans (eQ x))
   have Iu:w0.cell? ⟨b4,o4+j*5,none⟩=some u0:=Ab 0 _ rfl
   replace Ab:∀i v,_->_:=fun i v hv=>aB (Ab i v hv) hb
   have t0:wr.cell? ⟨b4,o4+j*5,none⟩=some u0:=Ab 0 _ rfl
   have t1:wr.cell? ⟨b4,o4+j*5+1,none⟩=some u1:=Ab 1 _ rfl
   have t2:wr.cell? ⟨b4,o4+j*5+2,none⟩=some u2:=Ab 2 _ rfl
   have t3:wr.cell? ⟨b4,o4+j*5+3,none⟩=some u3:=Ab 3 _ rfl
   have t4:wr.cell? ⟨b4,o4+j*5+4,none⟩=some u4:=Ab 4 _ rfl
   have Ek:=zA3 hx
   have Ch:aP x.fl<=1048576:=zF2 (cA (zA3 Bc)) HSK.out
   have Pe:Below w0.heap.size w0 wr.drew:=hb.drew
   have Vo:Lft wr.drew g (m-(aD (ks.take j):Int)):=Cw.out
   have HC:=HSS.out x Ek w0 wr.drew [u0,u1,u2,u3,u4] g (m-(aD (ks.take j):Int)) (d+1) true Al Pe hg Vo A25 A0 Cv Cn Ch
   simp only[agg]at HC
   have HJ:Hid (ks[j]?=some x):=hx
   have Dq:Hid (aD (ks.take (j+1))=aD (ks.take j)+cU x):=bU hx
   clear Ab hx Bc Ek Ch Al Pe Vo
   generalize hsp:cY x (d+1) true (m-(aD (ks.take j):Int))=rr at *
   have Co:Hid (cY x (d+1) true (m-(aD (ks.take j):Int))=rr):=hsp
   clear hsp
   have Eu:b4 ≠ g:=by
    have:=zI2 w0 _ Iu
    simp only at this
    omega
   have Ao:(wr.drew.cell? ⟨gx,0,none⟩=some (.int .i64 6)/\wr.drew.cell? ⟨gx,4,none⟩=some (.slice (some ⟨b4,o4,none⟩) ks.length c4)/\wr.drew.cell? ⟨b4,o4+j*5,none⟩=some u0/\wr.drew.cell? ⟨b4,o4+j*5+1,none⟩=some u1/\wr.drew.cell? ⟨b4,o4+j*5+2,none⟩=some u2/\wr.drew.cell? ⟨b4,o4+j*5+3,none⟩=some u3/\wr.drew.cell? ⟨b4,o4+j*5+4,none⟩=some u4):=⟨q0,q4,t0,t1,t2,t3,t4⟩
   have Da:∀{wl:World},wr.drew.grownBy wl (some g)->(wl.cell? ⟨gx,0,none⟩=some (.int .i64 6)/\wl.cell? ⟨gx,4,none⟩=some (.slice (some ⟨b4,o4,none⟩) ks.length c4)/\wl.cell? ⟨b4,o4+j*5,none⟩=some u0/\wl.cell? ⟨b4,o4+j*5+1,none⟩=some u1/\wl.cell? ⟨b4,o4+j*5+2,none⟩=some u2/\wl.cell? ⟨b4,o4+j*5+3,none⟩=some u3/\wl.cell? ⟨b4,o4+j*5+4,none⟩=some u4):=fun hq=>⟨cG Ao.1 hq Au,cG Ao.2.1 hq Au,cG Ao.2.2.1 hq Eu,cG Ao.2.2.2.1 hq Eu,cG Ao.2.2.2.2.1 hq Eu,cG Ao.2.2.2.2.2.1 hq Eu,cG Ao.2.2.2.2.2.2 hq Eu⟩
   have z5:(0:Int)<=(j:Int):=A0
   have z7:IntKind.i64.wrap (d+1)=d+1:=by rw[IntKind.wrap_i64];omega
   have z6:(j:Int)<(ks.length:Int):=A0
   go_upto_region 21 with fail
   go_region_held3 (fun wx=>(wx.cell? ⟨gx,0,none⟩=some (.int .i64 6)/\wx.cell? ⟨gx,4,none⟩=some (.slice (some ⟨b4,o4,none⟩) ks.length c4)/\wx.cell? ⟨b4,o4+j*5,none⟩=some u0/\wx.cell? ⟨b4,o4+j*5+1,none⟩=some u1/\wx.cell? ⟨b4,o4+j*5+2,none⟩=some u2/\wx.cell? ⟨b4,o4+j*5+3,none⟩=some u3/\wx.cell? ⟨b4,o4+j*5+4,none⟩=some u4)) (first|exact Ao|exact Me) (first
    | (go_at_call 125;(with_reducible refine HC.mono ?_);rintro e w4 ⟨rfl,Ah,Bd⟩;have Me:=Da Ah))
   clear Me Da Ao
   have Di:Hid (w3.grownBy w4 (some g)):=aC Am.out (aC (show wr.grownBy wr.drew (some g) from⟨rfl,rfl,rfl,zB0 _,fun _ _ _=>rfl⟩) Ah)
   have Dv:Hid (rr=true->Lft w4 g (m-(aD (ks.take j):Int)-(cU x:Int))):=Bd
   clear HC t0 t1 t2 t3 t4 q0 q4 x0 hb Ah Bd
   cases rr
   .
    have he:Hid (cY (.mk 6 n mod name ks) d Bi left=false):=by show _=_;rw[HE.out];exact eE HJ.out Co.out
    have Bm:=aC HY.out Di.out
    go_wp2
    go_ret
    rw[he.out]
    exact⟨rfl,Bm,by simp⟩
   .
    have Ci:=fZ Co.out
    have Fo:Hid (Lft w4 g (m-(aD (ks.take (j+1)):Int))):=by
     have:=Dv.out rfl
     rw[show m-(aD (ks.take j):Int)-(cU x:Int)=m-(aD (ks.take (j+1)):Int) by rw[Dq.out];omega]at this
     exact this
    go_wp2
    go_roundw
    case rel=>exact⟨j+1,by omega,by go_num,Di,Fo,A11,(show ∀i x,i<j+1->_ from fun i y hi hy=>(zJ2 i j).elim (fun h=>Aq.out i y h hy) (fun h=>by
     obtain rfl:i=j:=A0
     rw[HJ.out]at hy
     cases hy
     exact Co.out))⟩
    case measure=>simp[intOf];omega
  .
   have:j=ks.length:=A0
   subst this
   have he:Hid (cY (.mk 6 n mod name ks) d Bi left=true):=by
    show _=_
    rw[HE.out]
    exact dL (fun i y hy=>Aq.out i y (zC1.1 hy).1 hy) Cu
   have Bm:=aC HY.out Am.out
   have Dd:=Cw.out
   rw[List.take_length]at Dd
   go_wp2
   go_ret
   rw[he.out]
   exact⟨rfl,Bm,fun _=>by rw[HD.out,show left-((1+aD ks:Nat):Int)=m-(aD ks:Int) by have:=Bt.out;omega];exact Dd⟩):p:=h
theorem QA3{p:Prop}(h:p:=by
 have Ci:=fZ Co.out
 have Fo:Hid (Lft w4 g (m-(aD (ks.take (j+1)):Int))):=by
  have:=Dv.out rfl
  rw[show m-(aD (ks.take j):Int)-(cU x:Int)=m-(aD (ks.take (j+1)):Int) by rw[Dq.out];omega]at this
  exact this
 go_wp2
 go_roundw
 case rel=>exact⟨j+1,by omega,by go_num,Di,Fo,A11,(show ∀i x,i<j+1->_ from fun i y hi hy=>(zJ2 i j).elim (fun h=>Aq.out i y h hy) (fun h=>by
  obtain rfl:i=j:=A0
  rw[HJ.out]at hy
  cases hy
  exact Co.out))⟩
 case measure=>simp[intOf];omega):p:=h
theorem QA4{p:Prop}(h:p:=by
 go_wp2
 go_ret
 rw[he.out]
 exact⟨rfl,yy,by simp⟩):p:=h
theorem QA7{p:Prop}(h:p:=by
 have hz:ks.length=0:=kI Gs.out.2 A7
 have Ax:ks=[]:=zE0 hz
 have HT:Hid (eC ks (d+1) false m=true):=by show _=_;rw[Ax];exact kD A0
 have Mt:Hid (aD ks=0):=by show _=_;rw[Ax];rfl
 subst Ax
 simp only[zC3]at q4 ⊢
 clear hz x0 Ds Kq
 go_wp2_with fail
 refine zH1 1 ?_
 rw[zE2]
 go_wp2
 go_ret
 rw[HE.out,HT.out]
 exact⟨rfl,yy,fun _=>by rw[HD.out,Mt.out,show left-((1+0:Nat):Int)=m by have:=Bt.out;omega];exact Av⟩):p:=h
theorem QA12{p:Prop}(h:p:=by
 go_wp2
 go_ret
 rw[he.out]
 exact⟨rfl,Bm,by simp⟩):p:=h
theorem QA15{p:Prop}(h:p:=by
 have Bm:=aC HY.out Am.out
 have Dd:=Cw.out
 rw[List.take_length]at Dd
 go_wp2
 go_ret
 rw[he.out]
 exact⟨rfl,Bm,fun _=>by rw[HD.out,show left-((1+aD ks:Nat):Int)=m-(aD ks:Int) by have:=Bt.out;omega];exact Dd⟩):p:=h
theorem QA20{p:Prop}(h:p:=by
 refine ta 7 ?_
 refine ta 8 ?_
 try simp only[nrm]
 refine sa 9 ?_
 refine sa 10 ?_
 refine sa 11 ?_
 try simp only[nrm]
 refine sa 12 ?_
 refine sa 13 ?_
 refine sa 14 ?_
 try simp only[nrm]
 refine ta 15 ?_
 refine ta 16 ?_
 try simp only[nrm]
 refine sa 17 ?_
 refine sa 18 ?_
 refine sa 19 ?_
 try simp only[nrm]
 refine sa 20 ?_
 refine sa 21 ?_
 refine sa 22 ?_
 try simp only[nrm]
 refine sa 23 ?_
 try simp only[nrm]
 refine ta 24 ?_
 try simp only[nrm]
 refine zK1 A2 ?_ _
 go_wp2
 go_ret
 rw[he.out]
 exact⟨rfl,aC yy (dC y2 _),by simp⟩):p:=h
theorem QA51{p:Prop}(h:p:=by
 show _=_
 rw[HE.out]
 exact dL (fun i y hy=>Aq.out i y (zC1.1 hy).1 hy) Cu):p:=h
theorem QA78{p:Prop}(h:p:=by
 refine ta 24 ?_
 try simp only[nrm]
 refine zK1 A2 ?_ _
 go_wp2
 go_ret
 rw[he.out]
 exact⟨rfl,aC yy (dC (aC y2 hq) _),by simp⟩):p:=h
theorem M93{p q:Prop}(k:q)(h:Kx q->p:=by
 intro kQ
 have Cs:=aC y2 hq
 replace x0:=x0.below (aA Cs) x0.lt
 replace Av:Lft w3 g m:=Blk.below Av (aA Cs) (Blk.lt Av)
 replace yy:=aC yy (dC Cs _)
 replace hb:=hb.trans ((aA Cs).mono hb.size)
 clear Cs
 obtain⟨q0,q1,q2,q3,q4⟩:=x0.c5
 have Dk:=aR a3 nn c3 name false w3 (h3.below hb) A0
 have Dl:=aR a2 nm c2 mod true w3 (h2.below hb) A0
 revert Dl;revert Dk;revert q4;revert q3;revert q2;revert q1;revert q0;revert hb;revert yy;revert Av;revert x0
 exact kQ.o):p:=h ⟨k⟩
theorem M95{p q:Prop}(k:q)(h:Kx q->p:=by
 intro kQ
 try simp only[nrm]
 refine ta 3 ?_
 refine ta 4 ?_
 refine ta 5 ?_
 try simp only[nrm]
 refine ta 6 ?_
 refine ta 7 ?_
 refine ta 8 ?_
 try simp only[nrm]
 refine ta 9 ?_
 refine ta 11 ?_
 refine ta 12 ?_
 try simp only[nrm]
 refine ta 13 ?_
 exact kQ.o):p:=h ⟨k⟩
theorem M913{p q:Prop}(k:q)(h:Kx q->p:=by
 intro kQ
 try simp only[nrm]
 refine ta 14 ?_
 refine ta 15 ?_
 refine ta 16 ?_
 try simp only[nrm]
 refine ta 17 ?_
 refine ta 18 ?_
 refine ta 19 ?_
 try simp only[nrm]
 refine ta 20 ?_
 exact kQ.o):p:=h ⟨k⟩
theorem M921{p q:Prop}(k:q)(h:Kx q->p:=by
 intro kQ
 refine ta 0 ?_
 refine ta 1 ?_
 refine ta 2 ?_
 exact kQ.o):p:=h ⟨k⟩
theorem M925{p q:Prop}(k:q)(h:Kx q->p:=by
 intro kQ
 refine ta 3 ?_
 refine ta 4 ?_
 refine ta 5 ?_
 exact kQ.o):p:=h ⟨k⟩
theorem M928{p q:Prop}(k:q)(h:Kx q->p:=by
 intro kQ
 try simp only[nrm]
 refine sa 21 ?_
 refine sa 22 ?_
 try simp only[nrm]
 refine ta 23 ?_
 refine ta 24 ?_
 try simp only[nrm]
 exact kQ.o):p:=h ⟨k⟩
theorem M971{p q:Prop}(k:q)(h:Kx q->p:=by
 intro kQ
 have Iu:w0.cell? ⟨b4,o4+j*5,none⟩=some u0:=Ab 0 _ rfl
 replace Ab:∀i v,_->_:=fun i v hv=>aB (Ab i v hv) hb
 have t0:wr.cell? ⟨b4,o4+j*5,none⟩=some u0:=Ab 0 _ rfl
 have t1:wr.cell? ⟨b4,o4+j*5+1,none⟩=some u1:=Ab 1 _ rfl
 have t2:wr.cell? ⟨b4,o4+j*5+2,none⟩=some u2:=Ab 2 _ rfl
 have t3:wr.cell? ⟨b4,o4+j*5+3,none⟩=some u3:=Ab 3 _ rfl
 have t4:wr.cell? ⟨b4,o4+j*5+4,none⟩=some u4:=Ab 4 _ rfl
 have Ek:=zA3 hx
 have Ch:aP x.fl<=1048576:=zF2 (cA (zA3 Bc)) HSK.out
 have Pe:Below w0.heap.size w0 wr.drew:=hb.drew
 have Vo:Lft wr.drew g (m-(aD (ks.take j):Int)):=Cw.out
 have HC:=HSS.out x Ek w0 wr.drew [u0,u1,u2,u3,u4] g (m-(aD (ks.take j):Int)) (d+1) false Al Pe hg Vo A25 A0 Cv Cn Ch
 revert HC;revert Vo;revert Pe;revert Ch;revert Ek;revert t4;revert t3;revert t2;revert t1;revert t0;revert Ab;revert Iu
 exact kQ.o):p:=h ⟨k⟩
theorem M934{p q:Prop}(k:q)(h:Kx q->p:=by
 intro kQ
 (with_reducible refine HK.mono ?_)
 rintro e w3 ⟨rfl,hq⟩
 revert hq;revert w3
 exact kQ.o):p:=h ⟨k⟩
theorem M936{p q:Prop}(k:q)(h:Kx q->p:=by
 intro kQ
 have Nt:¬(0:Int)<(nm:Int):=A0
 have Js:Hid (mod.length=0):=Ms.out.trans em
 revert Js;revert Nt
 exact kQ.o):p:=h ⟨k⟩
theorem M944{p q:Prop}(k:q)(h:Kx q->p:=by
 intro kQ
 have Ga:Hid _:=x0
 have HY:Hid (w.grownBy w3 (some g)):=yy
 have Bv:Hid (Below w0.heap.size w0 w3):=hb
 have Eb:Hid (Lft w3 g (m-(aD (ks.take 0):Int))):=by show Lft _ _ _;simpa [aD] using Av
 have Ep:Hid (aX w0 a4 c4 5 (exs ks)):=h4
 have HSK:Hid (aG (exs ks)<=1048576):=Iz
 have HSS:Hid (∀x ∈ ks,aJb x):=S
 have Cu:0<=m:=A0
 have Ew:m<=250:=by have:=Bt.out;omega
 have Cn:d+1<=17:=A0
 have Cv:0<=d+1:=A0
 revert Cv;revert Cn;revert Ew;revert Cu;revert HSS;revert HSK;revert Ep;revert Eb;revert Bv;revert HY;revert Ga
 exact kQ.o):p:=h ⟨k⟩
theorem M960{p q:Prop}(k:q)(h:Kx q->p:=by
 intro kQ
 have Di:Hid (w3.grownBy w4 (some g)):=aC Am.out (aC (show wr.grownBy wr.drew (some g) from⟨rfl,rfl,rfl,zB0 _,fun _ _ _=>rfl⟩) Ah)
 have Dv:Hid (rr=true->Lft w4 g (m-(aD (ks.take j):Int)-(cU x:Int))):=Bd
 revert Dv;revert Di
 exact kQ.o):p:=h ⟨k⟩
theorem M964{p q:Prop}(k:q)(h:Kx q->p:=by
 intro kQ
 have Av:Lft _ g (left-1):=Blk.set Tw (i:=0) (.int .i64 (left-1))
 have hq:w1.grownBy (w1.setCell ⟨g,0,none⟩ (.int .i64 (left-1))) (some g):=uY
 revert hq;revert Av
 exact kQ.o):p:=h ⟨k⟩
def Lft (w:World)(g:Nat)(n:Int):Prop:=Blk w g 3 [.int .i64 n]
def aJb (x:Ex):Prop:=∀(w0 w:World) (vs:List Value) (g:Nat) (left d:Int) (Bi:Bool),aL w0 x.fl vs->Below w0.heap.size w0 w->w0.heap.size<=g->Lft w g left->0<=left->left<=250->0<=d->d<=17->aP x.fl<=1048576 →
 Calls Tryz.prog 125 #[agg vs,.int .i64 d,.bool Bi,.pointer (some ⟨g,0,none⟩)] w fun e w'=>e=.returned (.bool (cY x d Bi left))/\w.grownBy w' (some g)/\(cY x d Bi left=true->Lft w' g (left-(cU x:Int)))
theorem aKu {n:Int}:(n == wrap64 (wrap32 n))=inB n (-2147483648) 2147483647:=by
 rw[Bool.eq_iff_iff];simp only[beq_iff_eq,inB,zC0,zE3,wrap64,wrap32];omega
theorem dV {α:Type}{l:List α}(h:l.length=5):∃a b c d e,l=[a,b,c,d,e]:=by
 match l,h with
 | [a,b,c,d,e],_=>exact⟨a,b,c,d,e,rfl⟩
theorem aC8 (n:Int)(w:World):
  Calls Tryz.prog 123 #[.int .i64 n] w fun e w'=>e=.returned (.int .i64 (wrap64 (wrap32 n)))/\w'=w:=by
 go_enter Tryz.func123,Tryz.ntmps123;go_wp2;go_ret;exact⟨rfl,rfl⟩
set_option maxHeartbeats 40000000 in
theorem aSl (k n:Int)(mod name:List Int)(ks:List Ex)(S:∀x ∈ ks,aJb x):aJb (.mk k n mod name ks):=by
 intro w0 w vs g left d Bi hr hb hg hL Gl Xl Zc hd1 hs;unfold Ex.fl at hr;have Ee:mod.length<=1048576/\name.length<=1048576:=by simp only[Ex.fl,aP,Fl.len]at hs;omega
 have Iz:aG (exs ks)<=1048576:=by simp only[Ex.fl,aP,Fl.len]at hs;omega
 clear hs;obtain⟨y0,_,rfl,rfl,y1,_,rfl,rfl,y2,_,rfl,⟨a2,c2,rfl,h2,Do,_⟩,y3,_,rfl,⟨a3,c3,rfl,h3,Hq,_⟩,y4,_,rfl,Qh,rfl⟩:=hr;obtain⟨a4,c4,rfl,h4⟩:=Qh.list;clear Qh;have Ds:(exs ks).length=ks.length:=by simp[aY]
 have Kq:ks.length<=9223372036854775807:=by have h5:=h4.cap;have h6:=h4.most;unfold maxLen at h6;omega
 rw[Ds];simp only[agg];obtain⟨nn,Jb⟩:=zx (name.length);obtain⟨nm,Hm⟩:=zx (mod.length);rw[<-Jb]at h3 Ee Hq ⊢;rw[<-Hm]at h2 Ee Do ⊢;have Ha:Hid (name.length=nn):=Jb.symm;have Ms:Hid (mod.length=nm):=Hm.symm;clear Jb Hm;have Ey:g<w.heap.size:=Blk.lt hL;have Au:w.heap.size ≠ g:=A0;have yy:=aE w (.cells #[.int .i64 k,.int .i64 n,.slice a2 nm c2,.slice a3 nn c3,.slice a4 ks.length c4] 147 (0,0)) (some g);have x0:=Blk.new w 147 [.int .i64 k,.int .i64 n,.slice a2 nm c2,.slice a3 nn c3,.slice a4 ks.length c4];have Tw:=Blk.old hL (o:=.cells #[.int .i64 k,.int .i64 n,.slice a2 nm c2,.slice a3 nn c3,.slice a4 ks.length c4] 147 (0,0));replace hb:Below w0.heap.size w0 (w.alloc (.cells #[.int .i64 k,.int .i64 n,.slice a2 nm c2,.slice a3 nn c3,.slice a4 ks.length c4] 147 (0,0))):=hb.alloc hb.size _;clear hL;go_enter Tryz.func125,Tryz.ntmps125;go_upto_region 1 with fail;generalize w.alloc (.cells #[.int .i64 k,.int .i64 n,.slice a2 nm c2,.slice a3 nn c3,.slice a4 ks.length c4] 147 (0,0))=w1 at *;have z0:=Tw.k 0;have z1:=Tw.free 0;go_upto_region 2 with fail;refine M964 ?_;intro Av hq;replace x0:=x0.grown hq Au;replace yy:=aC yy hq;replace hb:=bY hb hq hg;generalize w1.setCell ⟨g,0,none⟩ (.int .i64 (left-1))=w2 at *;generalize w.heap.size=gx at *;clear z0 z1 Tw hq Ey;obtain⟨m,hm⟩:=zx (left-1);rw[<-hm]at Av;have z0:=Av.k 0;obtain⟨q0,q1,q2,q3,q4⟩:=x0.c5;have Bt:Hid (m=left-1):=hm;have Ao:(w2.drew.cell? ⟨g,0,none⟩=some (.int .i64 m)/\w2.drew.cell? ⟨gx,0,none⟩=some (.int .i64 k)/\w2.drew.cell? ⟨gx,1,none⟩=some (.int .i64 n)/\w2.drew.cell? ⟨gx,2,none⟩=some (.slice a2 nm c2)/\w2.drew.cell? ⟨gx,3,none⟩=some (.slice a3 nn c3)/\w2.drew.cell? ⟨gx,4,none⟩=some (.slice a4 ks.length c4)):=⟨z0,q0,q1,q2,q3,q4⟩
 have Da:∀{wl:World},w2.drew.grownBy wl none->(wl.cell? ⟨g,0,none⟩=some (.int .i64 m)/\wl.cell? ⟨gx,0,none⟩=some (.int .i64 k)/\wl.cell? ⟨gx,1,none⟩=some (.int .i64 n)/\wl.cell? ⟨gx,2,none⟩=some (.slice a2 nm c2)/\wl.cell? ⟨gx,3,none⟩=some (.slice a3 nn c3)/\wl.cell? ⟨gx,4,none⟩=some (.slice a4 ks.length c4)):=by
  intro wl hq;have hb:Below w2.drew.heap.size w2.drew wl:=aA hq;exact⟨aB Ao.1 hb,aB Ao.2.1 hb,aB Ao.2.2.1 hb,aB Ao.2.2.2.1 hb,aB Ao.2.2.2.2.1 hb,aB Ao.2.2.2.2.2 hb⟩
 have HK:=aL6 k n (.slice a2 nm c2) (.slice a3 nn c3) a4 ks.length c4 w2.drew Kq;have y2:w2.grownBy w2.drew none:=⟨rfl,rfl,rfl,zB0 _,fun _ _ _=>rfl⟩
 by_cases r1:m<0
 .
  have he:Hid (cY (.mk k n mod name ks) d Bi left=false):=tN (.inl A0);clear HK Da hm;refine zK0 (S:=fun wx=>(wx.cell? ⟨g,0,none⟩=some (.int .i64 m)/\wx.cell? ⟨gx,0,none⟩=some (.int .i64 k)/\wx.cell? ⟨gx,1,none⟩=some (.int .i64 n)/\wx.cell? ⟨gx,2,none⟩=some (.slice a2 nm c2)/\wx.cell? ⟨gx,3,none⟩=some (.slice a3 nn c3)/\wx.cell? ⟨gx,4,none⟩=some (.slice a4 ks.length c4))) A2 Ao (fun Aa=>?_);refine M921 ?_;try simp only[nrm]
  refine ta 3 ?_;refine ta 4 ?_;try simp only[nrm]
  refine sa 5 ?_;refine sa 6 ?_;try simp only[nrm]
  exact QA20
 by_cases r2:16<d
 .
  have he:Hid (cY (.mk k n mod name ks) d Bi left=false):=tN (.inr r2);clear HK Da hm;refine zK0 (S:=fun wx=>(wx.cell? ⟨g,0,none⟩=some (.int .i64 m)/\wx.cell? ⟨gx,0,none⟩=some (.int .i64 k)/\wx.cell? ⟨gx,1,none⟩=some (.int .i64 n)/\wx.cell? ⟨gx,2,none⟩=some (.slice a2 nm c2)/\wx.cell? ⟨gx,3,none⟩=some (.slice a3 nn c3)/\wx.cell? ⟨gx,4,none⟩=some (.slice a4 ks.length c4))) A2 Ao (fun Aa=>?_);refine M921 ?_;try simp only[nrm]
  refine M925 ?_;try simp only[nrm]
  refine ta 6 ?_;exact QA20
 by_cases r3:eT k ks.length=ks.length;rotate_left
 .
  have hI:=fun h=>r3 ((tP k ks.length).2 h);have r3':(eT k ks.length != (ks.length:Int))=true:=by simpa using r3
  have Qz:iF k n mod name ks.length=false:=by
   cases i1:inB k 0 7
   .
    exact cR (.inl i1)
   .
    refine cR (.inr (.inl ?_));cases i2:inB (ks.length:Int) (dA k) (iT k)
    .
     rfl
    .
     exact absurd ⟨i1,by simp[inB]at i2;omega,by simp[inB]at i2;omega⟩ hI
  have he:Hid (cY (.mk k n mod name ks) d Bi left=false):=bN Qz;clear hI Qz hm r3;generalize eT k ks.length=sk at *;refine zK0 (S:=fun wx=>(wx.cell? ⟨g,0,none⟩=some (.int .i64 m)/\wx.cell? ⟨gx,0,none⟩=some (.int .i64 k)/\wx.cell? ⟨gx,1,none⟩=some (.int .i64 n)/\wx.cell? ⟨gx,2,none⟩=some (.slice a2 nm c2)/\wx.cell? ⟨gx,3,none⟩=some (.slice a3 nn c3)/\wx.cell? ⟨gx,4,none⟩=some (.slice a4 ks.length c4))) A2 Ao (fun Aa=>?_);refine M921 ?_;refine M95 ?_;try simp only[nrm]
  refine ra 10 fun K hK=>?_;go_simp;refine M934 ?_;intro w3 hq;go_wp2_with fail;refine hK.out _ _ (Da hq) (fun Aa=>?_);clear hK K;try simp only[nrm]
  refine ta 14 ?_;refine ta 15 ?_;refine ta 16 ?_;try simp only[nrm]
  refine sa 17 ?_;refine sa 18 ?_;refine sa 19 ?_;try simp only[nrm]
  refine sa 20 ?_;refine sa 21 ?_;refine sa 22 ?_;try simp only[nrm]
  refine sa 23 ?_;try simp only[nrm]
  exact QA78
 obtain⟨i1,i2,i3⟩:=(tP k ks.length).1 r3;have Gs:Hid (inB k 0 7=true/\inB (ks.length:Int) (dA k) (iT k)=true):=⟨i1,by simp[inB];omega⟩
 rw[r3]at HK;have h8:k=0\/k=1\/k=2\/k=3\/k=4\/k=5\/k=6\/k=7:=by simp[inB]at i1;omega
 clear r3 i1 i2 i3 hm;rcases h8 with rfl|rfl|rfl|rfl|rfl|rfl|rfl|rfl
 .
  refine zK0 (S:=fun wx=>(wx.cell? ⟨g,0,none⟩=some (.int .i64 m)/\wx.cell? ⟨gx,0,none⟩=some (.int .i64 0)/\wx.cell? ⟨gx,1,none⟩=some (.int .i64 n)/\wx.cell? ⟨gx,2,none⟩=some (.slice a2 nm c2)/\wx.cell? ⟨gx,3,none⟩=some (.slice a3 nn c3)/\wx.cell? ⟨gx,4,none⟩=some (.slice a4 ks.length c4))) A2 Ao (fun Aa=>?_);refine M921 ?_;refine M95 ?_;try simp only[nrm]
  refine ra 10 fun K hK=>?_;go_simp;refine M934 ?_;intro w3 hq;go_wp2_with fail;refine hK.out _ _ (Da hq) (fun Aa=>?_);clear hK K;refine M913 ?_;refine M928 ?_;refine zK1 A2 ?_ _;refine M93 ?_;clear x0 Av yy hb HK hq z0 q0 q1 q2 q3 q4 Ao Da y2;intro x0 Av yy hb q0 q1 q2 q3 q4 Dk Dl;by_cases e0:nn=0;rotate_left
  .
   have Ez:(0:Int)<(nn:Int):=A0;have he:Hid (cY (.mk 0 n mod name ks) d Bi left=false):=bN (cR (.inr (.inr (.inr (.inr (.inl ⟨by decide,by rw[Ha.out];exact e0⟩))))));exact QA4
  have Ez:¬(0:Int)<(nn:Int):=A0;have Mi:Hid (name.length=0):=Ha.out.trans e0;clear e0;by_cases em:nm=0;rotate_left
  .
   have Nt:(0:Int)<(nm:Int):=A0;have he:Hid (cY (.mk 0 n mod name ks) d Bi left=false):=bN (cR (.inr (.inr (.inr (.inr (.inr (.inl ⟨by rw[Ms.out];exact em,by decide⟩)))))));exact QA4
  refine M936 ?_;intro Nt Js;clear em;have hwf:(n != wrap64 (wrap32 n)) = !(inB n (-2147483648) 2147483647):=by rw[<-aKu];rfl
  have HW:=aC8 n w3.drew;generalize wrap64 (wrap32 n)=wn at *;generalize Jb:inB n (-2147483648) 2147483647=nnb at *;have Du:Hid (inB n (gD 0) (dM 0)=nnb):=Jb;clear Jb;go_upto_region 13 with fail;have q1d:w3.drew.cell? ⟨gx,1,none⟩=some (.int .i64 n):=q1;go_region_held3 (fun wx=>wx.cell? ⟨gx,1,none⟩=some (.int .i64 n)) (first|exact q1d) (first
   | (go_at_call 123;(with_reducible refine HW.mono ?_);rintro e w4 ⟨rfl,rfl⟩))
  have y3:w3.grownBy w3.drew none:=⟨rfl,rfl,rfl,zB0 _,fun _ _ _=>rfl⟩
  replace x0:Blk w3.drew gx 147 _:=x0;replace Av:Lft w3.drew g m:=Av;replace yy:=aC yy (dC y3 _);replace hb:=hb.drew;clear HW q0 q1 q2 q3 q4 q1d y3 Dl Dk;generalize w3.drew=w4 at *;obtain⟨q0,q1,q2,q3,q4⟩:=x0.c5;cases nnb
  .
   have he:Hid (cY (.mk 0 n mod name ks) d Bi left=false):=bN (cR (.inr (.inr (.inl Du.out))));exact QA4
  have HE:Hid (cY (.mk 0 n mod name ks) d Bi left=eC ks (d+1) false m):=by
   show _=_
   rw[eM (jO Gs.out.1 Gs.out.2 Du.out (by rw[show eF 0=false from by decide];exact zB3 Mi.out) A45) (.inl A7) A17 A0,Bt.out];rfl
  have HD:Hid (cU (.mk 0 n mod name ks)=1+aD ks):=by show _=_;simp[cU]
  exact QA7
 .
  refine zK0 (S:=fun wx=>(wx.cell? ⟨g,0,none⟩=some (.int .i64 m)/\wx.cell? ⟨gx,0,none⟩=some (.int .i64 1)/\wx.cell? ⟨gx,1,none⟩=some (.int .i64 n)/\wx.cell? ⟨gx,2,none⟩=some (.slice a2 nm c2)/\wx.cell? ⟨gx,3,none⟩=some (.slice a3 nn c3)/\wx.cell? ⟨gx,4,none⟩=some (.slice a4 ks.length c4))) A2 Ao (fun Aa=>?_);refine M921 ?_;refine M95 ?_;try simp only[nrm]
  refine ra 10 fun K hK=>?_;go_simp;refine M934 ?_;intro w3 hq;go_wp2_with fail;refine hK.out _ _ (Da hq) (fun Aa=>?_);clear hK K;refine M913 ?_;refine M928 ?_;refine zK1 A2 ?_ _;refine M93 ?_;clear x0 Av yy hb HK hq z0 q0 q1 q2 q3 q4 Ao Da y2;intro x0 Av yy hb q0 q1 q2 q3 q4 Dk Dl;by_cases e0:nn=0
  .
   have Aj:aO name false=false:=dB A52;rw[e0]at q3 ⊢;have he:Hid (cY (.mk 1 n mod name ks) d Bi left=false):=bN (cR (.inr (.inr (.inr (.inl ⟨by decide,Aj⟩)))));exact QA4
  have Ez:(0:Int)<(nn:Int):=A0;generalize Ba:aO name false=nb at *;have Ea:Hid (aO name false=nb):=Ba;clear Ba;go_wp2_with fail;refine Dk.mono ?_;rintro e w3 ⟨rfl,rfl⟩;clear Dk;cases nb
  .
   have he:Hid (cY (.mk 1 n mod name ks) d Bi left=false):=bN (cR (.inr (.inr (.inr (.inl ⟨by decide,Ea.out⟩)))));exact QA4
  by_cases em:nm=0;rotate_left
  .
   have Nt:(0:Int)<(nm:Int):=A0;have he:Hid (cY (.mk 1 n mod name ks) d Bi left=false):=bN (cR (.inr (.inr (.inr (.inr (.inr (.inl ⟨by rw[Ms.out];exact em,by decide⟩)))))));exact QA4
  refine M936 ?_;intro Nt Js;clear em;by_cases n0:n=0;rotate_left
  .
   have n0':(n != 0)=true:=by simpa using n0
   have he:Hid (cY (.mk 1 n mod name ks) d Bi left=false):=bN (cR (.inr (.inr (.inl A33))));exact QA4
  have n0':(n != 0)=false:=by simpa using n0
  have Du:Hid (inB n (gD 1) (dM 1)=true):=by show _=_;rw[n0];decide
  clear n0;have HE:Hid (cY (.mk 1 n mod name ks) d Bi left=eC ks (d+1) false m):=by
   show _=_
   rw[eM (jO Gs.out.1 Gs.out.2 Du.out (by rw[show eF 1=true from by decide];exact Ea.out) A45) (.inl A7) A17 A0,Bt.out];rfl
  have HD:Hid (cU (.mk 1 n mod name ks)=1+aD ks):=by show _=_;simp[cU]
  exact QA7
 .
  refine zK0 (S:=fun wx=>(wx.cell? ⟨g,0,none⟩=some (.int .i64 m)/\wx.cell? ⟨gx,0,none⟩=some (.int .i64 2)/\wx.cell? ⟨gx,1,none⟩=some (.int .i64 n)/\wx.cell? ⟨gx,2,none⟩=some (.slice a2 nm c2)/\wx.cell? ⟨gx,3,none⟩=some (.slice a3 nn c3)/\wx.cell? ⟨gx,4,none⟩=some (.slice a4 ks.length c4))) A2 Ao (fun Aa=>?_);refine M921 ?_;refine M95 ?_;try simp only[nrm]
  refine ra 10 fun K hK=>?_;go_simp;refine M934 ?_;intro w3 hq;go_wp2_with fail;refine hK.out _ _ (Da hq) (fun Aa=>?_);clear hK K;refine M913 ?_;refine M928 ?_;refine zK1 A2 ?_ _;refine M93 ?_;clear x0 Av yy hb HK hq z0 q0 q1 q2 q3 q4 Ao Da y2;intro x0 Av yy hb q0 q1 q2 q3 q4 Dk Dl;by_cases e0:nn=0
  .
   have Aj:aO name false=false:=dB A52;rw[e0]at q3 ⊢;have he:Hid (cY (.mk 2 n mod name ks) d Bi left=false):=bN (cR (.inr (.inr (.inr (.inl ⟨by decide,Aj⟩)))));exact QA4
  have Ez:(0:Int)<(nn:Int):=A0;generalize Ba:aO name false=nb at *;have Ea:Hid (aO name false=nb):=Ba;clear Ba;go_wp2_with fail;refine Dk.mono ?_;rintro e w3 ⟨rfl,rfl⟩;clear Dk;cases nb
  .
   have he:Hid (cY (.mk 2 n mod name ks) d Bi left=false):=bN (cR (.inr (.inr (.inr (.inl ⟨by decide,Ea.out⟩)))));exact QA4
  by_cases em:nm=0;rotate_left
  .
   have Nt:(0:Int)<(nm:Int):=A0;have he:Hid (cY (.mk 2 n mod name ks) d Bi left=false):=bN (cR (.inr (.inr (.inr (.inr (.inr (.inl ⟨by rw[Ms.out];exact em,by decide⟩)))))));exact QA4
  refine M936 ?_;intro Nt Js;clear em;by_cases n0:n=0;rotate_left
  .
   have n0':(n != 0)=true:=by simpa using n0
   have he:Hid (cY (.mk 2 n mod name ks) d Bi left=false):=bN (cR (.inr (.inr (.inl A33))));exact QA4
  have n0':(n != 0)=false:=by simpa using n0
  have Du:Hid (inB n (gD 2) (dM 2)=true):=by show _=_;rw[n0];decide
  clear n0;have HE:Hid (cY (.mk 2 n mod name ks) d Bi left=eC ks (d+1) false m):=by
   show _=_
   rw[eM (jO Gs.out.1 Gs.out.2 Du.out (by rw[show eF 2=true from by decide];exact Ea.out) A45) (.inl A7) A17 A0,Bt.out];rfl
  have HD:Hid (cU (.mk 2 n mod name ks)=1+aD ks):=by show _=_;simp[cU]
  refine M944 ?_;intro Ga HY Bv Eb Ep HSK HSS Cu Ew Cn Cv;go_wp2_with fail;clear q0 q1 q2 q3 q4 x0 yy hb Av h4;go_loopw [10] (fun i wr=>∃j:Nat,j<=ks.length/\i=.int .i64 j/\Hid (w3.grownBy wr (some g))/\Hid (Lft wr g (m-(aD (ks.take j):Int)))/\Hid ((aD (ks.take j):Int)<=m)/\Hid (∀i x,i<j->ks[i]?=some x->cY x (d+1) false (m-(aD (ks.take i):Int))=true)) (fun i _=>ks.length-(intOf i).toNat)
  case atStart=>exact⟨0,zD1 _,rfl,aQ _ _,Eb,by show(_:Int)<=_;simp[aD];omega,by show ∀_ _,_;omega⟩
  case round=>
   obtain⟨j,hj,rfl,Am,Cw,Ei,Aq⟩:=hrel;clear Eb;have x0:=Blk.grown Ga.out Am.out Au;have q0:=x0.k 0;have q4:=x0.k 4;have hb:=bY Bv.out Am.out hg;by_cases Ad:j<ks.length
   .
    obtain⟨b4,o4,rfl⟩:=aX.addr Ep.out A48;obtain⟨x,hx⟩:∃x,ks[j]?=some x:=⟨ks[j],zA0 _⟩
    have Bc:(exs ks)[j]?=some x.fl:=by rw[aY,zA2,hx];rfl
    obtain⟨us,Al,Ab⟩:=(aX.el Ep.out Bc).vals;obtain⟨u0,u1,u2,u3,u4,rfl⟩:=dV (Al.len.trans (eQ x));refine M971 ?_;clear Ab;intro Iu Ab t0 t1 t2 t3 t4 Ek Ch Pe Vo HC;simp only[agg]at HC;have HJ:Hid (ks[j]?=some x):=hx;have Dq:Hid (aD (ks.take (j+1))=aD (ks.take j)+cU x):=bU hx;clear Ab hx Bc Ek Ch Al Pe Vo;generalize hsp:cY x (d+1) false (m-(aD (ks.take j):Int))=rr at *;have Co:Hid (cY x (d+1) false (m-(aD (ks.take j):Int))=rr):=hsp;clear hsp;have Eu:b4 ≠ g:=by
     have:=zI2 w0 _ Iu;simp only at this;omega
    have Ao:(wr.drew.cell? ⟨gx,0,none⟩=some (.int .i64 2)/\wr.drew.cell? ⟨gx,4,none⟩=some (.slice (some ⟨b4,o4,none⟩) ks.length c4)/\wr.drew.cell? ⟨b4,o4+j*5,none⟩=some u0/\wr.drew.cell? ⟨b4,o4+j*5+1,none⟩=some u1/\wr.drew.cell? ⟨b4,o4+j*5+2,none⟩=some u2/\wr.drew.cell? ⟨b4,o4+j*5+3,none⟩=some u3/\wr.drew.cell? ⟨b4,o4+j*5+4,none⟩=some u4):=⟨q0,q4,t0,t1,t2,t3,t4⟩
    have Da:∀{wl:World},wr.drew.grownBy wl (some g)->(wl.cell? ⟨gx,0,none⟩=some (.int .i64 2)/\wl.cell? ⟨gx,4,none⟩=some (.slice (some ⟨b4,o4,none⟩) ks.length c4)/\wl.cell? ⟨b4,o4+j*5,none⟩=some u0/\wl.cell? ⟨b4,o4+j*5+1,none⟩=some u1/\wl.cell? ⟨b4,o4+j*5+2,none⟩=some u2/\wl.cell? ⟨b4,o4+j*5+3,none⟩=some u3/\wl.cell? ⟨b4,o4+j*5+4,none⟩=some u4):=fun hq=>⟨cG Ao.1 hq Au,cG Ao.2.1 hq Au,cG Ao.2.2.1 hq Eu,cG Ao.2.2.2.1 hq Eu,cG Ao.2.2.2.2.1 hq Eu,cG Ao.2.2.2.2.2.1 hq Eu,cG Ao.2.2.2.2.2.2 hq Eu⟩;have z5:(0:Int)<=(j:Int):=A0;have z7:IntKind.i64.wrap (d+1)=d+1:=by rw[IntKind.wrap_i64];omega
    have z6:(j:Int)<(ks.length:Int):=A0;go_upto_region 21 with fail;go_region_held3 (fun wx=>(wx.cell? ⟨gx,0,none⟩=some (.int .i64 2)/\wx.cell? ⟨gx,4,none⟩=some (.slice (some ⟨b4,o4,none⟩) ks.length c4)/\wx.cell? ⟨b4,o4+j*5,none⟩=some u0/\wx.cell? ⟨b4,o4+j*5+1,none⟩=some u1/\wx.cell? ⟨b4,o4+j*5+2,none⟩=some u2/\wx.cell? ⟨b4,o4+j*5+3,none⟩=some u3/\wx.cell? ⟨b4,o4+j*5+4,none⟩=some u4)) (first|exact Ao|exact Me) (first
     | (go_at_call 125;(with_reducible refine HC.mono ?_);rintro e w4 ⟨rfl,Ah,Bd⟩;have Me:=Da Ah))
    clear Me Da Ao;refine M960 ?_;intro Di Dv;clear HC t0 t1 t2 t3 t4 q0 q4 x0 hb Ah Bd;cases rr
    .
     have he:Hid (cY (.mk 2 n mod name ks) d Bi left=false):=by show _=_;rw[HE.out];exact eE HJ.out Co.out
     have Bm:=aC HY.out Di.out;exact QA12
    .
     exact QA3
   .
    have:j=ks.length:=A0;subst this;have he:Hid (cY (.mk 2 n mod name ks) d Bi left=true):=by
     exact QA51
    exact QA15
 .
  refine zK0 (S:=fun wx=>(wx.cell? ⟨g,0,none⟩=some (.int .i64 m)/\wx.cell? ⟨gx,0,none⟩=some (.int .i64 3)/\wx.cell? ⟨gx,1,none⟩=some (.int .i64 n)/\wx.cell? ⟨gx,2,none⟩=some (.slice a2 nm c2)/\wx.cell? ⟨gx,3,none⟩=some (.slice a3 nn c3)/\wx.cell? ⟨gx,4,none⟩=some (.slice a4 ks.length c4))) A2 Ao (fun Aa=>?_);refine M921 ?_;refine M95 ?_;try simp only[nrm]
  refine ra 10 fun K hK=>?_;go_simp;refine M934 ?_;intro w3 hq;go_wp2_with fail;refine hK.out _ _ (Da hq) (fun Aa=>?_);clear hK K;refine M913 ?_;refine M928 ?_;refine zK1 A2 ?_ _;refine M93 ?_;clear x0 Av yy hb HK hq z0 q0 q1 q2 q3 q4 Ao Da y2;intro x0 Av yy hb q0 q1 q2 q3 q4 Dk Dl;by_cases e0:nn=0;rotate_left
  .
   have Ez:(0:Int)<(nn:Int):=A0;have he:Hid (cY (.mk 3 n mod name ks) d Bi left=false):=bN (cR (.inr (.inr (.inr (.inr (.inl ⟨by decide,by rw[Ha.out];exact e0⟩))))));exact QA4
  have Ez:¬(0:Int)<(nn:Int):=A0;have Mi:Hid (name.length=0):=Ha.out.trans e0;clear e0;by_cases em:nm=0;rotate_left
  .
   have Nt:(0:Int)<(nm:Int):=A0;have he:Hid (cY (.mk 3 n mod name ks) d Bi left=false):=bN (cR (.inr (.inr (.inr (.inr (.inr (.inl ⟨by rw[Ms.out];exact em,by decide⟩)))))));exact QA4
  refine M936 ?_;intro Nt Js;clear em;by_cases n0:n<0
  .
   have he:Hid (cY (.mk 3 n mod name ks) d Bi left=false):=bN (cR (.inr (.inr (.inl A33))));exact QA4
  by_cases n5:5<n
  .
   have he:Hid (cY (.mk 3 n mod name ks) d Bi left=false):=bN (cR (.inr (.inr (.inl A33))));exact QA4
  have Du:Hid (inB n (gD 3) (dM 3)=true):=by show _=_;simp[inB,gD,dM];omega
  have HE:Hid (cY (.mk 3 n mod name ks) d Bi left=eC ks (d+1) false m):=by
   show _=_
   rw[eM (jO Gs.out.1 Gs.out.2 Du.out (by rw[show eF 3=false from by decide];exact zB3 Mi.out) A45) (.inl A7) A17 A0,Bt.out];rfl
  have HD:Hid (cU (.mk 3 n mod name ks)=1+aD ks):=by show _=_;simp[cU]
  refine M944 ?_;intro Ga HY Bv Eb Ep HSK HSS Cu Ew Cn Cv;go_wp2_with fail;clear q0 q1 q2 q3 q4 x0 yy hb Av h4;go_loopw [10] (fun i wr=>∃j:Nat,j<=ks.length/\i=.int .i64 j/\Hid (w3.grownBy wr (some g))/\Hid (Lft wr g (m-(aD (ks.take j):Int)))/\Hid ((aD (ks.take j):Int)<=m)/\Hid (∀i x,i<j->ks[i]?=some x->cY x (d+1) false (m-(aD (ks.take i):Int))=true)) (fun i _=>ks.length-(intOf i).toNat)
  case atStart=>exact⟨0,zD1 _,rfl,aQ _ _,Eb,by show(_:Int)<=_;simp[aD];omega,by show ∀_ _,_;omega⟩
  case round=>
   obtain⟨j,hj,rfl,Am,Cw,Ei,Aq⟩:=hrel;clear Eb;have x0:=Blk.grown Ga.out Am.out Au;have q0:=x0.k 0;have q4:=x0.k 4;have hb:=bY Bv.out Am.out hg;by_cases Ad:j<ks.length
   .
    obtain⟨b4,o4,rfl⟩:=aX.addr Ep.out A48;obtain⟨x,hx⟩:∃x,ks[j]?=some x:=⟨ks[j],zA0 _⟩
    have Bc:(exs ks)[j]?=some x.fl:=by rw[aY,zA2,hx];rfl
    obtain⟨us,Al,Ab⟩:=(aX.el Ep.out Bc).vals;obtain⟨u0,u1,u2,u3,u4,rfl⟩:=dV (Al.len.trans (eQ x));refine M971 ?_;clear Ab;intro Iu Ab t0 t1 t2 t3 t4 Ek Ch Pe Vo HC;simp only[agg]at HC;have HJ:Hid (ks[j]?=some x):=hx;have Dq:Hid (aD (ks.take (j+1))=aD (ks.take j)+cU x):=bU hx;clear Ab hx Bc Ek Ch Al Pe Vo;generalize hsp:cY x (d+1) false (m-(aD (ks.take j):Int))=rr at *;have Co:Hid (cY x (d+1) false (m-(aD (ks.take j):Int))=rr):=hsp;clear hsp;have Eu:b4 ≠ g:=by
     have:=zI2 w0 _ Iu;simp only at this;omega
    have Ao:(wr.drew.cell? ⟨gx,0,none⟩=some (.int .i64 3)/\wr.drew.cell? ⟨gx,4,none⟩=some (.slice (some ⟨b4,o4,none⟩) ks.length c4)/\wr.drew.cell? ⟨b4,o4+j*5,none⟩=some u0/\wr.drew.cell? ⟨b4,o4+j*5+1,none⟩=some u1/\wr.drew.cell? ⟨b4,o4+j*5+2,none⟩=some u2/\wr.drew.cell? ⟨b4,o4+j*5+3,none⟩=some u3/\wr.drew.cell? ⟨b4,o4+j*5+4,none⟩=some u4):=⟨q0,q4,t0,t1,t2,t3,t4⟩
    have Da:∀{wl:World},wr.drew.grownBy wl (some g)->(wl.cell? ⟨gx,0,none⟩=some (.int .i64 3)/\wl.cell? ⟨gx,4,none⟩=some (.slice (some ⟨b4,o4,none⟩) ks.length c4)/\wl.cell? ⟨b4,o4+j*5,none⟩=some u0/\wl.cell? ⟨b4,o4+j*5+1,none⟩=some u1/\wl.cell? ⟨b4,o4+j*5+2,none⟩=some u2/\wl.cell? ⟨b4,o4+j*5+3,none⟩=some u3/\wl.cell? ⟨b4,o4+j*5+4,none⟩=some u4):=fun hq=>⟨cG Ao.1 hq Au,cG Ao.2.1 hq Au,cG Ao.2.2.1 hq Eu,cG Ao.2.2.2.1 hq Eu,cG Ao.2.2.2.2.1 hq Eu,cG Ao.2.2.2.2.2.1 hq Eu,cG Ao.2.2.2.2.2.2 hq Eu⟩;have z5:(0:Int)<=(j:Int):=A0;have z7:IntKind.i64.wrap (d+1)=d+1:=by rw[IntKind.wrap_i64];omega
    have z6:(j:Int)<(ks.length:Int):=A0;go_upto_region 21 with fail;go_region_held3 (fun wx=>(wx.cell? ⟨gx,0,none⟩=some (.int .i64 3)/\wx.cell? ⟨gx,4,none⟩=some (.slice (some ⟨b4,o4,none⟩) ks.length c4)/\wx.cell? ⟨b4,o4+j*5,none⟩=some u0/\wx.cell? ⟨b4,o4+j*5+1,none⟩=some u1/\wx.cell? ⟨b4,o4+j*5+2,none⟩=some u2/\wx.cell? ⟨b4,o4+j*5+3,none⟩=some u3/\wx.cell? ⟨b4,o4+j*5+4,none⟩=some u4)) (first|exact Ao|exact Me) (first
     | (go_at_call 125;(with_reducible refine HC.mono ?_);rintro e w4 ⟨rfl,Ah,Bd⟩;have Me:=Da Ah))
    clear Me Da Ao;refine M960 ?_;intro Di Dv;clear HC t0 t1 t2 t3 t4 q0 q4 x0 hb Ah Bd;cases rr
    .
     have he:Hid (cY (.mk 3 n mod name ks) d Bi left=false):=by show _=_;rw[HE.out];exact eE HJ.out Co.out
     have Bm:=aC HY.out Di.out;exact QA12
    .
     exact QA3
   .
    have:j=ks.length:=A0;subst this;have he:Hid (cY (.mk 3 n mod name ks) d Bi left=true):=by
     exact QA51
    exact QA15
 .
  refine zK0 (S:=fun wx=>(wx.cell? ⟨g,0,none⟩=some (.int .i64 m)/\wx.cell? ⟨gx,0,none⟩=some (.int .i64 4)/\wx.cell? ⟨gx,1,none⟩=some (.int .i64 n)/\wx.cell? ⟨gx,2,none⟩=some (.slice a2 nm c2)/\wx.cell? ⟨gx,3,none⟩=some (.slice a3 nn c3)/\wx.cell? ⟨gx,4,none⟩=some (.slice a4 ks.length c4))) A2 Ao (fun Aa=>?_);refine M921 ?_;refine M95 ?_;try simp only[nrm]
  refine ra 10 fun K hK=>?_;go_simp;refine M934 ?_;intro w3 hq;go_wp2_with fail;refine hK.out _ _ (Da hq) (fun Aa=>?_);clear hK K;refine M913 ?_;refine M928 ?_;refine zK1 A2 ?_ _;refine M93 ?_;clear x0 Av yy hb HK hq z0 q0 q1 q2 q3 q4 Ao Da y2;intro x0 Av yy hb q0 q1 q2 q3 q4 Dk Dl;by_cases e0:nn=0;rotate_left
  .
   have Ez:(0:Int)<(nn:Int):=A0;have he:Hid (cY (.mk 4 n mod name ks) d Bi left=false):=bN (cR (.inr (.inr (.inr (.inr (.inl ⟨by decide,by rw[Ha.out];exact e0⟩))))));exact QA4
  have Ez:¬(0:Int)<(nn:Int):=A0;have Mi:Hid (name.length=0):=Ha.out.trans e0;clear e0;by_cases em:nm=0;rotate_left
  .
   have Nt:(0:Int)<(nm:Int):=A0;have he:Hid (cY (.mk 4 n mod name ks) d Bi left=false):=bN (cR (.inr (.inr (.inr (.inr (.inr (.inl ⟨by rw[Ms.out];exact em,by decide⟩)))))));exact QA4
  refine M936 ?_;intro Nt Js;clear em;by_cases n0:n=0;rotate_left
  .
   have n0':(n != 0)=true:=by simpa using n0
   have he:Hid (cY (.mk 4 n mod name ks) d Bi left=false):=bN (cR (.inr (.inr (.inl A33))));exact QA4
  have n0':(n != 0)=false:=by simpa using n0
  have Du:Hid (inB n (gD 4) (dM 4)=true):=by show _=_;rw[n0];decide
  clear n0;have HE:Hid (cY (.mk 4 n mod name ks) d Bi left=eC ks (d+1) false m):=by
   show _=_
   rw[eM (jO Gs.out.1 Gs.out.2 Du.out (by rw[show eF 4=false from by decide];exact zB3 Mi.out) A45) (.inl A7) A17 A0,Bt.out];rfl
  have HD:Hid (cU (.mk 4 n mod name ks)=1+aD ks):=by show _=_;simp[cU]
  exact QA7
 .
  refine zK0 (S:=fun wx=>(wx.cell? ⟨g,0,none⟩=some (.int .i64 m)/\wx.cell? ⟨gx,0,none⟩=some (.int .i64 5)/\wx.cell? ⟨gx,1,none⟩=some (.int .i64 n)/\wx.cell? ⟨gx,2,none⟩=some (.slice a2 nm c2)/\wx.cell? ⟨gx,3,none⟩=some (.slice a3 nn c3)/\wx.cell? ⟨gx,4,none⟩=some (.slice a4 ks.length c4))) A2 Ao (fun Aa=>?_);refine M921 ?_;refine M95 ?_;try simp only[nrm]
  refine ra 10 fun K hK=>?_;go_simp;refine M934 ?_;intro w3 hq;go_wp2_with fail;refine hK.out _ _ (Da hq) (fun Aa=>?_);clear hK K;refine M913 ?_;refine M928 ?_;refine zK1 A2 ?_ _;refine M93 ?_;clear x0 Av yy hb HK hq z0 q0 q1 q2 q3 q4 Ao Da y2;intro x0 Av yy hb q0 q1 q2 q3 q4 Dk Dl;by_cases e0:nn=0
  .
   have Aj:aO name false=false:=dB A52;rw[e0]at q3 ⊢;have he:Hid (cY (.mk 5 n mod name ks) d Bi left=false):=bN (cR (.inr (.inr (.inr (.inl ⟨by decide,Aj⟩)))));exact QA4
  have Ez:(0:Int)<(nn:Int):=A0;generalize Ba:aO name false=nb at *;have Ea:Hid (aO name false=nb):=Ba;clear Ba;go_wp2_with fail;refine Dk.mono ?_;rintro e w3 ⟨rfl,rfl⟩;clear Dk;cases nb
  .
   have he:Hid (cY (.mk 5 n mod name ks) d Bi left=false):=bN (cR (.inr (.inr (.inr (.inl ⟨by decide,Ea.out⟩)))));exact QA4
  by_cases em:nm=0;rotate_left
  .
   have Nt:(0:Int)<(nm:Int):=A0;have he:Hid (cY (.mk 5 n mod name ks) d Bi left=false):=bN (cR (.inr (.inr (.inr (.inr (.inr (.inl ⟨by rw[Ms.out];exact em,by decide⟩)))))));exact QA4
  refine M936 ?_;intro Nt Js;clear em;by_cases n0:n=0;rotate_left
  .
   have n0':(n != 0)=true:=by simpa using n0
   have he:Hid (cY (.mk 5 n mod name ks) d Bi left=false):=bN (cR (.inr (.inr (.inl A33))));exact QA4
  have n0':(n != 0)=false:=by simpa using n0
  have Du:Hid (inB n (gD 5) (dM 5)=true):=by show _=_;rw[n0];decide
  clear n0;have HE:Hid (cY (.mk 5 n mod name ks) d Bi left=eC ks (d+1) false m):=by
   show _=_
   rw[eM (jO Gs.out.1 Gs.out.2 Du.out (by rw[show eF 5=true from by decide];exact Ea.out) A45) (.inl A7) A17 A0,Bt.out];rfl
  have HD:Hid (cU (.mk 5 n mod name ks)=1+aD ks):=by show _=_;simp[cU]
  exact QA7
 .
  refine zK0 (S:=fun wx=>(wx.cell? ⟨g,0,none⟩=some (.int .i64 m)/\wx.cell? ⟨gx,0,none⟩=some (.int .i64 6)/\wx.cell? ⟨gx,1,none⟩=some (.int .i64 n)/\wx.cell? ⟨gx,2,none⟩=some (.slice a2 nm c2)/\wx.cell? ⟨gx,3,none⟩=some (.slice a3 nn c3)/\wx.cell? ⟨gx,4,none⟩=some (.slice a4 ks.length c4))) A2 Ao (fun Aa=>?_);refine M921 ?_;refine M95 ?_;try simp only[nrm]
  refine ra 10 fun K hK=>?_;go_simp;refine M934 ?_;intro w3 hq;go_wp2_with fail;refine hK.out _ _ (Da hq) (fun Aa=>?_);clear hK K;refine M913 ?_;refine M928 ?_;refine zK1 A2 ?_ _;refine M93 ?_;clear x0 Av yy hb HK hq z0 q0 q1 q2 q3 q4 Ao Da y2;intro x0 Av yy hb q0 q1 q2 q3 q4 Dk Dl;by_cases e0:nn=0
  .
   have Aj:aO name false=false:=dB A52;rw[e0]at q3 ⊢;have he:Hid (cY (.mk 6 n mod name ks) d Bi left=false):=bN (cR (.inr (.inr (.inr (.inl ⟨by decide,Aj⟩)))));exact QA4
  have Ez:(0:Int)<(nn:Int):=A0;generalize Ba:aO name false=nb at *;have Ea:Hid (aO name false=nb):=Ba;clear Ba;go_wp2_with fail;refine Dk.mono ?_;rintro e w3 ⟨rfl,rfl⟩;clear Dk;cases nb
  .
   have he:Hid (cY (.mk 6 n mod name ks) d Bi left=false):=bN (cR (.inr (.inr (.inr (.inl ⟨by decide,Ea.out⟩)))));exact QA4
  by_cases em:nm=0
  .
   refine M936 ?_;intro Nt Js;clear em;by_cases n0:n=0;rotate_left
   .
    have n0':(n != 0)=true:=by simpa using n0
    have he:Hid (cY (.mk 6 n mod name ks) d Bi left=false):=bN (cR (.inr (.inr (.inl A33))));exact QA4
   have n0':(n != 0)=false:=by simpa using n0
   have Du:Hid (inB n (gD 6) (dM 6)=true):=by show _=_;rw[n0];decide
   clear n0;have HE:Hid (cY (.mk 6 n mod name ks) d Bi left=eC ks (d+1) true m):=by
    show _=_
    rw[eM (jO Gs.out.1 Gs.out.2 Du.out A60 A45) (.inl A7) A17 A0,Bt.out];rfl
   exact QA2
  .
   have Nt:(0:Int)<(nm:Int):=A0;generalize hmb:aO mod true=mb at *;have HMB:Hid (aO mod true=mb):=hmb;clear hmb;go_wp2_with fail;refine Dl.mono ?_;rintro e w3 ⟨rfl,rfl⟩;clear Dl;cases mb
   .
    have he:Hid (cY (.mk 6 n mod name ks) d Bi left=false):=bN (cR (.inr (.inr (.inr (.inr (.inr (.inr ⟨by rw[Ms.out];exact em,HMB.out⟩)))))));exact QA4
   by_cases n0:n=0;rotate_left
   .
    have n0':(n != 0)=true:=by simpa using n0
    have he:Hid (cY (.mk 6 n mod name ks) d Bi left=false):=bN (cR (.inr (.inr (.inl A33))));exact QA4
   have n0':(n != 0)=false:=by simpa using n0
   have Du:Hid (inB n (gD 6) (dM 6)=true):=by show _=_;rw[n0];decide
   clear n0;have HE:Hid (cY (.mk 6 n mod name ks) d Bi left=eC ks (d+1) true m):=by
    show _=_
    rw[eM (jO Gs.out.1 Gs.out.2 Du.out A60 (by rw[HMB.out];simp)) (.inl A7) A17 A0,Bt.out];rfl
   exact QA2
 .
  cases Bi
  .
   have he:Hid (cY (.mk 7 n mod name ks) d false left=false):=aGt;clear Gs;refine zK0 (S:=fun wx=>(wx.cell? ⟨g,0,none⟩=some (.int .i64 m)/\wx.cell? ⟨gx,0,none⟩=some (.int .i64 7)/\wx.cell? ⟨gx,1,none⟩=some (.int .i64 n)/\wx.cell? ⟨gx,2,none⟩=some (.slice a2 nm c2)/\wx.cell? ⟨gx,3,none⟩=some (.slice a3 nn c3)/\wx.cell? ⟨gx,4,none⟩=some (.slice a4 ks.length c4))) A2 Ao (fun Aa=>?_);refine M921 ?_;refine M95 ?_;try simp only[nrm]
   refine ra 10 fun K hK=>?_;go_simp;refine M934 ?_;intro w3 hq;go_wp2_with fail;refine hK.out _ _ (Da hq) (fun Aa=>?_);clear hK K;refine M913 ?_;refine ta 21 ?_;refine ta 22 ?_;try simp only[nrm]
   refine ta 23 ?_;exact QA78
  refine zK0 (S:=fun wx=>(wx.cell? ⟨g,0,none⟩=some (.int .i64 m)/\wx.cell? ⟨gx,0,none⟩=some (.int .i64 7)/\wx.cell? ⟨gx,1,none⟩=some (.int .i64 n)/\wx.cell? ⟨gx,2,none⟩=some (.slice a2 nm c2)/\wx.cell? ⟨gx,3,none⟩=some (.slice a3 nn c3)/\wx.cell? ⟨gx,4,none⟩=some (.slice a4 ks.length c4))) A2 Ao (fun Aa=>?_);refine M921 ?_;refine M95 ?_;try simp only[nrm]
  refine ra 10 fun K hK=>?_;go_simp;refine M934 ?_;intro w3 hq;go_wp2_with fail;refine hK.out _ _ (Da hq) (fun Aa=>?_);clear hK K;refine M913 ?_;try simp only[nrm]
  refine ta 21 ?_;refine ta 22 ?_;try simp only[nrm]
  refine ta 23 ?_;refine ta 24 ?_;try simp only[nrm]
  refine zK1 A2 ?_ _;refine M93 ?_;clear x0 Av yy hb HK hq z0 q0 q1 q2 q3 q4 Ao Da y2;intro x0 Av yy hb q0 q1 q2 q3 q4 Dk Dl;by_cases e0:nn=0
  .
   have Aj:aO name false=false:=dB A52;rw[e0]at q3 ⊢;have he:Hid (cY (.mk 7 n mod name ks) d true left=false):=bN (cR (.inr (.inr (.inr (.inl ⟨by decide,Aj⟩)))));exact QA4
  have Ez:(0:Int)<(nn:Int):=A0;generalize Ba:aO name false=nb at *;have Ea:Hid (aO name false=nb):=Ba;clear Ba;go_wp2_with fail;refine Dk.mono ?_;rintro e w3 ⟨rfl,rfl⟩;clear Dk;cases nb
  .
   have he:Hid (cY (.mk 7 n mod name ks) d true left=false):=bN (cR (.inr (.inr (.inr (.inl ⟨by decide,Ea.out⟩)))));exact QA4
  by_cases em:nm=0;rotate_left
  .
   have Nt:(0:Int)<(nm:Int):=A0;have he:Hid (cY (.mk 7 n mod name ks) d true left=false):=bN (cR (.inr (.inr (.inr (.inr (.inr (.inl ⟨by rw[Ms.out];exact em,by decide⟩)))))));exact QA4
  refine M936 ?_;intro Nt Js;clear em;by_cases n0:n=0;rotate_left
  .
   have n0':(n != 0)=true:=by simpa using n0
   have he:Hid (cY (.mk 7 n mod name ks) d true left=false):=bN (cR (.inr (.inr (.inl A33))));exact QA4
  have n0':(n != 0)=false:=by simpa using n0
  have Du:Hid (inB n (gD 7) (dM 7)=true):=by show _=_;rw[n0];decide
  clear n0;have HE:Hid (cY (.mk 7 n mod name ks) d true left=eC ks (d+1) false m):=by
   show _=_
   rw[eM (jO Gs.out.1 Gs.out.2 Du.out (by rw[show eF 7=true from by decide];exact Ea.out) A45) (.inr rfl) A17 A0,Bt.out];rfl
  have HD:Hid (cU (.mk 7 n mod name ks)=1+aD ks):=by show _=_;simp[cU]
  exact QA7
mutual
theorem aSk:∀x:Ex,aJb x
 | .mk k n m a ks=>aSl k n m a ks (aDa ks)
theorem aDa:∀(l:List Ex),∀x ∈ l,aJb x
 | [],x,h=>by simp at h
 | y :: l,x,h=>by
  rcases zG3.1 h with h|h
  .
   rw[h];exact aSk y
  .
   exact aDa l x h
end
end Go.Proofs.YtcbhdhmhidpdgaaGreat
