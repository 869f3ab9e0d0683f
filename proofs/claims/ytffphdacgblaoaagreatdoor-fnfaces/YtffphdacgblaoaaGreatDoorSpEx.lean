import Derived.Test.YtffphdacgblaoaaGreatDoorPackM
import Derived.Test.YtffphdacgblaoaaGreatDoorPackE
import Derived.Deep.RegionHeld3
namespace Go.Proofs.YtffphdacgblaoaaGreatDoor
open Go.RowKit
set_option linter.unusedVariables false
set_option linter.unusedSimpArgs false
set_option maxRecDepth 100000
theorem Q2{p:Prop}(h:p:=by kernel_rfl):p:=h
theorem Q16{p:Prop}(h:p:=by show(_:Int)<=_;rw[HNX.out];omega):p:=h
theorem Q19{p:Prop}(h:p:=by rw[An];omega):p:=h
theorem Q21{p:Prop}(h:p:=by have:=HMM.out;omega):p:=h
theorem Q27{p:Prop}(h:p:=by have:=hnj.out;omega):p:=h
theorem Q36{p:Prop}(h:p:=by simp[inB,fD,dF];omega):p:=h
theorem Q43{p:Prop}(h:p:=by rw[zB3 HEM.out];rfl):p:=h
theorem Q47{p:Prop}(h:p:=by rw[HNA.out];omega):p:=h
theorem Q64{p:Prop}(h:p:=by rw[show dP 6=true from by decide];exact HNB.out):p:=h
theorem U0{p:Prop}(h:p:=by
 have HD:Hid (iF (.mk 6 n mod name ks)=1+aF ks):=by show _=_;simp[iF]
 have HX0:Hid _:=x0
 have HY:Hid (w.grownBy w3 (some g)):=yy
 have HB3:Hid (Below w0.heap.size w0 w3):=hb
 have HLF:Hid (Lft w3 g (m-(aF (ks.take 0):Int))):=by show Lft _ _ _;simpa [aF] using hL2
 have HRW:Hid (bQ w0 a4 c4 5 (exs ks)):=h4
 have HSK:Hid (aH (exs ks)<=1048576):=hsk
 have HSS:Hid (∀x ∈ ks,aJn x):=S
 have hm0:0<=m:=Q0
 have hm1:m<=250:=by have:=HMM.out;omega
 have hd2:d+1<=17:=Q0
 have hd3:0<=d+1:=Q0
 go_wp2_with fail
 clear q0 q1 q2 q3 q4 x0 yy hb hL2 h4
 go_loopw [10] (fun i wr=>∃j:Nat,j<=ks.length/\i=.int .i64 j/\Hid (w3.grownBy wr (some g))/\Hid (Lft wr g (m-(aF (ks.take j):Int)))/\Hid ((aF (ks.take j):Int)<=m)/\Hid (∀i x,i<j->ks[i]?=some x->dJ x (d+1) true (m-(aF (ks.take i):Int))=true)) (fun i _=>ks.length-(intOf i).toNat)
 case atStart=>exact⟨0,zD1 _,rfl,aR _ _,HLF,by show(_:Int)<=_;simp[aF];omega,by show ∀_ _,_;omega⟩
 case round=>
  obtain⟨j,hj,rfl,Az,hLj,hnj,Av⟩:=hrel
  clear HLF
  have x0:=Blk.grown HX0.out Az.out Al
  have q0:=x0.k 0
  have q4:=x0.k 4
  have hb:=bZ HB3.out Az.out hg
  by_cases Aj:j<ks.length
  .
   obtain⟨b4,o4,rfl⟩:=bQ.addr HRW.out Q19
   obtain⟨x,hx⟩:∃x,ks[j]?=some x:=⟨ks[j],zA0 _⟩
   have Bc:(exs ks)[j]?=some x.fl:=by rw[aQ,zA2,hx];rfl
   obtain⟨us,Ai,Ab⟩:=(bQ.el HRW.out Bc).vals
   obtain⟨u0,u1,u2,u3,u4,rfl⟩:=gP (Ai.len.trans (cF x))
   have hc0:w0.cell? ⟨b4,o4+j*5,none⟩=some u0:=Ab 0 _ rfl
   replace Ab:∀i v,_->_:=fun i v hv=>aC (Ab i v hv) hb
   have t0:wr.cell? ⟨b4,o4+j*5,none⟩=some u0:=Ab 0 _ rfl
   have t1:wr.cell? ⟨b4,o4+j*5+1,none⟩=some u1:=Ab 1 _ rfl
   have t2:wr.cell? ⟨b4,o4+j*5+2,none⟩=some u2:=Ab 2 _ rfl
   have t3:wr.cell? ⟨b4,o4+j*5+3,none⟩=some u3:=Ab 3 _ rfl
   have t4:wr.cell? ⟨b4,o4+j*5+4,none⟩=some u4:=Ab 4 _ rfl
   have hmem:=zA3 hx
   have hsx:aL x.fl<=1048576:=zF2 (aX (zA3 Bc)) HSK.out
   have hbd:Below w0.heap.size w0 wr.drew:=hb.drew
   have hLd:Lft wr.drew g (m-(aF (ks.take j):Int)):=hLj.out
   have HC:=HSS.out x hmem w0 wr.drew [u0,u1,u2,u3,u4] g (m-(aF (ks.take j):Int)) (d+1) true Ai hbd hg hLd Q27 Q0 hd3 hd2 hsx
   simp only[agg]at HC
   have HJ:Hid (ks[j]?=some x):=hx
   have HNX:Hid (aF (ks.take (j+1))=aF (ks.take j)+iF x):=dA hx
   clear Ab hx Bc hmem hsx Ai hbd hLd
   generalize hsp:dJ x (d+1) true (m-(aF (ks.take j):Int))=rr at *
   have HSP:Hid (dJ x (d+1) true (m-(aF (ks.take j):Int))=rr):=hsp
   clear hsp
   have hb4:b4 ≠ g:=by
    have:=zI3 w0 _ hc0
    simp only at this
    omega
   have Ba:(wr.drew.cell? ⟨gx,0,none⟩=some (.int .i64 6)/\wr.drew.cell? ⟨gx,4,none⟩=some (.slice (some ⟨b4,o4,none⟩) ks.length c4)/\wr.drew.cell? ⟨b4,o4+j*5,none⟩=some u0/\wr.drew.cell? ⟨b4,o4+j*5+1,none⟩=some u1/\wr.drew.cell? ⟨b4,o4+j*5+2,none⟩=some u2/\wr.drew.cell? ⟨b4,o4+j*5+3,none⟩=some u3/\wr.drew.cell? ⟨b4,o4+j*5+4,none⟩=some u4):=⟨q0,q4,t0,t1,t2,t3,t4⟩
   have hbs:∀{wl:World},wr.drew.grownBy wl (some g)->(wl.cell? ⟨gx,0,none⟩=some (.int .i64 6)/\wl.cell? ⟨gx,4,none⟩=some (.slice (some ⟨b4,o4,none⟩) ks.length c4)/\wl.cell? ⟨b4,o4+j*5,none⟩=some u0/\wl.cell? ⟨b4,o4+j*5+1,none⟩=some u1/\wl.cell? ⟨b4,o4+j*5+2,none⟩=some u2/\wl.cell? ⟨b4,o4+j*5+3,none⟩=some u3/\wl.cell? ⟨b4,o4+j*5+4,none⟩=some u4):=fun hq=>⟨cM Ba.1 hq Al,cM Ba.2.1 hq Al,cM Ba.2.2.1 hq hb4,cM Ba.2.2.2.1 hq hb4,cM Ba.2.2.2.2.1 hq hb4,cM Ba.2.2.2.2.2.1 hq hb4,cM Ba.2.2.2.2.2.2 hq hb4⟩
   have z5:(0:Int)<=(j:Int):=Q0
   have z7:IntKind.i64.wrap (d+1)=d+1:=by rw[IntKind.wrap_i64];omega
   have z6:(j:Int)<(ks.length:Int):=Q0
   go_upto_region 21 with fail
   go_region_held3 (fun wx=>(wx.cell? ⟨gx,0,none⟩=some (.int .i64 6)/\wx.cell? ⟨gx,4,none⟩=some (.slice (some ⟨b4,o4,none⟩) ks.length c4)/\wx.cell? ⟨b4,o4+j*5,none⟩=some u0/\wx.cell? ⟨b4,o4+j*5+1,none⟩=some u1/\wx.cell? ⟨b4,o4+j*5+2,none⟩=some u2/\wx.cell? ⟨b4,o4+j*5+3,none⟩=some u3/\wx.cell? ⟨b4,o4+j*5+4,none⟩=some u4)) (first|exact Ba|exact HSl) (first
    | (go_at_call 117;(with_reducible refine HC.mono ?_);rintro e w4 ⟨rfl,Bd,hL4⟩;have HSl:=hbs Bd))
   clear HSl hbs Ba
   have HG4:Hid (w3.grownBy w4 (some g)):=aD Az.out (aD (show wr.grownBy wr.drew (some g) from⟨rfl,rfl,rfl,zB0 _,fun _ _ _=>rfl⟩) Bd)
   have HL4:Hid (rr=true->Lft w4 g (m-(aF (ks.take j):Int)-(iF x:Int))):=hL4
   clear HC t0 t1 t2 t3 t4 q0 q4 x0 hb Bd hL4
   cases rr
   .
    have he:Hid (dJ (.mk 6 n mod name ks) d arg left=false):=by show _=_;rw[HE.out];exact fV HJ.out HSP.out
    have hyy:=aD HY.out HG4.out
    go_wp2
    go_ret
    rw[he.out]
    exact⟨rfl,hyy,by simp⟩
   .
    have hle:=iE HSP.out
    have HL5:Hid (Lft w4 g (m-(aF (ks.take (j+1)):Int))):=by
     have:=HL4.out rfl
     rw[show m-(aF (ks.take j):Int)-(iF x:Int)=m-(aF (ks.take (j+1)):Int) by rw[HNX.out];omega]at this
     exact this
    go_wp2
    go_roundw
    case rel=>exact⟨j+1,by omega,by go_num,HG4,HL5,Q16,(show ∀i x,i<j+1->_ from fun i y hi hy=>(zJ3 i j).elim (fun h=>Av.out i y h hy) (fun h=>by
     obtain rfl:i=j:=Q0
     rw[HJ.out]at hy
     cases hy
     exact HSP.out))⟩
    case measure=>simp[intOf];omega
  .
   have:j=ks.length:=Q0
   subst this
   have he:Hid (dJ (.mk 6 n mod name ks) d arg left=true):=by
    show _=_
    rw[HE.out]
    exact dZ (fun i y hy=>Av.out i y (zC1.1 hy).1 hy) hm0
   have hyy:=aD HY.out Az.out
   have hLf:=hLj.out
   rw[List.take_length]at hLf
   go_wp2
   go_ret
   rw[he.out]
   exact⟨rfl,hyy,fun _=>by rw[HD.out,show left-((1+aF ks:Nat):Int)=m-(aF ks:Int) by have:=HMM.out;omega];exact hLf⟩):p:=h
theorem U1{p:Prop}(h:p:=by
 have hle:=iE HSP.out
 have HL5:Hid (Lft w4 g (m-(aF (ks.take (j+1)):Int))):=by
  have:=HL4.out rfl
  rw[show m-(aF (ks.take j):Int)-(iF x:Int)=m-(aF (ks.take (j+1)):Int) by rw[HNX.out];omega]at this
  exact this
 go_wp2
 go_roundw
 case rel=>exact⟨j+1,by omega,by go_num,HG4,HL5,Q16,(show ∀i x,i<j+1->_ from fun i y hi hy=>(zJ3 i j).elim (fun h=>Av.out i y h hy) (fun h=>by
  obtain rfl:i=j:=Q0
  rw[HJ.out]at hy
  cases hy
  exact HSP.out))⟩
 case measure=>simp[intOf];omega):p:=h
theorem U110{p:Prop}(h:p:=by
 have hz:ks.length=0:=aTn HI4.out.2 Q5
 have hks:ks=[]:=zE0 hz
 have HT:Hid (eY ks (d+1) false m=true):=by show _=_;rw[hks];exact kL Q0
 have HD0:Hid (aF ks=0):=by show _=_;rw[hks];rfl
 subst hks
 simp only[zC3]at q4 ⊢
 clear hz x0 An hk9
 go_wp2_with fail
 refine zH1 1 ?_
 rw[zE2]
 go_wp2
 go_ret
 rw[HE.out,HT.out]
 exact⟨rfl,yy,fun _=>by rw[HD.out,HD0.out,show left-((1+0:Nat):Int)=m by have:=HMM.out;omega];exact hL2⟩):p:=h
theorem U9{p:Prop}(h:p:=by
 go_wp2
 go_ret
 rw[he.out]
 exact⟨rfl,hyy,by simp⟩):p:=h
theorem U12{p:Prop}(h:p:=by
 have hyy:=aD HY.out Az.out
 have hLf:=hLj.out
 rw[List.take_length]at hLf
 go_wp2
 go_ret
 rw[he.out]
 exact⟨rfl,hyy,fun _=>by rw[HD.out,show left-((1+aF ks:Nat):Int)=m-(aF ks:Int) by have:=HMM.out;omega];exact hLf⟩):p:=h
theorem U14{p:Prop}(h:p:=by
 refine ta 7 ?_
 refine ta 8 ?_
 try simp only[nrm]
 refine sa 9 ?_
 refine sa 10 ?_
 refine sa 11 ?_
 try simp only[nrm]
 refine sa 12 ?_
 refine sa 13 ?_
 refine sa 14 ?_
 try simp only[nrm]
 refine ta 15 ?_
 refine ta 16 ?_
 try simp only[nrm]
 refine sa 17 ?_
 refine sa 18 ?_
 refine sa 19 ?_
 try simp only[nrm]
 refine sa 20 ?_
 refine sa 21 ?_
 refine sa 22 ?_
 try simp only[nrm]
 refine sa 23 ?_
 try simp only[nrm]
 refine ta 24 ?_
 try simp only[nrm]
 refine zK2 Q2 ?_ _
 go_wp2
 go_ret
 rw[he.out]
 exact⟨rfl,aD yy (bU y2 _),by simp⟩):p:=h
theorem U67{p:Prop}(h:p:=by
 refine ta 24 ?_
 try simp only[nrm]
 refine zK2 Q2 ?_ _
 go_wp2
 go_ret
 rw[he.out]
 exact⟨rfl,aD yy (bU (aD y2 hq) _),by simp⟩):p:=h
theorem M98{p q:Prop}(k:q)(h:Kx q->p:=by
 intro kQ
 have hq3:=aD y2 hq
 replace x0:=x0.below (aA hq3) x0.lt
 replace hL2:Lft w3 g m:=Blk.below hL2 (aA hq3) (Blk.lt hL2)
 replace yy:=aD yy (bU hq3 _)
 replace hb:=hb.trans ((aA hq3).mono hb.size)
 clear hq3
 obtain⟨q0,q1,q2,q3,q4⟩:=x0.c5
 have hn3:=bH a3 nn c3 name false w3 (h3.below hb) Q0
 have hn2:=bH a2 nm c2 mod true w3 (h2.below hb) Q0
 revert hn2;revert hn3;revert q4;revert q3;revert q2;revert q1;revert q0;revert hb;revert yy;revert hL2;revert x0
 exact kQ.o):p:=h ⟨k⟩
theorem M912{p q:Prop}(k:q)(h:Kx q->p:=by
 intro kQ
 try simp only[nrm]
 refine ta 3 ?_
 refine ta 4 ?_
 refine ta 5 ?_
 try simp only[nrm]
 refine ta 6 ?_
 refine ta 7 ?_
 refine ta 8 ?_
 try simp only[nrm]
 refine ta 9 ?_
 refine ta 11 ?_
 refine ta 12 ?_
 try simp only[nrm]
 refine ta 13 ?_
 exact kQ.o):p:=h ⟨k⟩
theorem M915{p q:Prop}(k:q)(h:Kx q->p:=by
 intro kQ
 try simp only[nrm]
 refine ta 14 ?_
 refine ta 15 ?_
 refine ta 16 ?_
 try simp only[nrm]
 refine ta 17 ?_
 refine ta 18 ?_
 refine ta 19 ?_
 try simp only[nrm]
 refine ta 20 ?_
 try simp only[nrm]
 refine sa 21 ?_
 refine sa 22 ?_
 try simp only[nrm]
 exact kQ.o):p:=h ⟨k⟩
theorem M916{p q:Prop}(k:q)(h:Kx q->p:=by
 intro kQ
 try simp only[nrm]
 refine ta 14 ?_
 refine ta 15 ?_
 refine ta 16 ?_
 try simp only[nrm]
 refine ta 17 ?_
 refine ta 18 ?_
 refine ta 19 ?_
 try simp only[nrm]
 refine ta 20 ?_
 exact kQ.o):p:=h ⟨k⟩
theorem M932{p q:Prop}(k:q)(h:Kx q->p:=by
 intro kQ
 replace Ab:∀i v,_->_:=fun i v hv=>aC (Ab i v hv) hb
 have t0:wr.cell? ⟨b4,o4+j*5,none⟩=some u0:=Ab 0 _ rfl
 have t1:wr.cell? ⟨b4,o4+j*5+1,none⟩=some u1:=Ab 1 _ rfl
 have t2:wr.cell? ⟨b4,o4+j*5+2,none⟩=some u2:=Ab 2 _ rfl
 have t3:wr.cell? ⟨b4,o4+j*5+3,none⟩=some u3:=Ab 3 _ rfl
 have t4:wr.cell? ⟨b4,o4+j*5+4,none⟩=some u4:=Ab 4 _ rfl
 have hmem:=zA3 hx
 have hsx:aL x.fl<=1048576:=zF2 (aX (zA3 Bc)) HSK.out
 have hbd:Below w0.heap.size w0 wr.drew:=hb.drew
 have hLd:Lft wr.drew g (m-(aF (ks.take j):Int)):=hLj.out
 have HC:=HSS.out x hmem w0 wr.drew [u0,u1,u2,u3,u4] g (m-(aF (ks.take j):Int)) (d+1) false Ai hbd hg hLd Q27 Q0 hd3 hd2 hsx
 simp only[agg]at HC
 have HJ:Hid (ks[j]?=some x):=hx
 have HNX:Hid (aF (ks.take (j+1))=aF (ks.take j)+iF x):=dA hx
 revert HNX;revert HJ;revert HC;revert hLd;revert hbd;revert hsx;revert hmem;revert t4;revert t3;revert t2;revert t1;revert t0;revert Ab
 exact kQ.o):p:=h ⟨k⟩
theorem M944{p q:Prop}(k:q)(h:Kx q->p:=by
 intro kQ
 have em':¬(0:Int)<(nm:Int):=Q0
 have HEM:Hid (mod.length=0):=HMO.out.trans em
 revert HEM;revert em'
 exact kQ.o):p:=h ⟨k⟩
theorem M946{p q:Prop}(k:q)(h:Kx q->p:=by
 intro kQ
 (with_reducible refine HK.mono ?_)
 rintro e w3 ⟨rfl,hq⟩
 revert hq;revert w3
 exact kQ.o):p:=h ⟨k⟩
theorem M957{p q:Prop}(k:q)(h:Kx q->p:=by
 intro kQ
 have HX0:Hid _:=x0
 have HY:Hid (w.grownBy w3 (some g)):=yy
 have HB3:Hid (Below w0.heap.size w0 w3):=hb
 have HLF:Hid (Lft w3 g (m-(aF (ks.take 0):Int))):=by show Lft _ _ _;simpa [aF] using hL2
 have HRW:Hid (bQ w0 a4 c4 5 (exs ks)):=h4
 have HSK:Hid (aH (exs ks)<=1048576):=hsk
 have HSS:Hid (∀x ∈ ks,aJn x):=S
 have hm0:0<=m:=Q0
 have hm1:m<=250:=by have:=HMM.out;omega
 have hd2:d+1<=17:=Q0
 have hd3:0<=d+1:=Q0
 revert hd3;revert hd2;revert hm1;revert hm0;revert HSS;revert HSK;revert HRW;revert HLF;revert HB3;revert HY;revert HX0
 exact kQ.o):p:=h ⟨k⟩
theorem M987{p q:Prop}(k:q)(h:Kx q->p:=by
 intro kQ
 have HG4:Hid (w3.grownBy w4 (some g)):=aD Az.out (aD (show wr.grownBy wr.drew (some g) from⟨rfl,rfl,rfl,zB0 _,fun _ _ _=>rfl⟩) Bd)
 have HL4:Hid (rr=true->Lft w4 g (m-(aF (ks.take j):Int)-(iF x:Int))):=hL4
 revert HL4;revert HG4
 exact kQ.o):p:=h ⟨k⟩
def Lft (w:World)(g:Nat)(n:Int):Prop:=Blk w g 3 [.int .i64 n]
def aJn (x:Ex):Prop:=∀(w0 w:World) (vs:List Value) (g:Nat) (left d:Int) (arg:Bool),cC w0 x.fl vs->Below w0.heap.size w0 w->w0.heap.size<=g->Lft w g left->0<=left->left<=250->0<=d->d<=17->aL x.fl<=1048576 →
 Calls Tryz.prog 117 #[agg vs,.int .i64 d,.bool arg,.pointer (some ⟨g,0,none⟩)] w fun e w'=>e=.returned (.bool (dJ x d arg left))/\w.grownBy w' (some g)/\(dJ x d arg left=true->Lft w' g (left-(iF x:Int)))
theorem aKv {n:Int}:(n == wrap64 (wrap32 n))=inB n (-2147483648) 2147483647:=by
 rw[Bool.eq_iff_iff];simp only[beq_iff_eq,inB,zC0,zE3,wrap64,wrap32]
 omega
theorem gP {α:Type}{l:List α}(h:l.length=5):∃a b c d e,l=[a,b,c,d,e]:=by
 match l,h with
 | [a,b,c,d,e],_=>exact⟨a,b,c,d,e,rfl⟩
theorem aD0 (n:Int)(w:World):
  Calls Tryz.prog 139 #[.int .i64 n] w fun e w'=>e=.returned (.int .i64 (wrap64 (wrap32 n)))/\w'=w:=by
 go_enter Tryz.func139,Tryz.ntmps139;exact U45
set_option maxHeartbeats 40000000 in
theorem aQh (k n:Int)(mod name:List Int)(ks:List Ex)(S:∀x ∈ ks,aJn x):aJn (.mk k n mod name ks):=by
 intro w0 w vs g left d arg hr hb hg hL hl0 hl1 hd0 hd1 hs;unfold Ex.fl at hr
 have hs':mod.length<=1048576/\name.length<=1048576:=by simp only[Ex.fl,aL,Fl.len]at hs;omega
 have hsk:aH (exs ks)<=1048576:=by simp only[Ex.fl,aL,Fl.len]at hs;omega
 clear hs;obtain⟨y0,_,rfl,rfl,y1,_,rfl,rfl,y2,_,rfl,⟨a2,c2,rfl,h2,hc2,_⟩,y3,_,rfl,⟨a3,c3,rfl,h3,hc3,_⟩,y4,_,rfl,Be,rfl⟩:=hr;obtain⟨a4,c4,rfl,h4⟩:=Be.list;clear Be
 have An:(exs ks).length=ks.length:=by simp[aQ]
 have hk9:ks.length<=9223372036854775807:=by have h5:=h4.cap;have h6:=h4.most;unfold maxLen at h6;omega
 rw[An];simp only[agg]
 obtain⟨nn,hnn⟩:∃z,z=name.length:=⟨_,rfl⟩
 obtain⟨nm,hnm⟩:∃z,z=mod.length:=⟨_,rfl⟩
 rw[<-hnn]at h3 hs' hc3 ⊢;rw[<-hnm]at h2 hs' hc2 ⊢
 have HNA:Hid (name.length=nn):=hnn.symm
 have HMO:Hid (mod.length=nm):=hnm.symm
 clear hnn hnm;have hgl:g<w.heap.size:=Blk.lt hL
 have Al:w.heap.size ≠ g:=Q0
 have yy:=aB w (.cells #[.int .i64 k,.int .i64 n,.slice a2 nm c2,.slice a3 nn c3,.slice a4 ks.length c4] 119 (0,0)) (some g);have x0:=Blk.new w 119 [.int .i64 k,.int .i64 n,.slice a2 nm c2,.slice a3 nn c3,.slice a4 ks.length c4]
 have hL1:Lft _ g left:=Blk.old hL (o:=.cells #[.int .i64 k,.int .i64 n,.slice a2 nm c2,.slice a3 nn c3,.slice a4 ks.length c4] 119 (0,0))
 replace hb:Below w0.heap.size w0 (w.alloc (.cells #[.int .i64 k,.int .i64 n,.slice a2 nm c2,.slice a3 nn c3,.slice a4 ks.length c4] 119 (0,0))):=hb.alloc hb.size _
 clear hL;go_enter Tryz.func117,Tryz.ntmps117;go_upto_region 1 with fail;generalize w.alloc (.cells #[.int .i64 k,.int .i64 n,.slice a2 nm c2,.slice a3 nn c3,.slice a4 ks.length c4] 119 (0,0))=w1 at *;have z0:=hL1.k 0;have z1:=hL1.free 0;go_upto_region 2 with fail
 have hL2:Lft _ g (left-1):=Blk.set hL1 (i:=0) (.int .i64 (left-1))
 have hq:w1.grownBy (w1.setCell ⟨g,0,none⟩ (.int .i64 (left-1))) (some g):=mW
 replace x0:=x0.grown hq Al;replace yy:=aD yy hq;replace hb:=bZ hb hq hg;generalize w1.setCell ⟨g,0,none⟩ (.int .i64 (left-1))=w2 at *;generalize w.heap.size=gx at *;clear z0 z1 hL1 hq hgl
 obtain⟨m,hm⟩:∃m,m=left-1:=⟨_,rfl⟩
 rw[<-hm]at hL2;have z0:=hL2.k 0;obtain⟨q0,q1,q2,q3,q4⟩:=x0.c5
 have HMM:Hid (m=left-1):=hm
 have Ba:(w2.drew.cell? ⟨g,0,none⟩=some (.int .i64 m)/\w2.drew.cell? ⟨gx,0,none⟩=some (.int .i64 k)/\w2.drew.cell? ⟨gx,1,none⟩=some (.int .i64 n)/\w2.drew.cell? ⟨gx,2,none⟩=some (.slice a2 nm c2)/\w2.drew.cell? ⟨gx,3,none⟩=some (.slice a3 nn c3)/\w2.drew.cell? ⟨gx,4,none⟩=some (.slice a4 ks.length c4)):=⟨z0,q0,q1,q2,q3,q4⟩
 have hbs:∀{wl:World},w2.drew.grownBy wl none->(wl.cell? ⟨g,0,none⟩=some (.int .i64 m)/\wl.cell? ⟨gx,0,none⟩=some (.int .i64 k)/\wl.cell? ⟨gx,1,none⟩=some (.int .i64 n)/\wl.cell? ⟨gx,2,none⟩=some (.slice a2 nm c2)/\wl.cell? ⟨gx,3,none⟩=some (.slice a3 nn c3)/\wl.cell? ⟨gx,4,none⟩=some (.slice a4 ks.length c4)):=by
  intro wl hq
  have hb:Below w2.drew.heap.size w2.drew wl:=aA hq
  exact⟨aC Ba.1 hb,aC Ba.2.1 hb,aC Ba.2.2.1 hb,aC Ba.2.2.2.1 hb,aC Ba.2.2.2.2.1 hb,aC Ba.2.2.2.2.2 hb⟩
 have HK:=aL1 k n (.slice a2 nm c2) (.slice a3 nn c3) a4 ks.length c4 w2.drew hk9
 have y2:w2.grownBy w2.drew none:=⟨rfl,rfl,rfl,zB0 _,fun _ _ _=>rfl⟩
 by_cases r1:m<0
 .
  have he:Hid (dJ (.mk k n mod name ks) d arg left=false):=uE (.inl Q0)
  clear HK hbs hm
  refine zK1 (S:=fun wx=>(wx.cell? ⟨g,0,none⟩=some (.int .i64 m)/\wx.cell? ⟨gx,0,none⟩=some (.int .i64 k)/\wx.cell? ⟨gx,1,none⟩=some (.int .i64 n)/\wx.cell? ⟨gx,2,none⟩=some (.slice a2 nm c2)/\wx.cell? ⟨gx,3,none⟩=some (.slice a3 nn c3)/\wx.cell? ⟨gx,4,none⟩=some (.slice a4 ks.length c4))) Q2 Ba (fun Aa=>?_)
  refine ta 0 ?_;refine ta 1 ?_;refine ta 2 ?_;try simp only[nrm]
  refine ta 3 ?_;refine ta 4 ?_;try simp only[nrm]
  refine sa 5 ?_;refine sa 6 ?_;try simp only[nrm]
  exact U14
 by_cases r2:16<d
 .
  have he:Hid (dJ (.mk k n mod name ks) d arg left=false):=uE (.inr r2)
  clear HK hbs hm
  refine zK1 (S:=fun wx=>(wx.cell? ⟨g,0,none⟩=some (.int .i64 m)/\wx.cell? ⟨gx,0,none⟩=some (.int .i64 k)/\wx.cell? ⟨gx,1,none⟩=some (.int .i64 n)/\wx.cell? ⟨gx,2,none⟩=some (.slice a2 nm c2)/\wx.cell? ⟨gx,3,none⟩=some (.slice a3 nn c3)/\wx.cell? ⟨gx,4,none⟩=some (.slice a4 ks.length c4))) Q2 Ba (fun Aa=>?_)
  refine ta 0 ?_;refine ta 1 ?_;refine ta 2 ?_;try simp only[nrm]
  refine ta 3 ?_;refine ta 4 ?_;refine ta 5 ?_;try simp only[nrm]
  refine ta 6 ?_;exact U14
 by_cases r3:gG k ks.length=ks.length
 rotate_left
 .
  have hI:=fun h=>r3 ((uF k ks.length).2 h)
  have r3':(gG k ks.length != (ks.length:Int))=true:=by simpa using r3
  have hloc:iW k n mod name ks.length=false:=by
   cases i1:inB k 0 7
   .
    exact dH (.inl i1)
   .
    refine dH (.inr (.inl ?_))
    cases i2:inB (ks.length:Int) (dM k) (fJ k)
    .
     rfl
    .
     exact absurd ⟨i1,by simp[inB]at i2;omega,by simp[inB]at i2;omega⟩ hI
  have he:Hid (dJ (.mk k n mod name ks) d arg left=false):=cD hloc
  clear hI hloc hm r3;generalize gG k ks.length=sk at *
  refine zK1 (S:=fun wx=>(wx.cell? ⟨g,0,none⟩=some (.int .i64 m)/\wx.cell? ⟨gx,0,none⟩=some (.int .i64 k)/\wx.cell? ⟨gx,1,none⟩=some (.int .i64 n)/\wx.cell? ⟨gx,2,none⟩=some (.slice a2 nm c2)/\wx.cell? ⟨gx,3,none⟩=some (.slice a3 nn c3)/\wx.cell? ⟨gx,4,none⟩=some (.slice a4 ks.length c4))) Q2 Ba (fun Aa=>?_)
  refine ta 0 ?_;refine ta 1 ?_;refine ta 2 ?_;refine M912 ?_;try simp only[nrm]
  refine ra 10 fun K hK=>?_
  go_simp;refine M946 ?_;intro w3 hq;go_wp2_with fail
  refine hK.out _ _ (hbs hq) (fun Aa=>?_)
  clear hK K;try simp only[nrm]
  refine ta 14 ?_;refine ta 15 ?_;refine ta 16 ?_;try simp only[nrm]
  refine sa 17 ?_;refine sa 18 ?_;refine sa 19 ?_;try simp only[nrm]
  refine sa 20 ?_;refine sa 21 ?_;refine sa 22 ?_;try simp only[nrm]
  refine sa 23 ?_;try simp only[nrm]
  exact U67
 obtain⟨i1,i2,i3⟩:=(uF k ks.length).1 r3
 have HI4:Hid (inB k 0 7=true/\inB (ks.length:Int) (dM k) (fJ k)=true):=⟨i1,by simp[inB];omega⟩
 rw[r3]at HK
 have h8:k=0\/k=1\/k=2\/k=3\/k=4\/k=5\/k=6\/k=7:=by simp[inB]at i1;omega
 clear r3 i1 i2 i3 hm
 rcases h8 with rfl|rfl|rfl|rfl|rfl|rfl|rfl|rfl
 .
  refine zK1 (S:=fun wx=>(wx.cell? ⟨g,0,none⟩=some (.int .i64 m)/\wx.cell? ⟨gx,0,none⟩=some (.int .i64 0)/\wx.cell? ⟨gx,1,none⟩=some (.int .i64 n)/\wx.cell? ⟨gx,2,none⟩=some (.slice a2 nm c2)/\wx.cell? ⟨gx,3,none⟩=some (.slice a3 nn c3)/\wx.cell? ⟨gx,4,none⟩=some (.slice a4 ks.length c4))) Q2 Ba (fun Aa=>?_)
  refine ta 0 ?_;refine ta 1 ?_;refine ta 2 ?_;refine M912 ?_;try simp only[nrm]
  refine ra 10 fun K hK=>?_
  go_simp;refine M946 ?_;intro w3 hq;go_wp2_with fail
  refine hK.out _ _ (hbs hq) (fun Aa=>?_)
  clear hK K;refine M915 ?_;refine ta 23 ?_;refine ta 24 ?_;try simp only[nrm]
  refine zK2 Q2 ?_ _;refine M98 ?_;clear x0 hL2 yy hb HK hq z0 q0 q1 q2 q3 q4 Ba hbs y2;intro x0 hL2 yy hb q0 q1 q2 q3 q4 hn3 hn2
  by_cases e0:nn=0
  rotate_left
  .
   have e0':(0:Int)<(nn:Int):=Q0
   have he:Hid (dJ (.mk 0 n mod name ks) d arg left=false):=cD (dH (.inr (.inr (.inr (.inr (.inl ⟨by decide,by rw[HNA.out];exact e0⟩))))))
   exact U2
  have e0':¬(0:Int)<(nn:Int):=Q0
  have HE0:Hid (name.length=0):=HNA.out.trans e0
  clear e0
  by_cases em:nm=0
  rotate_left
  .
   have em':(0:Int)<(nm:Int):=Q0
   have he:Hid (dJ (.mk 0 n mod name ks) d arg left=false):=cD (dH (.inr (.inr (.inr (.inr (.inr (.inl ⟨by rw[HMO.out];exact em,by decide⟩)))))))
   exact U2
  refine M944 ?_;intro em' HEM;clear em
  have hwf:(n != wrap64 (wrap32 n)) = !(inB n (-2147483648) 2147483647):=by rw[<-aKv];rfl
  have HW:=aD0 n w3.drew;generalize wrap64 (wrap32 n)=wn at *;generalize hnn:inB n (-2147483648) 2147483647=nnb at *
  have HNN:Hid (inB n (fD 0) (dF 0)=nnb):=hnn
  clear hnn;go_upto_region 13 with fail
  have q1d:w3.drew.cell? ⟨gx,1,none⟩=some (.int .i64 n):=q1
  go_region_held3 (fun wx=>wx.cell? ⟨gx,1,none⟩=some (.int .i64 n)) (first|exact q1d) (first
   | (go_at_call 139;(with_reducible refine HW.mono ?_);rintro e w4 ⟨rfl,rfl⟩))
  have y3:w3.grownBy w3.drew none:=⟨rfl,rfl,rfl,zB0 _,fun _ _ _=>rfl⟩
  replace x0:Blk w3.drew gx 119 _:=x0
  replace hL2:Lft w3.drew g m:=hL2
  replace yy:=aD yy (bU y3 _);replace hb:=hb.drew;clear HW q0 q1 q2 q3 q4 q1d y3 hn2 hn3;generalize w3.drew=w4 at *;obtain⟨q0,q1,q2,q3,q4⟩:=x0.c5;cases nnb
  .
   have he:Hid (dJ (.mk 0 n mod name ks) d arg left=false):=cD (dH (.inr (.inr (.inl HNN.out))))
   exact U2
  have HE:Hid (dJ (.mk 0 n mod name ks) d arg left=eY ks (d+1) false m):=by
   show _=_
   rw[gA (jX HI4.out.1 HI4.out.2 HNN.out (by rw[show dP 0=false from by decide];exact zB3 HE0.out) Q43) (.inl Q5) Q21 Q0,HMM.out]
   rfl
  have HD:Hid (iF (.mk 0 n mod name ks)=1+aF ks):=by show _=_;simp[iF]
  exact U110
 .
  refine zK1 (S:=fun wx=>(wx.cell? ⟨g,0,none⟩=some (.int .i64 m)/\wx.cell? ⟨gx,0,none⟩=some (.int .i64 1)/\wx.cell? ⟨gx,1,none⟩=some (.int .i64 n)/\wx.cell? ⟨gx,2,none⟩=some (.slice a2 nm c2)/\wx.cell? ⟨gx,3,none⟩=some (.slice a3 nn c3)/\wx.cell? ⟨gx,4,none⟩=some (.slice a4 ks.length c4))) Q2 Ba (fun Aa=>?_)
  refine ta 0 ?_;refine ta 1 ?_;refine ta 2 ?_;refine M912 ?_;try simp only[nrm]
  refine ra 10 fun K hK=>?_
  go_simp;refine M946 ?_;intro w3 hq;go_wp2_with fail
  refine hK.out _ _ (hbs hq) (fun Aa=>?_)
  clear hK K;refine M915 ?_;refine ta 23 ?_;refine ta 24 ?_;try simp only[nrm]
  refine zK2 Q2 ?_ _;refine M98 ?_;clear x0 hL2 yy hb HK hq z0 q0 q1 q2 q3 q4 Ba hbs y2;intro x0 hL2 yy hb q0 q1 q2 q3 q4 hn3 hn2
  by_cases e0:nn=0
  .
   have hno:aK name false=false:=dI Q47
   rw[e0]at q3 ⊢
   have he:Hid (dJ (.mk 1 n mod name ks) d arg left=false):=cD (dH (.inr (.inr (.inr (.inl ⟨by decide,hno⟩)))))
   exact U2
  have e0':(0:Int)<(nn:Int):=Q0;generalize hnb:aK name false=nb at *
  have HNB:Hid (aK name false=nb):=hnb
  clear hnb;go_wp2_with fail;refine hn3.mono ?_;rintro e w3 ⟨rfl,rfl⟩;clear hn3;cases nb
  .
   have he:Hid (dJ (.mk 1 n mod name ks) d arg left=false):=cD (dH (.inr (.inr (.inr (.inl ⟨by decide,HNB.out⟩)))))
   exact U2
  by_cases em:nm=0
  rotate_left
  .
   have em':(0:Int)<(nm:Int):=Q0
   have he:Hid (dJ (.mk 1 n mod name ks) d arg left=false):=cD (dH (.inr (.inr (.inr (.inr (.inr (.inl ⟨by rw[HMO.out];exact em,by decide⟩)))))))
   exact U2
  refine M944 ?_;intro em' HEM;clear em
  by_cases n0:n=0
  rotate_left
  .
   have n0':(n != 0)=true:=by simpa using n0
   have he:Hid (dJ (.mk 1 n mod name ks) d arg left=false):=cD (dH (.inr (.inr (.inl Q36))))
   exact U2
  have n0':(n != 0)=false:=by simpa using n0
  have HNN:Hid (inB n (fD 1) (dF 1)=true):=by show _=_;rw[n0];decide
  clear n0
  have HE:Hid (dJ (.mk 1 n mod name ks) d arg left=eY ks (d+1) false m):=by
   show _=_
   rw[gA (jX HI4.out.1 HI4.out.2 HNN.out (by rw[show dP 1=true from by decide];exact HNB.out) Q43) (.inl Q5) Q21 Q0,HMM.out]
   rfl
  have HD:Hid (iF (.mk 1 n mod name ks)=1+aF ks):=by show _=_;simp[iF]
  exact U110
 .
  refine zK1 (S:=fun wx=>(wx.cell? ⟨g,0,none⟩=some (.int .i64 m)/\wx.cell? ⟨gx,0,none⟩=some (.int .i64 2)/\wx.cell? ⟨gx,1,none⟩=some (.int .i64 n)/\wx.cell? ⟨gx,2,none⟩=some (.slice a2 nm c2)/\wx.cell? ⟨gx,3,none⟩=some (.slice a3 nn c3)/\wx.cell? ⟨gx,4,none⟩=some (.slice a4 ks.length c4))) Q2 Ba (fun Aa=>?_)
  refine ta 0 ?_;refine ta 1 ?_;refine ta 2 ?_;refine M912 ?_;try simp only[nrm]
  refine ra 10 fun K hK=>?_
  go_simp;refine M946 ?_;intro w3 hq;go_wp2_with fail
  refine hK.out _ _ (hbs hq) (fun Aa=>?_)
  clear hK K;refine M915 ?_;refine ta 23 ?_;refine ta 24 ?_;try simp only[nrm]
  refine zK2 Q2 ?_ _;refine M98 ?_;clear x0 hL2 yy hb HK hq z0 q0 q1 q2 q3 q4 Ba hbs y2;intro x0 hL2 yy hb q0 q1 q2 q3 q4 hn3 hn2
  by_cases e0:nn=0
  .
   have hno:aK name false=false:=dI Q47
   rw[e0]at q3 ⊢
   have he:Hid (dJ (.mk 2 n mod name ks) d arg left=false):=cD (dH (.inr (.inr (.inr (.inl ⟨by decide,hno⟩)))))
   exact U2
  have e0':(0:Int)<(nn:Int):=Q0;generalize hnb:aK name false=nb at *
  have HNB:Hid (aK name false=nb):=hnb
  clear hnb;go_wp2_with fail;refine hn3.mono ?_;rintro e w3 ⟨rfl,rfl⟩;clear hn3;cases nb
  .
   have he:Hid (dJ (.mk 2 n mod name ks) d arg left=false):=cD (dH (.inr (.inr (.inr (.inl ⟨by decide,HNB.out⟩)))))
   exact U2
  by_cases em:nm=0
  rotate_left
  .
   have em':(0:Int)<(nm:Int):=Q0
   have he:Hid (dJ (.mk 2 n mod name ks) d arg left=false):=cD (dH (.inr (.inr (.inr (.inr (.inr (.inl ⟨by rw[HMO.out];exact em,by decide⟩)))))))
   exact U2
  refine M944 ?_;intro em' HEM;clear em
  by_cases n0:n=0
  rotate_left
  .
   have n0':(n != 0)=true:=by simpa using n0
   have he:Hid (dJ (.mk 2 n mod name ks) d arg left=false):=cD (dH (.inr (.inr (.inl Q36))))
   exact U2
  have n0':(n != 0)=false:=by simpa using n0
  have HNN:Hid (inB n (fD 2) (dF 2)=true):=by show _=_;rw[n0];decide
  clear n0
  have HE:Hid (dJ (.mk 2 n mod name ks) d arg left=eY ks (d+1) false m):=by
   show _=_
   rw[gA (jX HI4.out.1 HI4.out.2 HNN.out (by rw[show dP 2=true from by decide];exact HNB.out) Q43) (.inl Q5) Q21 Q0,HMM.out]
   rfl
  have HD:Hid (iF (.mk 2 n mod name ks)=1+aF ks):=by show _=_;simp[iF]
  refine M957 ?_;intro HX0 HY HB3 HLF HRW HSK HSS hm0 hm1 hd2 hd3;go_wp2_with fail;clear q0 q1 q2 q3 q4 x0 yy hb hL2 h4
  go_loopw [10] (fun i wr=>∃j:Nat,j<=ks.length/\i=.int .i64 j/\Hid (w3.grownBy wr (some g))/\Hid (Lft wr g (m-(aF (ks.take j):Int)))/\Hid ((aF (ks.take j):Int)<=m)/\Hid (∀i x,i<j->ks[i]?=some x->dJ x (d+1) false (m-(aF (ks.take i):Int))=true)) (fun i _=>ks.length-(intOf i).toNat)
  case atStart=>exact⟨0,zD1 _,rfl,aR _ _,HLF,by show(_:Int)<=_;simp[aF];omega,by show ∀_ _,_;omega⟩
  case round=>
   obtain⟨j,hj,rfl,Az,hLj,hnj,Av⟩:=hrel;clear HLF;have x0:=Blk.grown HX0.out Az.out Al;have q0:=x0.k 0;have q4:=x0.k 4;have hb:=bZ HB3.out Az.out hg
   by_cases Aj:j<ks.length
   .
    obtain⟨b4,o4,rfl⟩:=bQ.addr HRW.out Q19
    obtain⟨x,hx⟩:∃x,ks[j]?=some x:=⟨ks[j],zA0 _⟩
    have Bc:(exs ks)[j]?=some x.fl:=by rw[aQ,zA2,hx];rfl
    obtain⟨us,Ai,Ab⟩:=(bQ.el HRW.out Bc).vals;obtain⟨u0,u1,u2,u3,u4,rfl⟩:=gP (Ai.len.trans (cF x))
    have hc0:w0.cell? ⟨b4,o4+j*5,none⟩=some u0:=Ab 0 _ rfl
    refine M932 ?_;clear Ab;intro Ab t0 t1 t2 t3 t4 hmem hsx hbd hLd HC HJ HNX;clear Ab hx Bc hmem hsx Ai hbd hLd;generalize hsp:dJ x (d+1) false (m-(aF (ks.take j):Int))=rr at *
    have HSP:Hid (dJ x (d+1) false (m-(aF (ks.take j):Int))=rr):=hsp
    clear hsp
    have hb4:b4 ≠ g:=by
     have:=zI3 w0 _ hc0
     simp only at this
     omega
    have Ba:(wr.drew.cell? ⟨gx,0,none⟩=some (.int .i64 2)/\wr.drew.cell? ⟨gx,4,none⟩=some (.slice (some ⟨b4,o4,none⟩) ks.length c4)/\wr.drew.cell? ⟨b4,o4+j*5,none⟩=some u0/\wr.drew.cell? ⟨b4,o4+j*5+1,none⟩=some u1/\wr.drew.cell? ⟨b4,o4+j*5+2,none⟩=some u2/\wr.drew.cell? ⟨b4,o4+j*5+3,none⟩=some u3/\wr.drew.cell? ⟨b4,o4+j*5+4,none⟩=some u4):=⟨q0,q4,t0,t1,t2,t3,t4⟩
    have hbs:∀{wl:World},wr.drew.grownBy wl (some g)->(wl.cell? ⟨gx,0,none⟩=some (.int .i64 2)/\wl.cell? ⟨gx,4,none⟩=some (.slice (some ⟨b4,o4,none⟩) ks.length c4)/\wl.cell? ⟨b4,o4+j*5,none⟩=some u0/\wl.cell? ⟨b4,o4+j*5+1,none⟩=some u1/\wl.cell? ⟨b4,o4+j*5+2,none⟩=some u2/\wl.cell? ⟨b4,o4+j*5+3,none⟩=some u3/\wl.cell? ⟨b4,o4+j*5+4,none⟩=some u4):=fun hq=>⟨cM Ba.1 hq Al,cM Ba.2.1 hq Al,cM Ba.2.2.1 hq hb4,cM Ba.2.2.2.1 hq hb4,cM Ba.2.2.2.2.1 hq hb4,cM Ba.2.2.2.2.2.1 hq hb4,cM Ba.2.2.2.2.2.2 hq hb4⟩
    have z5:(0:Int)<=(j:Int):=Q0
    have z7:IntKind.i64.wrap (d+1)=d+1:=by rw[IntKind.wrap_i64];omega
    have z6:(j:Int)<(ks.length:Int):=Q0;go_upto_region 21 with fail
    go_region_held3 (fun wx=>(wx.cell? ⟨gx,0,none⟩=some (.int .i64 2)/\wx.cell? ⟨gx,4,none⟩=some (.slice (some ⟨b4,o4,none⟩) ks.length c4)/\wx.cell? ⟨b4,o4+j*5,none⟩=some u0/\wx.cell? ⟨b4,o4+j*5+1,none⟩=some u1/\wx.cell? ⟨b4,o4+j*5+2,none⟩=some u2/\wx.cell? ⟨b4,o4+j*5+3,none⟩=some u3/\wx.cell? ⟨b4,o4+j*5+4,none⟩=some u4)) (first|exact Ba|exact HSl) (first
     | (go_at_call 117;(with_reducible refine HC.mono ?_);rintro e w4 ⟨rfl,Bd,hL4⟩;have HSl:=hbs Bd))
    clear HSl hbs Ba;refine M987 ?_;intro HG4 HL4;clear HC t0 t1 t2 t3 t4 q0 q4 x0 hb Bd hL4;cases rr
    .
     have he:Hid (dJ (.mk 2 n mod name ks) d arg left=false):=by show _=_;rw[HE.out];exact fV HJ.out HSP.out
     have hyy:=aD HY.out HG4.out;exact U9
    .
     exact U1
   .
    have:j=ks.length:=Q0
    subst this
    have he:Hid (dJ (.mk 2 n mod name ks) d arg left=true):=by
     show _=_
     rw[HE.out]
     exact dZ (fun i y hy=>Av.out i y (zC1.1 hy).1 hy) hm0
    exact U12
 .
  refine zK1 (S:=fun wx=>(wx.cell? ⟨g,0,none⟩=some (.int .i64 m)/\wx.cell? ⟨gx,0,none⟩=some (.int .i64 3)/\wx.cell? ⟨gx,1,none⟩=some (.int .i64 n)/\wx.cell? ⟨gx,2,none⟩=some (.slice a2 nm c2)/\wx.cell? ⟨gx,3,none⟩=some (.slice a3 nn c3)/\wx.cell? ⟨gx,4,none⟩=some (.slice a4 ks.length c4))) Q2 Ba (fun Aa=>?_)
  refine ta 0 ?_;refine ta 1 ?_;refine ta 2 ?_;refine M912 ?_;try simp only[nrm]
  refine ra 10 fun K hK=>?_
  go_simp;refine M946 ?_;intro w3 hq;go_wp2_with fail
  refine hK.out _ _ (hbs hq) (fun Aa=>?_)
  clear hK K;refine M915 ?_;refine ta 23 ?_;refine ta 24 ?_;try simp only[nrm]
  refine zK2 Q2 ?_ _;refine M98 ?_;clear x0 hL2 yy hb HK hq z0 q0 q1 q2 q3 q4 Ba hbs y2;intro x0 hL2 yy hb q0 q1 q2 q3 q4 hn3 hn2
  by_cases e0:nn=0
  rotate_left
  .
   have e0':(0:Int)<(nn:Int):=Q0
   have he:Hid (dJ (.mk 3 n mod name ks) d arg left=false):=cD (dH (.inr (.inr (.inr (.inr (.inl ⟨by decide,by rw[HNA.out];exact e0⟩))))))
   exact U2
  have e0':¬(0:Int)<(nn:Int):=Q0
  have HE0:Hid (name.length=0):=HNA.out.trans e0
  clear e0
  by_cases em:nm=0
  rotate_left
  .
   have em':(0:Int)<(nm:Int):=Q0
   have he:Hid (dJ (.mk 3 n mod name ks) d arg left=false):=cD (dH (.inr (.inr (.inr (.inr (.inr (.inl ⟨by rw[HMO.out];exact em,by decide⟩)))))))
   exact U2
  refine M944 ?_;intro em' HEM;clear em
  by_cases n0:n<0
  .
   have he:Hid (dJ (.mk 3 n mod name ks) d arg left=false):=cD (dH (.inr (.inr (.inl Q36))))
   exact U2
  by_cases n5:5<n
  .
   have he:Hid (dJ (.mk 3 n mod name ks) d arg left=false):=cD (dH (.inr (.inr (.inl Q36))))
   exact U2
  have HNN:Hid (inB n (fD 3) (dF 3)=true):=by show _=_;simp[inB,fD,dF];omega
  have HE:Hid (dJ (.mk 3 n mod name ks) d arg left=eY ks (d+1) false m):=by
   show _=_
   rw[gA (jX HI4.out.1 HI4.out.2 HNN.out (by rw[show dP 3=false from by decide];exact zB3 HE0.out) Q43) (.inl Q5) Q21 Q0,HMM.out]
   rfl
  have HD:Hid (iF (.mk 3 n mod name ks)=1+aF ks):=by show _=_;simp[iF]
  refine M957 ?_;intro HX0 HY HB3 HLF HRW HSK HSS hm0 hm1 hd2 hd3;go_wp2_with fail;clear q0 q1 q2 q3 q4 x0 yy hb hL2 h4
  go_loopw [10] (fun i wr=>∃j:Nat,j<=ks.length/\i=.int .i64 j/\Hid (w3.grownBy wr (some g))/\Hid (Lft wr g (m-(aF (ks.take j):Int)))/\Hid ((aF (ks.take j):Int)<=m)/\Hid (∀i x,i<j->ks[i]?=some x->dJ x (d+1) false (m-(aF (ks.take i):Int))=true)) (fun i _=>ks.length-(intOf i).toNat)
  case atStart=>exact⟨0,zD1 _,rfl,aR _ _,HLF,by show(_:Int)<=_;simp[aF];omega,by show ∀_ _,_;omega⟩
  case round=>
   obtain⟨j,hj,rfl,Az,hLj,hnj,Av⟩:=hrel;clear HLF;have x0:=Blk.grown HX0.out Az.out Al;have q0:=x0.k 0;have q4:=x0.k 4;have hb:=bZ HB3.out Az.out hg
   by_cases Aj:j<ks.length
   .
    obtain⟨b4,o4,rfl⟩:=bQ.addr HRW.out Q19
    obtain⟨x,hx⟩:∃x,ks[j]?=some x:=⟨ks[j],zA0 _⟩
    have Bc:(exs ks)[j]?=some x.fl:=by rw[aQ,zA2,hx];rfl
    obtain⟨us,Ai,Ab⟩:=(bQ.el HRW.out Bc).vals;obtain⟨u0,u1,u2,u3,u4,rfl⟩:=gP (Ai.len.trans (cF x))
    have hc0:w0.cell? ⟨b4,o4+j*5,none⟩=some u0:=Ab 0 _ rfl
    refine M932 ?_;clear Ab;intro Ab t0 t1 t2 t3 t4 hmem hsx hbd hLd HC HJ HNX;clear Ab hx Bc hmem hsx Ai hbd hLd;generalize hsp:dJ x (d+1) false (m-(aF (ks.take j):Int))=rr at *
    have HSP:Hid (dJ x (d+1) false (m-(aF (ks.take j):Int))=rr):=hsp
    clear hsp
    have hb4:b4 ≠ g:=by
     have:=zI3 w0 _ hc0
     simp only at this
     omega
    have Ba:(wr.drew.cell? ⟨gx,0,none⟩=some (.int .i64 3)/\wr.drew.cell? ⟨gx,4,none⟩=some (.slice (some ⟨b4,o4,none⟩) ks.length c4)/\wr.drew.cell? ⟨b4,o4+j*5,none⟩=some u0/\wr.drew.cell? ⟨b4,o4+j*5+1,none⟩=some u1/\wr.drew.cell? ⟨b4,o4+j*5+2,none⟩=some u2/\wr.drew.cell? ⟨b4,o4+j*5+3,none⟩=some u3/\wr.drew.cell? ⟨b4,o4+j*5+4,none⟩=some u4):=⟨q0,q4,t0,t1,t2,t3,t4⟩
    have hbs:∀{wl:World},wr.drew.grownBy wl (some g)->(wl.cell? ⟨gx,0,none⟩=some (.int .i64 3)/\wl.cell? ⟨gx,4,none⟩=some (.slice (some ⟨b4,o4,none⟩) ks.length c4)/\wl.cell? ⟨b4,o4+j*5,none⟩=some u0/\wl.cell? ⟨b4,o4+j*5+1,none⟩=some u1/\wl.cell? ⟨b4,o4+j*5+2,none⟩=some u2/\wl.cell? ⟨b4,o4+j*5+3,none⟩=some u3/\wl.cell? ⟨b4,o4+j*5+4,none⟩=some u4):=fun hq=>⟨cM Ba.1 hq Al,cM Ba.2.1 hq Al,cM Ba.2.2.1 hq hb4,cM Ba.2.2.2.1 hq hb4,cM Ba.2.2.2.2.1 hq hb4,cM Ba.2.2.2.2.2.1 hq hb4,cM Ba.2.2.2.2.2.2 hq hb4⟩
    have z5:(0:Int)<=(j:Int):=Q0
    have z7:IntKind.i64.wrap (d+1)=d+1:=by rw[IntKind.wrap_i64];omega
    have z6:(j:Int)<(ks.length:Int):=Q0;go_upto_region 21 with fail
    go_region_held3 (fun wx=>(wx.cell? ⟨gx,0,none⟩=some (.int .i64 3)/\wx.cell? ⟨gx,4,none⟩=some (.slice (some ⟨b4,o4,none⟩) ks.length c4)/\wx.cell? ⟨b4,o4+j*5,none⟩=some u0/\wx.cell? ⟨b4,o4+j*5+1,none⟩=some u1/\wx.cell? ⟨b4,o4+j*5+2,none⟩=some u2/\wx.cell? ⟨b4,o4+j*5+3,none⟩=some u3/\wx.cell? ⟨b4,o4+j*5+4,none⟩=some u4)) (first|exact Ba|exact HSl) (first
     | (go_at_call 117;(with_reducible refine HC.mono ?_);rintro e w4 ⟨rfl,Bd,hL4⟩;have HSl:=hbs Bd))
    clear HSl hbs Ba;refine M987 ?_;intro HG4 HL4;clear HC t0 t1 t2 t3 t4 q0 q4 x0 hb Bd hL4;cases rr
    .
     have he:Hid (dJ (.mk 3 n mod name ks) d arg left=false):=by show _=_;rw[HE.out];exact fV HJ.out HSP.out
     have hyy:=aD HY.out HG4.out;exact U9
    .
     exact U1
   .
    have:j=ks.length:=Q0
    subst this
    have he:Hid (dJ (.mk 3 n mod name ks) d arg left=true):=by
     show _=_
     rw[HE.out]
     exact dZ (fun i y hy=>Av.out i y (zC1.1 hy).1 hy) hm0
    exact U12
 .
  refine zK1 (S:=fun wx=>(wx.cell? ⟨g,0,none⟩=some (.int .i64 m)/\wx.cell? ⟨gx,0,none⟩=some (.int .i64 4)/\wx.cell? ⟨gx,1,none⟩=some (.int .i64 n)/\wx.cell? ⟨gx,2,none⟩=some (.slice a2 nm c2)/\wx.cell? ⟨gx,3,none⟩=some (.slice a3 nn c3)/\wx.cell? ⟨gx,4,none⟩=some (.slice a4 ks.length c4))) Q2 Ba (fun Aa=>?_)
  refine ta 0 ?_;refine ta 1 ?_;refine ta 2 ?_;refine M912 ?_;try simp only[nrm]
  refine ra 10 fun K hK=>?_
  go_simp;refine M946 ?_;intro w3 hq;go_wp2_with fail
  refine hK.out _ _ (hbs hq) (fun Aa=>?_)
  clear hK K;refine M915 ?_;refine ta 23 ?_;refine ta 24 ?_;try simp only[nrm]
  refine zK2 Q2 ?_ _;refine M98 ?_;clear x0 hL2 yy hb HK hq z0 q0 q1 q2 q3 q4 Ba hbs y2;intro x0 hL2 yy hb q0 q1 q2 q3 q4 hn3 hn2
  by_cases e0:nn=0
  rotate_left
  .
   have e0':(0:Int)<(nn:Int):=Q0
   have he:Hid (dJ (.mk 4 n mod name ks) d arg left=false):=cD (dH (.inr (.inr (.inr (.inr (.inl ⟨by decide,by rw[HNA.out];exact e0⟩))))))
   exact U2
  have e0':¬(0:Int)<(nn:Int):=Q0
  have HE0:Hid (name.length=0):=HNA.out.trans e0
  clear e0
  by_cases em:nm=0
  rotate_left
  .
   have em':(0:Int)<(nm:Int):=Q0
   have he:Hid (dJ (.mk 4 n mod name ks) d arg left=false):=cD (dH (.inr (.inr (.inr (.inr (.inr (.inl ⟨by rw[HMO.out];exact em,by decide⟩)))))))
   exact U2
  refine M944 ?_;intro em' HEM;clear em
  by_cases n0:n=0
  rotate_left
  .
   have n0':(n != 0)=true:=by simpa using n0
   have he:Hid (dJ (.mk 4 n mod name ks) d arg left=false):=cD (dH (.inr (.inr (.inl Q36))))
   exact U2
  have n0':(n != 0)=false:=by simpa using n0
  have HNN:Hid (inB n (fD 4) (dF 4)=true):=by show _=_;rw[n0];decide
  clear n0
  have HE:Hid (dJ (.mk 4 n mod name ks) d arg left=eY ks (d+1) false m):=by
   show _=_
   rw[gA (jX HI4.out.1 HI4.out.2 HNN.out (by rw[show dP 4=false from by decide];exact zB3 HE0.out) Q43) (.inl Q5) Q21 Q0,HMM.out]
   rfl
  have HD:Hid (iF (.mk 4 n mod name ks)=1+aF ks):=by show _=_;simp[iF]
  exact U110
 .
  refine zK1 (S:=fun wx=>(wx.cell? ⟨g,0,none⟩=some (.int .i64 m)/\wx.cell? ⟨gx,0,none⟩=some (.int .i64 5)/\wx.cell? ⟨gx,1,none⟩=some (.int .i64 n)/\wx.cell? ⟨gx,2,none⟩=some (.slice a2 nm c2)/\wx.cell? ⟨gx,3,none⟩=some (.slice a3 nn c3)/\wx.cell? ⟨gx,4,none⟩=some (.slice a4 ks.length c4))) Q2 Ba (fun Aa=>?_)
  refine ta 0 ?_;refine ta 1 ?_;refine ta 2 ?_;refine M912 ?_;try simp only[nrm]
  refine ra 10 fun K hK=>?_
  go_simp;refine M946 ?_;intro w3 hq;go_wp2_with fail
  refine hK.out _ _ (hbs hq) (fun Aa=>?_)
  clear hK K;refine M915 ?_;refine ta 23 ?_;refine ta 24 ?_;try simp only[nrm]
  refine zK2 Q2 ?_ _;refine M98 ?_;clear x0 hL2 yy hb HK hq z0 q0 q1 q2 q3 q4 Ba hbs y2;intro x0 hL2 yy hb q0 q1 q2 q3 q4 hn3 hn2
  by_cases e0:nn=0
  .
   have hno:aK name false=false:=dI Q47
   rw[e0]at q3 ⊢
   have he:Hid (dJ (.mk 5 n mod name ks) d arg left=false):=cD (dH (.inr (.inr (.inr (.inl ⟨by decide,hno⟩)))))
   exact U2
  have e0':(0:Int)<(nn:Int):=Q0;generalize hnb:aK name false=nb at *
  have HNB:Hid (aK name false=nb):=hnb
  clear hnb;go_wp2_with fail;refine hn3.mono ?_;rintro e w3 ⟨rfl,rfl⟩;clear hn3;cases nb
  .
   have he:Hid (dJ (.mk 5 n mod name ks) d arg left=false):=cD (dH (.inr (.inr (.inr (.inl ⟨by decide,HNB.out⟩)))))
   exact U2
  by_cases em:nm=0
  rotate_left
  .
   have em':(0:Int)<(nm:Int):=Q0
   have he:Hid (dJ (.mk 5 n mod name ks) d arg left=false):=cD (dH (.inr (.inr (.inr (.inr (.inr (.inl ⟨by rw[HMO.out];exact em,by decide⟩)))))))
   exact U2
  refine M944 ?_;intro em' HEM;clear em
  by_cases n0:n=0
  rotate_left
  .
   have n0':(n != 0)=true:=by simpa using n0
   have he:Hid (dJ (.mk 5 n mod name ks) d arg left=false):=cD (dH (.inr (.inr (.inl Q36))))
   exact U2
  have n0':(n != 0)=false:=by simpa using n0
  have HNN:Hid (inB n (fD 5) (dF 5)=true):=by show _=_;rw[n0];decide
  clear n0
  have HE:Hid (dJ (.mk 5 n mod name ks) d arg left=eY ks (d+1) false m):=by
   show _=_
   rw[gA (jX HI4.out.1 HI4.out.2 HNN.out (by rw[show dP 5=true from by decide];exact HNB.out) Q43) (.inl Q5) Q21 Q0,HMM.out]
   rfl
  have HD:Hid (iF (.mk 5 n mod name ks)=1+aF ks):=by show _=_;simp[iF]
  exact U110
 .
  refine zK1 (S:=fun wx=>(wx.cell? ⟨g,0,none⟩=some (.int .i64 m)/\wx.cell? ⟨gx,0,none⟩=some (.int .i64 6)/\wx.cell? ⟨gx,1,none⟩=some (.int .i64 n)/\wx.cell? ⟨gx,2,none⟩=some (.slice a2 nm c2)/\wx.cell? ⟨gx,3,none⟩=some (.slice a3 nn c3)/\wx.cell? ⟨gx,4,none⟩=some (.slice a4 ks.length c4))) Q2 Ba (fun Aa=>?_)
  refine ta 0 ?_;refine ta 1 ?_;refine ta 2 ?_;refine M912 ?_;try simp only[nrm]
  refine ra 10 fun K hK=>?_
  go_simp;refine M946 ?_;intro w3 hq;go_wp2_with fail
  refine hK.out _ _ (hbs hq) (fun Aa=>?_)
  clear hK K;refine M915 ?_;refine ta 23 ?_;refine ta 24 ?_;try simp only[nrm]
  refine zK2 Q2 ?_ _;refine M98 ?_;clear x0 hL2 yy hb HK hq z0 q0 q1 q2 q3 q4 Ba hbs y2;intro x0 hL2 yy hb q0 q1 q2 q3 q4 hn3 hn2
  by_cases e0:nn=0
  .
   have hno:aK name false=false:=dI Q47
   rw[e0]at q3 ⊢
   have he:Hid (dJ (.mk 6 n mod name ks) d arg left=false):=cD (dH (.inr (.inr (.inr (.inl ⟨by decide,hno⟩)))))
   exact U2
  have e0':(0:Int)<(nn:Int):=Q0;generalize hnb:aK name false=nb at *
  have HNB:Hid (aK name false=nb):=hnb
  clear hnb;go_wp2_with fail;refine hn3.mono ?_;rintro e w3 ⟨rfl,rfl⟩;clear hn3;cases nb
  .
   have he:Hid (dJ (.mk 6 n mod name ks) d arg left=false):=cD (dH (.inr (.inr (.inr (.inl ⟨by decide,HNB.out⟩)))))
   exact U2
  by_cases em:nm=0
  .
   refine M944 ?_;intro em' HEM;clear em
   by_cases n0:n=0
   rotate_left
   .
    have n0':(n != 0)=true:=by simpa using n0
    have he:Hid (dJ (.mk 6 n mod name ks) d arg left=false):=cD (dH (.inr (.inr (.inl Q36))))
    exact U2
   have n0':(n != 0)=false:=by simpa using n0
   have HNN:Hid (inB n (fD 6) (dF 6)=true):=by show _=_;rw[n0];decide
   clear n0
   have HE:Hid (dJ (.mk 6 n mod name ks) d arg left=eY ks (d+1) true m):=by
    show _=_
    rw[gA (jX HI4.out.1 HI4.out.2 HNN.out Q64 Q43) (.inl Q5) Q21 Q0,HMM.out]
    rfl
   exact U0
  .
   have em':(0:Int)<(nm:Int):=Q0;generalize hmb:aK mod true=mb at *
   have HMB:Hid (aK mod true=mb):=hmb
   clear hmb;go_wp2_with fail;refine hn2.mono ?_;rintro e w3 ⟨rfl,rfl⟩;clear hn2;cases mb
   .
    have he:Hid (dJ (.mk 6 n mod name ks) d arg left=false):=cD (dH (.inr (.inr (.inr (.inr (.inr (.inr ⟨by rw[HMO.out];exact em,HMB.out⟩)))))))
    exact U2
   by_cases n0:n=0
   rotate_left
   .
    have n0':(n != 0)=true:=by simpa using n0
    have he:Hid (dJ (.mk 6 n mod name ks) d arg left=false):=cD (dH (.inr (.inr (.inl Q36))))
    exact U2
   have n0':(n != 0)=false:=by simpa using n0
   have HNN:Hid (inB n (fD 6) (dF 6)=true):=by show _=_;rw[n0];decide
   clear n0
   have HE:Hid (dJ (.mk 6 n mod name ks) d arg left=eY ks (d+1) true m):=by
    show _=_
    rw[gA (jX HI4.out.1 HI4.out.2 HNN.out Q64 (by rw[HMB.out];simp)) (.inl Q5) Q21 Q0,HMM.out]
    rfl
   exact U0
 .
  cases arg
  .
   have he:Hid (dJ (.mk 7 n mod name ks) d false left=false):=aHo
   clear HI4
   refine zK1 (S:=fun wx=>(wx.cell? ⟨g,0,none⟩=some (.int .i64 m)/\wx.cell? ⟨gx,0,none⟩=some (.int .i64 7)/\wx.cell? ⟨gx,1,none⟩=some (.int .i64 n)/\wx.cell? ⟨gx,2,none⟩=some (.slice a2 nm c2)/\wx.cell? ⟨gx,3,none⟩=some (.slice a3 nn c3)/\wx.cell? ⟨gx,4,none⟩=some (.slice a4 ks.length c4))) Q2 Ba (fun Aa=>?_)
   refine ta 0 ?_;refine ta 1 ?_;refine ta 2 ?_;refine M912 ?_;try simp only[nrm]
   refine ra 10 fun K hK=>?_
   go_simp;refine M946 ?_;intro w3 hq;go_wp2_with fail
   refine hK.out _ _ (hbs hq) (fun Aa=>?_)
   clear hK K;refine M916 ?_;refine ta 21 ?_;refine ta 22 ?_;try simp only[nrm]
   refine ta 23 ?_;exact U67
  refine zK1 (S:=fun wx=>(wx.cell? ⟨g,0,none⟩=some (.int .i64 m)/\wx.cell? ⟨gx,0,none⟩=some (.int .i64 7)/\wx.cell? ⟨gx,1,none⟩=some (.int .i64 n)/\wx.cell? ⟨gx,2,none⟩=some (.slice a2 nm c2)/\wx.cell? ⟨gx,3,none⟩=some (.slice a3 nn c3)/\wx.cell? ⟨gx,4,none⟩=some (.slice a4 ks.length c4))) Q2 Ba (fun Aa=>?_)
  refine ta 0 ?_;refine ta 1 ?_;refine ta 2 ?_;refine M912 ?_;try simp only[nrm]
  refine ra 10 fun K hK=>?_
  go_simp;refine M946 ?_;intro w3 hq;go_wp2_with fail
  refine hK.out _ _ (hbs hq) (fun Aa=>?_)
  clear hK K;refine M916 ?_;try simp only[nrm]
  refine ta 21 ?_;refine ta 22 ?_;try simp only[nrm]
  refine ta 23 ?_;refine ta 24 ?_;try simp only[nrm]
  refine zK2 Q2 ?_ _;refine M98 ?_;clear x0 hL2 yy hb HK hq z0 q0 q1 q2 q3 q4 Ba hbs y2;intro x0 hL2 yy hb q0 q1 q2 q3 q4 hn3 hn2
  by_cases e0:nn=0
  .
   have hno:aK name false=false:=dI Q47
   rw[e0]at q3 ⊢
   have he:Hid (dJ (.mk 7 n mod name ks) d true left=false):=cD (dH (.inr (.inr (.inr (.inl ⟨by decide,hno⟩)))))
   exact U2
  have e0':(0:Int)<(nn:Int):=Q0;generalize hnb:aK name false=nb at *
  have HNB:Hid (aK name false=nb):=hnb
  clear hnb;go_wp2_with fail;refine hn3.mono ?_;rintro e w3 ⟨rfl,rfl⟩;clear hn3;cases nb
  .
   have he:Hid (dJ (.mk 7 n mod name ks) d true left=false):=cD (dH (.inr (.inr (.inr (.inl ⟨by decide,HNB.out⟩)))))
   exact U2
  by_cases em:nm=0
  rotate_left
  .
   have em':(0:Int)<(nm:Int):=Q0
   have he:Hid (dJ (.mk 7 n mod name ks) d true left=false):=cD (dH (.inr (.inr (.inr (.inr (.inr (.inl ⟨by rw[HMO.out];exact em,by decide⟩)))))))
   exact U2
  refine M944 ?_;intro em' HEM;clear em
  by_cases n0:n=0
  rotate_left
  .
   have n0':(n != 0)=true:=by simpa using n0
   have he:Hid (dJ (.mk 7 n mod name ks) d true left=false):=cD (dH (.inr (.inr (.inl Q36))))
   exact U2
  have n0':(n != 0)=false:=by simpa using n0
  have HNN:Hid (inB n (fD 7) (dF 7)=true):=by show _=_;rw[n0];decide
  clear n0
  have HE:Hid (dJ (.mk 7 n mod name ks) d true left=eY ks (d+1) false m):=by
   show _=_
   rw[gA (jX HI4.out.1 HI4.out.2 HNN.out (by rw[show dP 7=true from by decide];exact HNB.out) Q43) (.inr rfl) Q21 Q0,HMM.out]
   rfl
  have HD:Hid (iF (.mk 7 n mod name ks)=1+aF ks):=by show _=_;simp[iF]
  exact U110
mutual
theorem aQg:∀x:Ex,aJn x
 | .mk k n m a ks=>aQh k n m a ks (aD2 ks)
theorem aD2:∀(l:List Ex),∀x ∈ l,aJn x
 | [],x,h=>by simp at h
 | y :: l,x,h=>by
  rcases zG3.1 h with h|h
  .
   rw[h];exact aQg y
  .
   exact aD2 l x h
end
end Go.Proofs.YtffphdacgblaoaaGreatDoor
