import Derived.Test.YtegkhlkjfeafjaaGreatDoorPackM
import Derived.Test.YtegkhlkjfeafjaaGreatDoorPackE
import Derived.Deep.RegionHeld3
namespace Go.Proofs.YtegkhlkjfeafjaaGreatDoor
open Go.RowKit
set_option linter.unusedVariables false
set_option linter.unusedSimpArgs false
set_option maxRecDepth 100000
theorem V3{p:Prop}(h:p:=by kernel_rfl):p:=h
theorem V23{p:Prop}(h:p:=by show(_:Int)<=_;rw[HNX.out];omega):p:=h
theorem V25{p:Prop}(h:p:=by rw[As];omega):p:=h
theorem V26{p:Prop}(h:p:=by have:=HMM.out;omega):p:=h
theorem V31{p:Prop}(h:p:=by have:=hnj.out;omega):p:=h
theorem V43{p:Prop}(h:p:=by simp[inB,eT,dB];omega):p:=h
theorem V108{p:Prop}(h:p:=by rw[zB3 HEM.out];rfl):p:=h
theorem V66{p:Prop}(h:p:=by rw[HNA.out];omega):p:=h
theorem V77{p:Prop}(h:p:=by rw[show dK 6=true from by decide];exact HNB.out):p:=h
theorem U263{p:Prop}(h:p:=by
 have HD:Hid (fA (.mk 6 n mod name ks)=1+aG ks):=by show _=_;simp[fA]
 have HX0:Hid _:=x0
 have HY:Hid (w.grownBy w3 (some g)):=yy
 have HB3:Hid (Below w0.heap.size w0 w3):=hb
 have HLF:Hid (Lft w3 g (m-(aG (ks.take 0):Int))):=by show Lft _ _ _;simpa [aG] using hL2
 have HRW:Hid (aS w0 a4 c4 5 (exs ks)):=h4
 have HSK:Hid (aF (exs ks)<=1048576):=hsk
 have HSS:Hid (∀x ∈ ks,aFw x):=S
 have hm0:0<=m:=V6
 have hm1:m<=250:=by have:=HMM.out;omega
 have hd2:d+1<=17:=V6
 have hd3:0<=d+1:=V6
 go_wp2_with fail
 clear q0 q1 q2 q3 q4 x0 yy hb hL2 h4
 go_loopw [10] (fun i wr=>∃j:Nat,j<=ks.length/\i=.int .i64 j/\Hid (w3.grownBy wr (some g))/\Hid (Lft wr g (m-(aG (ks.take j):Int)))/\Hid ((aG (ks.take j):Int)<=m)/\Hid (∀i x,i<j->ks[i]?=some x->cW x (d+1) true (m-(aG (ks.take i):Int))=true)) (fun i _=>ks.length-(intOf i).toNat)
 case atStart=>exact⟨0,zD1 _,rfl,aN0 _ _,HLF,by show(_:Int)<=_;simp[aG];omega,by show ∀_ _,_;omega⟩
 case round=>
  obtain⟨j,hj,rfl,Bk,hLj,hnj,Bc⟩:=hrel
  clear HLF
  have x0:=Blk.grown HX0.out Bk.out An
  have q0:=x0.k 0
  have q4:=x0.k 4
  have hb:=bZ HB3.out Bk.out hg
  by_cases Ai:j<ks.length
  .
   obtain⟨b4,o4,rfl⟩:=aS.addr HRW.out V25
   obtain⟨x,hx⟩:∃x,ks[j]?=some x:=⟨ks[j],zA0 _⟩
   have Ak:(exs ks)[j]?=some x.fl:=by rw[aJ,zA2,hx];rfl
   obtain⟨us,Ad,Ab⟩:=(aS.el HRW.out Ak).vals
   obtain⟨u0,u1,u2,u3,u4,rfl⟩:=eO (Ad.len.trans (cE x))
   have hc0:w0.cell? ⟨b4,o4+j*5,none⟩=some u0:=Ab 0 _ rfl
   replace Ab:∀i v,_->_:=fun i v hv=>aB (Ab i v hv) hb
   have t0:wr.cell? ⟨b4,o4+j*5,none⟩=some u0:=Ab 0 _ rfl
   have t1:wr.cell? ⟨b4,o4+j*5+1,none⟩=some u1:=Ab 1 _ rfl
   have t2:wr.cell? ⟨b4,o4+j*5+2,none⟩=some u2:=Ab 2 _ rfl
   have t3:wr.cell? ⟨b4,o4+j*5+3,none⟩=some u3:=Ab 3 _ rfl
   have t4:wr.cell? ⟨b4,o4+j*5+4,none⟩=some u4:=Ab 4 _ rfl
   have hmem:=zA3 hx
   have hsx:aH x.fl<=1048576:=zF2 (bK (zA3 Ak)) HSK.out
   have hbd:Below w0.heap.size w0 wr.drew:=hb.drew
   have hLd:Lft wr.drew g (m-(aG (ks.take j):Int)):=hLj.out
   have HC:=HSS.out x hmem w0 wr.drew [u0,u1,u2,u3,u4] g (m-(aG (ks.take j):Int)) (d+1) true Ad hbd hg hLd V31 V6 hd3 hd2 hsx
   simp only[agg]at HC
   have HJ:Hid (ks[j]?=some x):=hx
   have HNX:Hid (aG (ks.take (j+1))=aG (ks.take j)+fA x):=cQ hx
   clear Ab hx Ak hmem hsx Ad hbd hLd
   generalize hsp:cW x (d+1) true (m-(aG (ks.take j):Int))=rr at *
   have HSP:Hid (cW x (d+1) true (m-(aG (ks.take j):Int))=rr):=hsp
   clear hsp
   have hb4:b4 ≠ g:=by
    have:=zJ1 w0 _ hc0
    simp only at this
    omega
   have Al:(wr.drew.cell? ⟨gx,0,none⟩=some (.int .i64 6)/\wr.drew.cell? ⟨gx,4,none⟩=some (.slice (some ⟨b4,o4,none⟩) ks.length c4)/\wr.drew.cell? ⟨b4,o4+j*5,none⟩=some u0/\wr.drew.cell? ⟨b4,o4+j*5+1,none⟩=some u1/\wr.drew.cell? ⟨b4,o4+j*5+2,none⟩=some u2/\wr.drew.cell? ⟨b4,o4+j*5+3,none⟩=some u3/\wr.drew.cell? ⟨b4,o4+j*5+4,none⟩=some u4):=⟨q0,q4,t0,t1,t2,t3,t4⟩
   have hbs:∀{wl:World},wr.drew.grownBy wl (some g)->(wl.cell? ⟨gx,0,none⟩=some (.int .i64 6)/\wl.cell? ⟨gx,4,none⟩=some (.slice (some ⟨b4,o4,none⟩) ks.length c4)/\wl.cell? ⟨b4,o4+j*5,none⟩=some u0/\wl.cell? ⟨b4,o4+j*5+1,none⟩=some u1/\wl.cell? ⟨b4,o4+j*5+2,none⟩=some u2/\wl.cell? ⟨b4,o4+j*5+3,none⟩=some u3/\wl.cell? ⟨b4,o4+j*5+4,none⟩=some u4):=fun hq=>⟨cH Al.1 hq An,cH Al.2.1 hq An,cH Al.2.2.1 hq hb4,cH Al.2.2.2.1 hq hb4,cH Al.2.2.2.2.1 hq hb4,cH Al.2.2.2.2.2.1 hq hb4,cH Al.2.2.2.2.2.2 hq hb4⟩
   have z5:(0:Int)<=(j:Int):=V6
   have z7:IntKind.i64.wrap (d+1)=d+1:=by rw[IntKind.wrap_i64];omega
   have z6:(j:Int)<(ks.length:Int):=V6
   go_upto_region 21 with fail
   go_region_held3 (fun wx=>(wx.cell? ⟨gx,0,none⟩=some (.int .i64 6)/\wx.cell? ⟨gx,4,none⟩=some (.slice (some ⟨b4,o4,none⟩) ks.length c4)/\wx.cell? ⟨b4,o4+j*5,none⟩=some u0/\wx.cell? ⟨b4,o4+j*5+1,none⟩=some u1/\wx.cell? ⟨b4,o4+j*5+2,none⟩=some u2/\wx.cell? ⟨b4,o4+j*5+3,none⟩=some u3/\wx.cell? ⟨b4,o4+j*5+4,none⟩=some u4)) (first|exact Al|exact HSl) (first
    | (go_at_call 190;(with_reducible refine HC.mono ?_);rintro e w4 ⟨rfl,Bg,hL4⟩;have HSl:=hbs Bg))
   clear HSl hbs Al
   have HG4:Hid (w3.grownBy w4 (some g)):=aD Bk.out (aD (show wr.grownBy wr.drew (some g) from⟨rfl,rfl,rfl,zB0 _,fun _ _ _=>rfl⟩) Bg)
   have HL4:Hid (rr=true->Lft w4 g (m-(aG (ks.take j):Int)-(fA x:Int))):=hL4
   clear HC t0 t1 t2 t3 t4 q0 q4 x0 hb Bg hL4
   cases rr
   .
    have he:Hid (cW (.mk 6 n mod name ks) d arg left=false):=by show _=_;rw[HE.out];exact fF HJ.out HSP.out
    have hyy:=aD HY.out HG4.out
    go_wp2
    go_ret
    rw[he.out]
    exact⟨rfl,hyy,by simp⟩
   .
    have hle:=gD HSP.out
    have HL5:Hid (Lft w4 g (m-(aG (ks.take (j+1)):Int))):=by
     have:=HL4.out rfl
     rw[show m-(aG (ks.take j):Int)-(fA x:Int)=m-(aG (ks.take (j+1)):Int) by rw[HNX.out];omega]at this
     exact this
    go_wp2
    go_roundw
    case rel=>exact⟨j+1,by omega,by go_num,HG4,HL5,V23,(show ∀i x,i<j+1->_ from fun i y hi hy=>(zK1 i j).elim (fun h=>Bc.out i y h hy) (fun h=>by
     obtain rfl:i=j:=V6
     rw[HJ.out]at hy
     cases hy
     exact HSP.out))⟩
    case measure=>simp[intOf];omega
  .
   have:j=ks.length:=V6
   subst this
   have he:Hid (cW (.mk 6 n mod name ks) d arg left=true):=by
    show _=_
    rw[HE.out]
    exact dW (fun i y hy=>Bc.out i y (zC1.1 hy).1 hy) hm0
   have hyy:=aD HY.out Bk.out
   have hLf:=hLj.out
   rw[List.take_length]at hLf
   go_wp2
   go_ret
   rw[he.out]
   exact⟨rfl,hyy,fun _=>by rw[HD.out,show left-((1+aG ks:Nat):Int)=m-(aG ks:Int) by have:=HMM.out;omega];exact hLf⟩):p:=h
theorem U264{p:Prop}(h:p:=by
 have hle:=gD HSP.out
 have HL5:Hid (Lft w4 g (m-(aG (ks.take (j+1)):Int))):=by
  have:=HL4.out rfl
  rw[show m-(aG (ks.take j):Int)-(fA x:Int)=m-(aG (ks.take (j+1)):Int) by rw[HNX.out];omega]at this
  exact this
 go_wp2
 go_roundw
 case rel=>exact⟨j+1,by omega,by go_num,HG4,HL5,V23,(show ∀i x,i<j+1->_ from fun i y hi hy=>(zK1 i j).elim (fun h=>Bc.out i y h hy) (fun h=>by
  obtain rfl:i=j:=V6
  rw[HJ.out]at hy
  cases hy
  exact HSP.out))⟩
 case measure=>simp[intOf];omega):p:=h
theorem U271{p:Prop}(h:p:=by
 have hz:ks.length=0:=jT HI4.out.2 V7
 have hks:ks=[]:=zE0 hz
 have HT:Hid (eR ks (d+1) false m=true):=by show _=_;rw[hks];exact jH V6
 have HD0:Hid (aG ks=0):=by show _=_;rw[hks];rfl
 subst hks
 simp only[zC3]at q4 ⊢
 clear hz x0 As hk9
 go_wp2_with fail
 refine zH2 1 ?_
 rw[zE2]
 go_wp2
 go_ret
 rw[HE.out,HT.out]
 exact⟨rfl,yy,fun _=>by rw[HD.out,HD0.out,show left-((1+0:Nat):Int)=m by have:=HMM.out;omega];exact hL2⟩):p:=h
theorem U277{p:Prop}(h:p:=by
 go_wp2
 go_ret
 rw[he.out]
 exact⟨rfl,hyy,by simp⟩):p:=h
theorem U281{p:Prop}(h:p:=by
 have hyy:=aD HY.out Bk.out
 have hLf:=hLj.out
 rw[List.take_length]at hLf
 go_wp2
 go_ret
 rw[he.out]
 exact⟨rfl,hyy,fun _=>by rw[HD.out,show left-((1+aG ks:Nat):Int)=m-(aG ks:Int) by have:=HMM.out;omega];exact hLf⟩):p:=h
theorem U289{p:Prop}(h:p:=by
 refine ta 7 ?_
 refine ta 8 ?_
 try simp only[nrm]
 refine sa 9 ?_
 refine sa 10 ?_
 refine sa 11 ?_
 try simp only[nrm]
 refine sa 12 ?_
 refine sa 13 ?_
 refine sa 14 ?_
 try simp only[nrm]
 refine ta 15 ?_
 refine ta 16 ?_
 try simp only[nrm]
 refine sa 17 ?_
 refine sa 18 ?_
 refine sa 19 ?_
 try simp only[nrm]
 refine sa 20 ?_
 refine sa 21 ?_
 refine sa 22 ?_
 try simp only[nrm]
 refine sa 23 ?_
 try simp only[nrm]
 refine ta 24 ?_
 try simp only[nrm]
 refine zL0 V3 ?_ _
 go_wp2
 go_ret
 rw[he.out]
 exact⟨rfl,aD yy (bU y2 _),by simp⟩):p:=h
theorem U342{p:Prop}(h:p:=by
 refine ta 24 ?_
 try simp only[nrm]
 refine zL0 V3 ?_ _
 go_wp2
 go_ret
 rw[he.out]
 exact⟨rfl,aD yy (bU (aD y2 hq) _),by simp⟩):p:=h
theorem M93{p q:Prop}(k:q)(h:Kx q->p:=by
 intro kQ
 refine ta 0 ?_
 refine ta 1 ?_
 refine ta 2 ?_
 try simp only[nrm]
 refine ta 3 ?_
 refine ta 4 ?_
 refine ta 5 ?_
 try simp only[nrm]
 exact kQ.o):p:=h ⟨k⟩
theorem M99{p q:Prop}(k:q)(h:Kx q->p:=by
 intro kQ
 refine ta 0 ?_
 refine ta 1 ?_
 refine ta 2 ?_
 try simp only[nrm]
 refine ta 3 ?_
 refine ta 4 ?_
 exact kQ.o):p:=h ⟨k⟩
theorem M9186{p q:Prop}(k:q)(h:Kx q->p:=by
 intro kQ
 have hq3:=aD y2 hq
 replace x0:=x0.below (aA hq3) x0.lt
 replace hL2:Lft w3 g m:=Blk.below hL2 (aA hq3) (Blk.lt hL2)
 replace yy:=aD yy (bU hq3 _)
 replace hb:=hb.trans ((aA hq3).mono hb.size)
 clear hq3
 obtain⟨q0,q1,q2,q3,q4⟩:=x0.c5
 have hn3:=bI a3 nn c3 name false w3 (h3.below hb) V6
 have hn2:=bI a2 nm c2 mod true w3 (h2.below hb) V6
 revert hn2;revert hn3;revert q4;revert q3;revert q2;revert q1;revert q0;revert hb;revert yy;revert hL2;revert x0
 exact kQ.o):p:=h ⟨k⟩
theorem M926{p q:Prop}(k:q)(h:Kx q->p:=by
 intro kQ
 refine ta 6 ?_
 refine ta 7 ?_
 refine ta 8 ?_
 try simp only[nrm]
 refine ta 9 ?_
 exact kQ.o):p:=h ⟨k⟩
theorem M929{p q:Prop}(k:q)(h:Kx q->p:=by
 intro kQ
 try simp only[nrm]
 refine ta 14 ?_
 refine ta 15 ?_
 refine ta 16 ?_
 try simp only[nrm]
 exact kQ.o):p:=h ⟨k⟩
theorem M933{p q:Prop}(k:q)(h:Kx q->p:=by
 intro kQ
 refine ta 17 ?_
 refine ta 18 ?_
 refine ta 19 ?_
 try simp only[nrm]
 refine ta 20 ?_
 try simp only[nrm]
 refine sa 21 ?_
 refine sa 22 ?_
 try simp only[nrm]
 refine ta 23 ?_
 refine ta 24 ?_
 try simp only[nrm]
 exact kQ.o):p:=h ⟨k⟩
theorem M950{p q:Prop}(k:q)(h:Kx q->p:=by
 intro kQ
 refine ta 11 ?_
 refine ta 12 ?_
 try simp only[nrm]
 refine ta 13 ?_
 exact kQ.o):p:=h ⟨k⟩
theorem M9195{p q:Prop}(k:q)(h:Kx q->p:=by
 intro kQ
 replace Ab:∀i v,_->_:=fun i v hv=>aB (Ab i v hv) hb
 have t0:wr.cell? ⟨b4,o4+j*5,none⟩=some u0:=Ab 0 _ rfl
 have t1:wr.cell? ⟨b4,o4+j*5+1,none⟩=some u1:=Ab 1 _ rfl
 have t2:wr.cell? ⟨b4,o4+j*5+2,none⟩=some u2:=Ab 2 _ rfl
 have t3:wr.cell? ⟨b4,o4+j*5+3,none⟩=some u3:=Ab 3 _ rfl
 have t4:wr.cell? ⟨b4,o4+j*5+4,none⟩=some u4:=Ab 4 _ rfl
 have hmem:=zA3 hx
 have hsx:aH x.fl<=1048576:=zF2 (bK (zA3 Ak)) HSK.out
 have hbd:Below w0.heap.size w0 wr.drew:=hb.drew
 have hLd:Lft wr.drew g (m-(aG (ks.take j):Int)):=hLj.out
 have HC:=HSS.out x hmem w0 wr.drew [u0,u1,u2,u3,u4] g (m-(aG (ks.take j):Int)) (d+1) false Ad hbd hg hLd V31 V6 hd3 hd2 hsx
 simp only[agg]at HC
 have HJ:Hid (ks[j]?=some x):=hx
 have HNX:Hid (aG (ks.take (j+1))=aG (ks.take j)+fA x):=cQ hx
 revert HNX;revert HJ;revert HC;revert hLd;revert hbd;revert hsx;revert hmem;revert t4;revert t3;revert t2;revert t1;revert t0;revert Ab
 exact kQ.o):p:=h ⟨k⟩
theorem M981{p q:Prop}(k:q)(h:Kx q->p:=by
 intro kQ
 have em':¬(0:Int)<(nm:Int):=V6
 have HEM:Hid (mod.length=0):=HMO.out.trans em
 revert HEM;revert em'
 exact kQ.o):p:=h ⟨k⟩
theorem M983{p q:Prop}(k:q)(h:Kx q->p:=by
 intro kQ
 (with_reducible refine HK.mono ?_)
 rintro e w3 ⟨rfl,hq⟩
 revert hq;revert w3
 exact kQ.o):p:=h ⟨k⟩
theorem M9106{p q:Prop}(k:q)(h:Kx q->p:=by
 intro kQ
 have HX0:Hid _:=x0
 have HY:Hid (w.grownBy w3 (some g)):=yy
 have HB3:Hid (Below w0.heap.size w0 w3):=hb
 have HLF:Hid (Lft w3 g (m-(aG (ks.take 0):Int))):=by show Lft _ _ _;simpa [aG] using hL2
 have HRW:Hid (aS w0 a4 c4 5 (exs ks)):=h4
 have HSK:Hid (aF (exs ks)<=1048576):=hsk
 have HSS:Hid (∀x ∈ ks,aFw x):=S
 have hm0:0<=m:=V6
 have hm1:m<=250:=by have:=HMM.out;omega
 have hd2:d+1<=17:=V6
 have hd3:0<=d+1:=V6
 revert hd3;revert hd2;revert hm1;revert hm0;revert HSS;revert HSK;revert HRW;revert HLF;revert HB3;revert HY;revert HX0
 exact kQ.o):p:=h ⟨k⟩
theorem M9250{p q:Prop}(k:q)(h:Kx q->p:=by
 intro kQ
 have HG4:Hid (w3.grownBy w4 (some g)):=aD Bk.out (aD (show wr.grownBy wr.drew (some g) from⟨rfl,rfl,rfl,zB0 _,fun _ _ _=>rfl⟩) Bg)
 have HL4:Hid (rr=true->Lft w4 g (m-(aG (ks.take j):Int)-(fA x:Int))):=hL4
 revert HL4;revert HG4
 exact kQ.o):p:=h ⟨k⟩
def Lft (w:World)(g:Nat)(n:Int):Prop:=Blk w g 3 [.int .i64 n]
def aFw (x:Ex):Prop:=∀(w0 w:World) (vs:List Value) (g:Nat) (left d:Int) (arg:Bool),aO w0 x.fl vs->Below w0.heap.size w0 w->w0.heap.size<=g->Lft w g left->0<=left->left<=250->0<=d->d<=17->aH x.fl<=1048576 →
 Calls Tryz.prog 190 #[agg vs,.int .i64 d,.bool arg,.pointer (some ⟨g,0,none⟩)] w fun e w'=>e=.returned (.bool (cW x d arg left))/\w.grownBy w' (some g)/\(cW x d arg left=true->Lft w' g (left-(fA x:Int)))
theorem aGv {n:Int}:(n == wrap64 (wrap32 n))=inB n (-2147483648) 2147483647:=by
 rw[Bool.eq_iff_iff];simp only[beq_iff_eq,inB,zC0,zE3,wrap64,wrap32]
 omega
theorem eO {α:Type}{l:List α}(h:l.length=5):∃a b c d e,l=[a,b,c,d,e]:=by
 match l,h with
 | [a,b,c,d,e],_=>exact⟨a,b,c,d,e,rfl⟩
theorem aA6 (n:Int)(w:World):
  Calls Tryz.prog 18 #[.int .i64 n] w fun e w'=>e=.returned (.int .i64 (wrap64 (wrap32 n)))/\w'=w:=by
 go_enter Tryz.func18,Tryz.ntmps18;exact U101
set_option maxHeartbeats 40000000 in
theorem aLq (k n:Int)(mod name:List Int)(ks:List Ex)(S:∀x ∈ ks,aFw x):aFw (.mk k n mod name ks):=by
 intro w0 w vs g left d arg hr hb hg hL hl0 hl1 hd0 hd1 hs;unfold Ex.fl at hr
 have hs':mod.length<=1048576/\name.length<=1048576:=by simp only[Ex.fl,aH,Fl.len]at hs;omega
 have hsk:aF (exs ks)<=1048576:=by simp only[Ex.fl,aH,Fl.len]at hs;omega
 clear hs;obtain⟨y0,_,rfl,rfl,y1,_,rfl,rfl,y2,_,rfl,⟨a2,c2,rfl,h2,hc2,_⟩,y3,_,rfl,⟨a3,c3,rfl,h3,hc3,_⟩,y4,_,rfl,Bl,rfl⟩:=hr;obtain⟨a4,c4,rfl,h4⟩:=Bl.list;clear Bl
 have As:(exs ks).length=ks.length:=by simp[aJ]
 have hk9:ks.length<=9223372036854775807:=by have h5:=h4.cap;have h6:=h4.most;unfold maxLen at h6;omega
 rw[As];simp only[agg]
 obtain⟨nn,hnn⟩:∃z,z=name.length:=⟨_,rfl⟩
 obtain⟨nm,hnm⟩:∃z,z=mod.length:=⟨_,rfl⟩
 rw[<-hnn]at h3 hs' hc3 ⊢;rw[<-hnm]at h2 hs' hc2 ⊢
 have HNA:Hid (name.length=nn):=hnn.symm
 have HMO:Hid (mod.length=nm):=hnm.symm
 clear hnn hnm;have hgl:g<w.heap.size:=Blk.lt hL
 have An:w.heap.size ≠ g:=V6
 have yy:=aC w (.cells #[.int .i64 k,.int .i64 n,.slice a2 nm c2,.slice a3 nn c3,.slice a4 ks.length c4] 133 (0,0)) (some g);have x0:=Blk.new w 133 [.int .i64 k,.int .i64 n,.slice a2 nm c2,.slice a3 nn c3,.slice a4 ks.length c4]
 have hL1:Lft _ g left:=Blk.old hL (o:=.cells #[.int .i64 k,.int .i64 n,.slice a2 nm c2,.slice a3 nn c3,.slice a4 ks.length c4] 133 (0,0))
 replace hb:Below w0.heap.size w0 (w.alloc (.cells #[.int .i64 k,.int .i64 n,.slice a2 nm c2,.slice a3 nn c3,.slice a4 ks.length c4] 133 (0,0))):=hb.alloc hb.size _
 clear hL;go_enter Tryz.func190,Tryz.ntmps190;go_upto_region 1 with fail;generalize w.alloc (.cells #[.int .i64 k,.int .i64 n,.slice a2 nm c2,.slice a3 nn c3,.slice a4 ks.length c4] 133 (0,0))=w1 at *;have z0:=hL1.k 0;have z1:=hL1.free 0;go_upto_region 2 with fail
 have hL2:Lft _ g (left-1):=Blk.set hL1 (i:=0) (.int .i64 (left-1))
 have hq:w1.grownBy (w1.setCell ⟨g,0,none⟩ (.int .i64 (left-1))) (some g):=lX
 replace x0:=x0.grown hq An;replace yy:=aD yy hq;replace hb:=bZ hb hq hg;generalize w1.setCell ⟨g,0,none⟩ (.int .i64 (left-1))=w2 at *;generalize w.heap.size=gx at *;clear z0 z1 hL1 hq hgl
 obtain⟨m,hm⟩:∃m,m=left-1:=⟨_,rfl⟩
 rw[<-hm]at hL2;have z0:=hL2.k 0;obtain⟨q0,q1,q2,q3,q4⟩:=x0.c5
 have HMM:Hid (m=left-1):=hm
 have Al:(w2.drew.cell? ⟨g,0,none⟩=some (.int .i64 m)/\w2.drew.cell? ⟨gx,0,none⟩=some (.int .i64 k)/\w2.drew.cell? ⟨gx,1,none⟩=some (.int .i64 n)/\w2.drew.cell? ⟨gx,2,none⟩=some (.slice a2 nm c2)/\w2.drew.cell? ⟨gx,3,none⟩=some (.slice a3 nn c3)/\w2.drew.cell? ⟨gx,4,none⟩=some (.slice a4 ks.length c4)):=⟨z0,q0,q1,q2,q3,q4⟩
 have hbs:∀{wl:World},w2.drew.grownBy wl none->(wl.cell? ⟨g,0,none⟩=some (.int .i64 m)/\wl.cell? ⟨gx,0,none⟩=some (.int .i64 k)/\wl.cell? ⟨gx,1,none⟩=some (.int .i64 n)/\wl.cell? ⟨gx,2,none⟩=some (.slice a2 nm c2)/\wl.cell? ⟨gx,3,none⟩=some (.slice a3 nn c3)/\wl.cell? ⟨gx,4,none⟩=some (.slice a4 ks.length c4)):=by
  intro wl hq
  have hb:Below w2.drew.heap.size w2.drew wl:=aA hq
  exact⟨aB Al.1 hb,aB Al.2.1 hb,aB Al.2.2.1 hb,aB Al.2.2.2.1 hb,aB Al.2.2.2.2.1 hb,aB Al.2.2.2.2.2 hb⟩
 have HK:=aIg k n (.slice a2 nm c2) (.slice a3 nn c3) a4 ks.length c4 w2.drew hk9
 have y2:w2.grownBy w2.drew none:=⟨rfl,rfl,rfl,zB0 _,fun _ _ _=>rfl⟩
 by_cases r1:m<0
 .
  have he:Hid (cW (.mk k n mod name ks) d arg left=false):=sD (.inl V6)
  clear HK hbs hm
  refine zK3 (S:=fun wx=>(wx.cell? ⟨g,0,none⟩=some (.int .i64 m)/\wx.cell? ⟨gx,0,none⟩=some (.int .i64 k)/\wx.cell? ⟨gx,1,none⟩=some (.int .i64 n)/\wx.cell? ⟨gx,2,none⟩=some (.slice a2 nm c2)/\wx.cell? ⟨gx,3,none⟩=some (.slice a3 nn c3)/\wx.cell? ⟨gx,4,none⟩=some (.slice a4 ks.length c4))) V3 Al (fun Aa=>?_)
  refine M99 ?_;try simp only[nrm]
  refine sa 5 ?_;refine sa 6 ?_;try simp only[nrm]
  exact U289
 by_cases r2:16<d
 .
  have he:Hid (cW (.mk k n mod name ks) d arg left=false):=sD (.inr r2)
  clear HK hbs hm
  refine zK3 (S:=fun wx=>(wx.cell? ⟨g,0,none⟩=some (.int .i64 m)/\wx.cell? ⟨gx,0,none⟩=some (.int .i64 k)/\wx.cell? ⟨gx,1,none⟩=some (.int .i64 n)/\wx.cell? ⟨gx,2,none⟩=some (.slice a2 nm c2)/\wx.cell? ⟨gx,3,none⟩=some (.slice a3 nn c3)/\wx.cell? ⟨gx,4,none⟩=some (.slice a4 ks.length c4))) V3 Al (fun Aa=>?_)
  refine M93 ?_;refine ta 6 ?_;exact U289
 by_cases r3:fQ k ks.length=ks.length
 rotate_left
 .
  have hI:=fun h=>r3 ((sE k ks.length).2 h)
  have r3':(fQ k ks.length != (ks.length:Int))=true:=by simpa using r3
  have hloc:gE k n mod name ks.length=false:=by
   cases i1:inB k 0 7
   .
    exact dD (.inl i1)
   .
    refine dD (.inr (.inl ?_))
    cases i2:inB (ks.length:Int) (dL k) (eX k)
    .
     rfl
    .
     exact absurd ⟨i1,by simp[inB]at i2;omega,by simp[inB]at i2;omega⟩ hI
  have he:Hid (cW (.mk k n mod name ks) d arg left=false):=cC hloc
  clear hI hloc hm r3;generalize fQ k ks.length=sk at *
  refine zK3 (S:=fun wx=>(wx.cell? ⟨g,0,none⟩=some (.int .i64 m)/\wx.cell? ⟨gx,0,none⟩=some (.int .i64 k)/\wx.cell? ⟨gx,1,none⟩=some (.int .i64 n)/\wx.cell? ⟨gx,2,none⟩=some (.slice a2 nm c2)/\wx.cell? ⟨gx,3,none⟩=some (.slice a3 nn c3)/\wx.cell? ⟨gx,4,none⟩=some (.slice a4 ks.length c4))) V3 Al (fun Aa=>?_)
  refine M93 ?_;refine M926 ?_;refine M950 ?_;try simp only[nrm]
  refine ra 10 fun K hK=>?_
  go_simp;refine M983 ?_;intro w3 hq;go_wp2_with fail
  refine hK.out _ _ (hbs hq) (fun Aa=>?_)
  clear hK K;refine M929 ?_;refine sa 17 ?_;refine sa 18 ?_;refine sa 19 ?_;try simp only[nrm]
  refine sa 20 ?_;refine sa 21 ?_;refine sa 22 ?_;try simp only[nrm]
  refine sa 23 ?_;try simp only[nrm]
  exact U342
 obtain⟨i1,i2,i3⟩:=(sE k ks.length).1 r3
 have HI4:Hid (inB k 0 7=true/\inB (ks.length:Int) (dL k) (eX k)=true):=⟨i1,by simp[inB];omega⟩
 rw[r3]at HK
 have h8:k=0\/k=1\/k=2\/k=3\/k=4\/k=5\/k=6\/k=7:=by simp[inB]at i1;omega
 clear r3 i1 i2 i3 hm
 rcases h8 with rfl|rfl|rfl|rfl|rfl|rfl|rfl|rfl
 .
  refine zK3 (S:=fun wx=>(wx.cell? ⟨g,0,none⟩=some (.int .i64 m)/\wx.cell? ⟨gx,0,none⟩=some (.int .i64 0)/\wx.cell? ⟨gx,1,none⟩=some (.int .i64 n)/\wx.cell? ⟨gx,2,none⟩=some (.slice a2 nm c2)/\wx.cell? ⟨gx,3,none⟩=some (.slice a3 nn c3)/\wx.cell? ⟨gx,4,none⟩=some (.slice a4 ks.length c4))) V3 Al (fun Aa=>?_)
  refine M93 ?_;refine M926 ?_;refine M950 ?_;try simp only[nrm]
  refine ra 10 fun K hK=>?_
  go_simp;refine M983 ?_;intro w3 hq;go_wp2_with fail
  refine hK.out _ _ (hbs hq) (fun Aa=>?_)
  clear hK K;refine M929 ?_;refine M933 ?_;refine zL0 V3 ?_ _;refine M9186 ?_;clear x0 hL2 yy hb HK hq z0 q0 q1 q2 q3 q4 Al hbs y2;intro x0 hL2 yy hb q0 q1 q2 q3 q4 hn3 hn2
  by_cases e0:nn=0
  rotate_left
  .
   have e0':(0:Int)<(nn:Int):=V6
   have he:Hid (cW (.mk 0 n mod name ks) d arg left=false):=cC (dD (.inr (.inr (.inr (.inr (.inl ⟨by decide,by rw[HNA.out];exact e0⟩))))))
   exact U266
  have e0':¬(0:Int)<(nn:Int):=V6
  have HE0:Hid (name.length=0):=HNA.out.trans e0
  clear e0
  by_cases em:nm=0
  rotate_left
  .
   have em':(0:Int)<(nm:Int):=V6
   have he:Hid (cW (.mk 0 n mod name ks) d arg left=false):=cC (dD (.inr (.inr (.inr (.inr (.inr (.inl ⟨by rw[HMO.out];exact em,by decide⟩)))))))
   exact U266
  refine M981 ?_;intro em' HEM;clear em
  have hwf:(n != wrap64 (wrap32 n)) = !(inB n (-2147483648) 2147483647):=by rw[<-aGv];rfl
  have HW:=aA6 n w3.drew;generalize wrap64 (wrap32 n)=wn at *;generalize hnn:inB n (-2147483648) 2147483647=nnb at *
  have HNN:Hid (inB n (eT 0) (dB 0)=nnb):=hnn
  clear hnn;go_upto_region 13 with fail
  have q1d:w3.drew.cell? ⟨gx,1,none⟩=some (.int .i64 n):=q1
  go_region_held3 (fun wx=>wx.cell? ⟨gx,1,none⟩=some (.int .i64 n)) (first|exact q1d) (first
   | (go_at_call 18;(with_reducible refine HW.mono ?_);rintro e w4 ⟨rfl,rfl⟩))
  have y3:w3.grownBy w3.drew none:=⟨rfl,rfl,rfl,zB0 _,fun _ _ _=>rfl⟩
  replace x0:Blk w3.drew gx 133 _:=x0
  replace hL2:Lft w3.drew g m:=hL2
  replace yy:=aD yy (bU y3 _);replace hb:=hb.drew;clear HW q0 q1 q2 q3 q4 q1d y3 hn2 hn3;generalize w3.drew=w4 at *;obtain⟨q0,q1,q2,q3,q4⟩:=x0.c5;cases nnb
  .
   have he:Hid (cW (.mk 0 n mod name ks) d arg left=false):=cC (dD (.inr (.inr (.inl HNN.out))))
   exact U266
  have HE:Hid (cW (.mk 0 n mod name ks) d arg left=eR ks (d+1) false m):=by
   show _=_
   rw[fL (iT HI4.out.1 HI4.out.2 HNN.out (by rw[show dK 0=false from by decide];exact zB3 HE0.out) V108) (.inl V7) V26 V6,HMM.out]
   rfl
  have HD:Hid (fA (.mk 0 n mod name ks)=1+aG ks):=by show _=_;simp[fA]
  exact U271
 .
  refine zK3 (S:=fun wx=>(wx.cell? ⟨g,0,none⟩=some (.int .i64 m)/\wx.cell? ⟨gx,0,none⟩=some (.int .i64 1)/\wx.cell? ⟨gx,1,none⟩=some (.int .i64 n)/\wx.cell? ⟨gx,2,none⟩=some (.slice a2 nm c2)/\wx.cell? ⟨gx,3,none⟩=some (.slice a3 nn c3)/\wx.cell? ⟨gx,4,none⟩=some (.slice a4 ks.length c4))) V3 Al (fun Aa=>?_)
  refine M93 ?_;refine M926 ?_;refine M950 ?_;try simp only[nrm]
  refine ra 10 fun K hK=>?_
  go_simp;refine M983 ?_;intro w3 hq;go_wp2_with fail
  refine hK.out _ _ (hbs hq) (fun Aa=>?_)
  clear hK K;refine M929 ?_;refine M933 ?_;refine zL0 V3 ?_ _;refine M9186 ?_;clear x0 hL2 yy hb HK hq z0 q0 q1 q2 q3 q4 Al hbs y2;intro x0 hL2 yy hb q0 q1 q2 q3 q4 hn3 hn2
  by_cases e0:nn=0
  .
   have hno:aK name false=false:=dF V66
   rw[e0]at q3 ⊢
   have he:Hid (cW (.mk 1 n mod name ks) d arg left=false):=cC (dD (.inr (.inr (.inr (.inl ⟨by decide,hno⟩)))))
   exact U266
  have e0':(0:Int)<(nn:Int):=V6;generalize hnb:aK name false=nb at *
  have HNB:Hid (aK name false=nb):=hnb
  clear hnb;go_wp2_with fail;refine hn3.mono ?_;rintro e w3 ⟨rfl,rfl⟩;clear hn3;cases nb
  .
   have he:Hid (cW (.mk 1 n mod name ks) d arg left=false):=cC (dD (.inr (.inr (.inr (.inl ⟨by decide,HNB.out⟩)))))
   exact U266
  by_cases em:nm=0
  rotate_left
  .
   have em':(0:Int)<(nm:Int):=V6
   have he:Hid (cW (.mk 1 n mod name ks) d arg left=false):=cC (dD (.inr (.inr (.inr (.inr (.inr (.inl ⟨by rw[HMO.out];exact em,by decide⟩)))))))
   exact U266
  refine M981 ?_;intro em' HEM;clear em
  by_cases n0:n=0
  rotate_left
  .
   have n0':(n != 0)=true:=by simpa using n0
   have he:Hid (cW (.mk 1 n mod name ks) d arg left=false):=cC (dD (.inr (.inr (.inl V43))))
   exact U266
  have n0':(n != 0)=false:=by simpa using n0
  have HNN:Hid (inB n (eT 1) (dB 1)=true):=by show _=_;rw[n0];decide
  clear n0
  have HE:Hid (cW (.mk 1 n mod name ks) d arg left=eR ks (d+1) false m):=by
   show _=_
   rw[fL (iT HI4.out.1 HI4.out.2 HNN.out (by rw[show dK 1=true from by decide];exact HNB.out) V108) (.inl V7) V26 V6,HMM.out]
   rfl
  have HD:Hid (fA (.mk 1 n mod name ks)=1+aG ks):=by show _=_;simp[fA]
  exact U271
 .
  refine zK3 (S:=fun wx=>(wx.cell? ⟨g,0,none⟩=some (.int .i64 m)/\wx.cell? ⟨gx,0,none⟩=some (.int .i64 2)/\wx.cell? ⟨gx,1,none⟩=some (.int .i64 n)/\wx.cell? ⟨gx,2,none⟩=some (.slice a2 nm c2)/\wx.cell? ⟨gx,3,none⟩=some (.slice a3 nn c3)/\wx.cell? ⟨gx,4,none⟩=some (.slice a4 ks.length c4))) V3 Al (fun Aa=>?_)
  refine M93 ?_;refine M926 ?_;refine M950 ?_;try simp only[nrm]
  refine ra 10 fun K hK=>?_
  go_simp;refine M983 ?_;intro w3 hq;go_wp2_with fail
  refine hK.out _ _ (hbs hq) (fun Aa=>?_)
  clear hK K;refine M929 ?_;refine M933 ?_;refine zL0 V3 ?_ _;refine M9186 ?_;clear x0 hL2 yy hb HK hq z0 q0 q1 q2 q3 q4 Al hbs y2;intro x0 hL2 yy hb q0 q1 q2 q3 q4 hn3 hn2
  by_cases e0:nn=0
  .
   have hno:aK name false=false:=dF V66
   rw[e0]at q3 ⊢
   have he:Hid (cW (.mk 2 n mod name ks) d arg left=false):=cC (dD (.inr (.inr (.inr (.inl ⟨by decide,hno⟩)))))
   exact U266
  have e0':(0:Int)<(nn:Int):=V6;generalize hnb:aK name false=nb at *
  have HNB:Hid (aK name false=nb):=hnb
  clear hnb;go_wp2_with fail;refine hn3.mono ?_;rintro e w3 ⟨rfl,rfl⟩;clear hn3;cases nb
  .
   have he:Hid (cW (.mk 2 n mod name ks) d arg left=false):=cC (dD (.inr (.inr (.inr (.inl ⟨by decide,HNB.out⟩)))))
   exact U266
  by_cases em:nm=0
  rotate_left
  .
   have em':(0:Int)<(nm:Int):=V6
   have he:Hid (cW (.mk 2 n mod name ks) d arg left=false):=cC (dD (.inr (.inr (.inr (.inr (.inr (.inl ⟨by rw[HMO.out];exact em,by decide⟩)))))))
   exact U266
  refine M981 ?_;intro em' HEM;clear em
  by_cases n0:n=0
  rotate_left
  .
   have n0':(n != 0)=true:=by simpa using n0
   have he:Hid (cW (.mk 2 n mod name ks) d arg left=false):=cC (dD (.inr (.inr (.inl V43))))
   exact U266
  have n0':(n != 0)=false:=by simpa using n0
  have HNN:Hid (inB n (eT 2) (dB 2)=true):=by show _=_;rw[n0];decide
  clear n0
  have HE:Hid (cW (.mk 2 n mod name ks) d arg left=eR ks (d+1) false m):=by
   show _=_
   rw[fL (iT HI4.out.1 HI4.out.2 HNN.out (by rw[show dK 2=true from by decide];exact HNB.out) V108) (.inl V7) V26 V6,HMM.out]
   rfl
  have HD:Hid (fA (.mk 2 n mod name ks)=1+aG ks):=by show _=_;simp[fA]
  refine M9106 ?_;intro HX0 HY HB3 HLF HRW HSK HSS hm0 hm1 hd2 hd3;go_wp2_with fail;clear q0 q1 q2 q3 q4 x0 yy hb hL2 h4
  go_loopw [10] (fun i wr=>∃j:Nat,j<=ks.length/\i=.int .i64 j/\Hid (w3.grownBy wr (some g))/\Hid (Lft wr g (m-(aG (ks.take j):Int)))/\Hid ((aG (ks.take j):Int)<=m)/\Hid (∀i x,i<j->ks[i]?=some x->cW x (d+1) false (m-(aG (ks.take i):Int))=true)) (fun i _=>ks.length-(intOf i).toNat)
  case atStart=>exact⟨0,zD1 _,rfl,aN0 _ _,HLF,by show(_:Int)<=_;simp[aG];omega,by show ∀_ _,_;omega⟩
  case round=>
   obtain⟨j,hj,rfl,Bk,hLj,hnj,Bc⟩:=hrel;clear HLF;have x0:=Blk.grown HX0.out Bk.out An;have q0:=x0.k 0;have q4:=x0.k 4;have hb:=bZ HB3.out Bk.out hg
   by_cases Ai:j<ks.length
   .
    obtain⟨b4,o4,rfl⟩:=aS.addr HRW.out V25
    obtain⟨x,hx⟩:∃x,ks[j]?=some x:=⟨ks[j],zA0 _⟩
    have Ak:(exs ks)[j]?=some x.fl:=by rw[aJ,zA2,hx];rfl
    obtain⟨us,Ad,Ab⟩:=(aS.el HRW.out Ak).vals;obtain⟨u0,u1,u2,u3,u4,rfl⟩:=eO (Ad.len.trans (cE x))
    have hc0:w0.cell? ⟨b4,o4+j*5,none⟩=some u0:=Ab 0 _ rfl
    refine M9195 ?_;clear Ab;intro Ab t0 t1 t2 t3 t4 hmem hsx hbd hLd HC HJ HNX;clear Ab hx Ak hmem hsx Ad hbd hLd;generalize hsp:cW x (d+1) false (m-(aG (ks.take j):Int))=rr at *
    have HSP:Hid (cW x (d+1) false (m-(aG (ks.take j):Int))=rr):=hsp
    clear hsp
    have hb4:b4 ≠ g:=by
     have:=zJ1 w0 _ hc0
     simp only at this
     omega
    have Al:(wr.drew.cell? ⟨gx,0,none⟩=some (.int .i64 2)/\wr.drew.cell? ⟨gx,4,none⟩=some (.slice (some ⟨b4,o4,none⟩) ks.length c4)/\wr.drew.cell? ⟨b4,o4+j*5,none⟩=some u0/\wr.drew.cell? ⟨b4,o4+j*5+1,none⟩=some u1/\wr.drew.cell? ⟨b4,o4+j*5+2,none⟩=some u2/\wr.drew.cell? ⟨b4,o4+j*5+3,none⟩=some u3/\wr.drew.cell? ⟨b4,o4+j*5+4,none⟩=some u4):=⟨q0,q4,t0,t1,t2,t3,t4⟩
    have hbs:∀{wl:World},wr.drew.grownBy wl (some g)->(wl.cell? ⟨gx,0,none⟩=some (.int .i64 2)/\wl.cell? ⟨gx,4,none⟩=some (.slice (some ⟨b4,o4,none⟩) ks.length c4)/\wl.cell? ⟨b4,o4+j*5,none⟩=some u0/\wl.cell? ⟨b4,o4+j*5+1,none⟩=some u1/\wl.cell? ⟨b4,o4+j*5+2,none⟩=some u2/\wl.cell? ⟨b4,o4+j*5+3,none⟩=some u3/\wl.cell? ⟨b4,o4+j*5+4,none⟩=some u4):=fun hq=>⟨cH Al.1 hq An,cH Al.2.1 hq An,cH Al.2.2.1 hq hb4,cH Al.2.2.2.1 hq hb4,cH Al.2.2.2.2.1 hq hb4,cH Al.2.2.2.2.2.1 hq hb4,cH Al.2.2.2.2.2.2 hq hb4⟩
    have z5:(0:Int)<=(j:Int):=V6
    have z7:IntKind.i64.wrap (d+1)=d+1:=by rw[IntKind.wrap_i64];omega
    have z6:(j:Int)<(ks.length:Int):=V6;go_upto_region 21 with fail
    go_region_held3 (fun wx=>(wx.cell? ⟨gx,0,none⟩=some (.int .i64 2)/\wx.cell? ⟨gx,4,none⟩=some (.slice (some ⟨b4,o4,none⟩) ks.length c4)/\wx.cell? ⟨b4,o4+j*5,none⟩=some u0/\wx.cell? ⟨b4,o4+j*5+1,none⟩=some u1/\wx.cell? ⟨b4,o4+j*5+2,none⟩=some u2/\wx.cell? ⟨b4,o4+j*5+3,none⟩=some u3/\wx.cell? ⟨b4,o4+j*5+4,none⟩=some u4)) (first|exact Al|exact HSl) (first
     | (go_at_call 190;(with_reducible refine HC.mono ?_);rintro e w4 ⟨rfl,Bg,hL4⟩;have HSl:=hbs Bg))
    clear HSl hbs Al;refine M9250 ?_;intro HG4 HL4;clear HC t0 t1 t2 t3 t4 q0 q4 x0 hb Bg hL4;cases rr
    .
     have he:Hid (cW (.mk 2 n mod name ks) d arg left=false):=by show _=_;rw[HE.out];exact fF HJ.out HSP.out
     have hyy:=aD HY.out HG4.out;exact U277
    .
     exact U264
   .
    have:j=ks.length:=V6
    subst this
    have he:Hid (cW (.mk 2 n mod name ks) d arg left=true):=by
     show _=_
     rw[HE.out]
     exact dW (fun i y hy=>Bc.out i y (zC1.1 hy).1 hy) hm0
    exact U281
 .
  refine zK3 (S:=fun wx=>(wx.cell? ⟨g,0,none⟩=some (.int .i64 m)/\wx.cell? ⟨gx,0,none⟩=some (.int .i64 3)/\wx.cell? ⟨gx,1,none⟩=some (.int .i64 n)/\wx.cell? ⟨gx,2,none⟩=some (.slice a2 nm c2)/\wx.cell? ⟨gx,3,none⟩=some (.slice a3 nn c3)/\wx.cell? ⟨gx,4,none⟩=some (.slice a4 ks.length c4))) V3 Al (fun Aa=>?_)
  refine M93 ?_;refine M926 ?_;refine M950 ?_;try simp only[nrm]
  refine ra 10 fun K hK=>?_
  go_simp;refine M983 ?_;intro w3 hq;go_wp2_with fail
  refine hK.out _ _ (hbs hq) (fun Aa=>?_)
  clear hK K;refine M929 ?_;refine M933 ?_;refine zL0 V3 ?_ _;refine M9186 ?_;clear x0 hL2 yy hb HK hq z0 q0 q1 q2 q3 q4 Al hbs y2;intro x0 hL2 yy hb q0 q1 q2 q3 q4 hn3 hn2
  by_cases e0:nn=0
  rotate_left
  .
   have e0':(0:Int)<(nn:Int):=V6
   have he:Hid (cW (.mk 3 n mod name ks) d arg left=false):=cC (dD (.inr (.inr (.inr (.inr (.inl ⟨by decide,by rw[HNA.out];exact e0⟩))))))
   exact U266
  have e0':¬(0:Int)<(nn:Int):=V6
  have HE0:Hid (name.length=0):=HNA.out.trans e0
  clear e0
  by_cases em:nm=0
  rotate_left
  .
   have em':(0:Int)<(nm:Int):=V6
   have he:Hid (cW (.mk 3 n mod name ks) d arg left=false):=cC (dD (.inr (.inr (.inr (.inr (.inr (.inl ⟨by rw[HMO.out];exact em,by decide⟩)))))))
   exact U266
  refine M981 ?_;intro em' HEM;clear em
  by_cases n0:n<0
  .
   have he:Hid (cW (.mk 3 n mod name ks) d arg left=false):=cC (dD (.inr (.inr (.inl V43))))
   exact U266
  by_cases n5:5<n
  .
   have he:Hid (cW (.mk 3 n mod name ks) d arg left=false):=cC (dD (.inr (.inr (.inl V43))))
   exact U266
  have HNN:Hid (inB n (eT 3) (dB 3)=true):=by show _=_;simp[inB,eT,dB];omega
  have HE:Hid (cW (.mk 3 n mod name ks) d arg left=eR ks (d+1) false m):=by
   show _=_
   rw[fL (iT HI4.out.1 HI4.out.2 HNN.out (by rw[show dK 3=false from by decide];exact zB3 HE0.out) V108) (.inl V7) V26 V6,HMM.out]
   rfl
  have HD:Hid (fA (.mk 3 n mod name ks)=1+aG ks):=by show _=_;simp[fA]
  refine M9106 ?_;intro HX0 HY HB3 HLF HRW HSK HSS hm0 hm1 hd2 hd3;go_wp2_with fail;clear q0 q1 q2 q3 q4 x0 yy hb hL2 h4
  go_loopw [10] (fun i wr=>∃j:Nat,j<=ks.length/\i=.int .i64 j/\Hid (w3.grownBy wr (some g))/\Hid (Lft wr g (m-(aG (ks.take j):Int)))/\Hid ((aG (ks.take j):Int)<=m)/\Hid (∀i x,i<j->ks[i]?=some x->cW x (d+1) false (m-(aG (ks.take i):Int))=true)) (fun i _=>ks.length-(intOf i).toNat)
  case atStart=>exact⟨0,zD1 _,rfl,aN0 _ _,HLF,by show(_:Int)<=_;simp[aG];omega,by show ∀_ _,_;omega⟩
  case round=>
   obtain⟨j,hj,rfl,Bk,hLj,hnj,Bc⟩:=hrel;clear HLF;have x0:=Blk.grown HX0.out Bk.out An;have q0:=x0.k 0;have q4:=x0.k 4;have hb:=bZ HB3.out Bk.out hg
   by_cases Ai:j<ks.length
   .
    obtain⟨b4,o4,rfl⟩:=aS.addr HRW.out V25
    obtain⟨x,hx⟩:∃x,ks[j]?=some x:=⟨ks[j],zA0 _⟩
    have Ak:(exs ks)[j]?=some x.fl:=by rw[aJ,zA2,hx];rfl
    obtain⟨us,Ad,Ab⟩:=(aS.el HRW.out Ak).vals;obtain⟨u0,u1,u2,u3,u4,rfl⟩:=eO (Ad.len.trans (cE x))
    have hc0:w0.cell? ⟨b4,o4+j*5,none⟩=some u0:=Ab 0 _ rfl
    refine M9195 ?_;clear Ab;intro Ab t0 t1 t2 t3 t4 hmem hsx hbd hLd HC HJ HNX;clear Ab hx Ak hmem hsx Ad hbd hLd;generalize hsp:cW x (d+1) false (m-(aG (ks.take j):Int))=rr at *
    have HSP:Hid (cW x (d+1) false (m-(aG (ks.take j):Int))=rr):=hsp
    clear hsp
    have hb4:b4 ≠ g:=by
     have:=zJ1 w0 _ hc0
     simp only at this
     omega
    have Al:(wr.drew.cell? ⟨gx,0,none⟩=some (.int .i64 3)/\wr.drew.cell? ⟨gx,4,none⟩=some (.slice (some ⟨b4,o4,none⟩) ks.length c4)/\wr.drew.cell? ⟨b4,o4+j*5,none⟩=some u0/\wr.drew.cell? ⟨b4,o4+j*5+1,none⟩=some u1/\wr.drew.cell? ⟨b4,o4+j*5+2,none⟩=some u2/\wr.drew.cell? ⟨b4,o4+j*5+3,none⟩=some u3/\wr.drew.cell? ⟨b4,o4+j*5+4,none⟩=some u4):=⟨q0,q4,t0,t1,t2,t3,t4⟩
    have hbs:∀{wl:World},wr.drew.grownBy wl (some g)->(wl.cell? ⟨gx,0,none⟩=some (.int .i64 3)/\wl.cell? ⟨gx,4,none⟩=some (.slice (some ⟨b4,o4,none⟩) ks.length c4)/\wl.cell? ⟨b4,o4+j*5,none⟩=some u0/\wl.cell? ⟨b4,o4+j*5+1,none⟩=some u1/\wl.cell? ⟨b4,o4+j*5+2,none⟩=some u2/\wl.cell? ⟨b4,o4+j*5+3,none⟩=some u3/\wl.cell? ⟨b4,o4+j*5+4,none⟩=some u4):=fun hq=>⟨cH Al.1 hq An,cH Al.2.1 hq An,cH Al.2.2.1 hq hb4,cH Al.2.2.2.1 hq hb4,cH Al.2.2.2.2.1 hq hb4,cH Al.2.2.2.2.2.1 hq hb4,cH Al.2.2.2.2.2.2 hq hb4⟩
    have z5:(0:Int)<=(j:Int):=V6
    have z7:IntKind.i64.wrap (d+1)=d+1:=by rw[IntKind.wrap_i64];omega
    have z6:(j:Int)<(ks.length:Int):=V6;go_upto_region 21 with fail
    go_region_held3 (fun wx=>(wx.cell? ⟨gx,0,none⟩=some (.int .i64 3)/\wx.cell? ⟨gx,4,none⟩=some (.slice (some ⟨b4,o4,none⟩) ks.length c4)/\wx.cell? ⟨b4,o4+j*5,none⟩=some u0/\wx.cell? ⟨b4,o4+j*5+1,none⟩=some u1/\wx.cell? ⟨b4,o4+j*5+2,none⟩=some u2/\wx.cell? ⟨b4,o4+j*5+3,none⟩=some u3/\wx.cell? ⟨b4,o4+j*5+4,none⟩=some u4)) (first|exact Al|exact HSl) (first
     | (go_at_call 190;(with_reducible refine HC.mono ?_);rintro e w4 ⟨rfl,Bg,hL4⟩;have HSl:=hbs Bg))
    clear HSl hbs Al;refine M9250 ?_;intro HG4 HL4;clear HC t0 t1 t2 t3 t4 q0 q4 x0 hb Bg hL4;cases rr
    .
     have he:Hid (cW (.mk 3 n mod name ks) d arg left=false):=by show _=_;rw[HE.out];exact fF HJ.out HSP.out
     have hyy:=aD HY.out HG4.out;exact U277
    .
     exact U264
   .
    have:j=ks.length:=V6
    subst this
    have he:Hid (cW (.mk 3 n mod name ks) d arg left=true):=by
     show _=_
     rw[HE.out]
     exact dW (fun i y hy=>Bc.out i y (zC1.1 hy).1 hy) hm0
    exact U281
 .
  refine zK3 (S:=fun wx=>(wx.cell? ⟨g,0,none⟩=some (.int .i64 m)/\wx.cell? ⟨gx,0,none⟩=some (.int .i64 4)/\wx.cell? ⟨gx,1,none⟩=some (.int .i64 n)/\wx.cell? ⟨gx,2,none⟩=some (.slice a2 nm c2)/\wx.cell? ⟨gx,3,none⟩=some (.slice a3 nn c3)/\wx.cell? ⟨gx,4,none⟩=some (.slice a4 ks.length c4))) V3 Al (fun Aa=>?_)
  refine M93 ?_;refine M926 ?_;refine M950 ?_;try simp only[nrm]
  refine ra 10 fun K hK=>?_
  go_simp;refine M983 ?_;intro w3 hq;go_wp2_with fail
  refine hK.out _ _ (hbs hq) (fun Aa=>?_)
  clear hK K;refine M929 ?_;refine M933 ?_;refine zL0 V3 ?_ _;refine M9186 ?_;clear x0 hL2 yy hb HK hq z0 q0 q1 q2 q3 q4 Al hbs y2;intro x0 hL2 yy hb q0 q1 q2 q3 q4 hn3 hn2
  by_cases e0:nn=0
  rotate_left
  .
   have e0':(0:Int)<(nn:Int):=V6
   have he:Hid (cW (.mk 4 n mod name ks) d arg left=false):=cC (dD (.inr (.inr (.inr (.inr (.inl ⟨by decide,by rw[HNA.out];exact e0⟩))))))
   exact U266
  have e0':¬(0:Int)<(nn:Int):=V6
  have HE0:Hid (name.length=0):=HNA.out.trans e0
  clear e0
  by_cases em:nm=0
  rotate_left
  .
   have em':(0:Int)<(nm:Int):=V6
   have he:Hid (cW (.mk 4 n mod name ks) d arg left=false):=cC (dD (.inr (.inr (.inr (.inr (.inr (.inl ⟨by rw[HMO.out];exact em,by decide⟩)))))))
   exact U266
  refine M981 ?_;intro em' HEM;clear em
  by_cases n0:n=0
  rotate_left
  .
   have n0':(n != 0)=true:=by simpa using n0
   have he:Hid (cW (.mk 4 n mod name ks) d arg left=false):=cC (dD (.inr (.inr (.inl V43))))
   exact U266
  have n0':(n != 0)=false:=by simpa using n0
  have HNN:Hid (inB n (eT 4) (dB 4)=true):=by show _=_;rw[n0];decide
  clear n0
  have HE:Hid (cW (.mk 4 n mod name ks) d arg left=eR ks (d+1) false m):=by
   show _=_
   rw[fL (iT HI4.out.1 HI4.out.2 HNN.out (by rw[show dK 4=false from by decide];exact zB3 HE0.out) V108) (.inl V7) V26 V6,HMM.out]
   rfl
  have HD:Hid (fA (.mk 4 n mod name ks)=1+aG ks):=by show _=_;simp[fA]
  exact U271
 .
  refine zK3 (S:=fun wx=>(wx.cell? ⟨g,0,none⟩=some (.int .i64 m)/\wx.cell? ⟨gx,0,none⟩=some (.int .i64 5)/\wx.cell? ⟨gx,1,none⟩=some (.int .i64 n)/\wx.cell? ⟨gx,2,none⟩=some (.slice a2 nm c2)/\wx.cell? ⟨gx,3,none⟩=some (.slice a3 nn c3)/\wx.cell? ⟨gx,4,none⟩=some (.slice a4 ks.length c4))) V3 Al (fun Aa=>?_)
  refine M93 ?_;refine M926 ?_;refine M950 ?_;try simp only[nrm]
  refine ra 10 fun K hK=>?_
  go_simp;refine M983 ?_;intro w3 hq;go_wp2_with fail
  refine hK.out _ _ (hbs hq) (fun Aa=>?_)
  clear hK K;refine M929 ?_;refine M933 ?_;refine zL0 V3 ?_ _;refine M9186 ?_;clear x0 hL2 yy hb HK hq z0 q0 q1 q2 q3 q4 Al hbs y2;intro x0 hL2 yy hb q0 q1 q2 q3 q4 hn3 hn2
  by_cases e0:nn=0
  .
   have hno:aK name false=false:=dF V66
   rw[e0]at q3 ⊢
   have he:Hid (cW (.mk 5 n mod name ks) d arg left=false):=cC (dD (.inr (.inr (.inr (.inl ⟨by decide,hno⟩)))))
   exact U266
  have e0':(0:Int)<(nn:Int):=V6;generalize hnb:aK name false=nb at *
  have HNB:Hid (aK name false=nb):=hnb
  clear hnb;go_wp2_with fail;refine hn3.mono ?_;rintro e w3 ⟨rfl,rfl⟩;clear hn3;cases nb
  .
   have he:Hid (cW (.mk 5 n mod name ks) d arg left=false):=cC (dD (.inr (.inr (.inr (.inl ⟨by decide,HNB.out⟩)))))
   exact U266
  by_cases em:nm=0
  rotate_left
  .
   have em':(0:Int)<(nm:Int):=V6
   have he:Hid (cW (.mk 5 n mod name ks) d arg left=false):=cC (dD (.inr (.inr (.inr (.inr (.inr (.inl ⟨by rw[HMO.out];exact em,by decide⟩)))))))
   exact U266
  refine M981 ?_;intro em' HEM;clear em
  by_cases n0:n=0
  rotate_left
  .
   have n0':(n != 0)=true:=by simpa using n0
   have he:Hid (cW (.mk 5 n mod name ks) d arg left=false):=cC (dD (.inr (.inr (.inl V43))))
   exact U266
  have n0':(n != 0)=false:=by simpa using n0
  have HNN:Hid (inB n (eT 5) (dB 5)=true):=by show _=_;rw[n0];decide
  clear n0
  have HE:Hid (cW (.mk 5 n mod name ks) d arg left=eR ks (d+1) false m):=by
   show _=_
   rw[fL (iT HI4.out.1 HI4.out.2 HNN.out (by rw[show dK 5=true from by decide];exact HNB.out) V108) (.inl V7) V26 V6,HMM.out]
   rfl
  have HD:Hid (fA (.mk 5 n mod name ks)=1+aG ks):=by show _=_;simp[fA]
  exact U271
 .
  refine zK3 (S:=fun wx=>(wx.cell? ⟨g,0,none⟩=some (.int .i64 m)/\wx.cell? ⟨gx,0,none⟩=some (.int .i64 6)/\wx.cell? ⟨gx,1,none⟩=some (.int .i64 n)/\wx.cell? ⟨gx,2,none⟩=some (.slice a2 nm c2)/\wx.cell? ⟨gx,3,none⟩=some (.slice a3 nn c3)/\wx.cell? ⟨gx,4,none⟩=some (.slice a4 ks.length c4))) V3 Al (fun Aa=>?_)
  refine M93 ?_;refine M926 ?_;refine M950 ?_;try simp only[nrm]
  refine ra 10 fun K hK=>?_
  go_simp;refine M983 ?_;intro w3 hq;go_wp2_with fail
  refine hK.out _ _ (hbs hq) (fun Aa=>?_)
  clear hK K;refine M929 ?_;refine M933 ?_;refine zL0 V3 ?_ _;refine M9186 ?_;clear x0 hL2 yy hb HK hq z0 q0 q1 q2 q3 q4 Al hbs y2;intro x0 hL2 yy hb q0 q1 q2 q3 q4 hn3 hn2
  by_cases e0:nn=0
  .
   have hno:aK name false=false:=dF V66
   rw[e0]at q3 ⊢
   have he:Hid (cW (.mk 6 n mod name ks) d arg left=false):=cC (dD (.inr (.inr (.inr (.inl ⟨by decide,hno⟩)))))
   exact U266
  have e0':(0:Int)<(nn:Int):=V6;generalize hnb:aK name false=nb at *
  have HNB:Hid (aK name false=nb):=hnb
  clear hnb;go_wp2_with fail;refine hn3.mono ?_;rintro e w3 ⟨rfl,rfl⟩;clear hn3;cases nb
  .
   have he:Hid (cW (.mk 6 n mod name ks) d arg left=false):=cC (dD (.inr (.inr (.inr (.inl ⟨by decide,HNB.out⟩)))))
   exact U266
  by_cases em:nm=0
  .
   refine M981 ?_;intro em' HEM;clear em
   by_cases n0:n=0
   rotate_left
   .
    have n0':(n != 0)=true:=by simpa using n0
    have he:Hid (cW (.mk 6 n mod name ks) d arg left=false):=cC (dD (.inr (.inr (.inl V43))))
    exact U266
   have n0':(n != 0)=false:=by simpa using n0
   have HNN:Hid (inB n (eT 6) (dB 6)=true):=by show _=_;rw[n0];decide
   clear n0
   have HE:Hid (cW (.mk 6 n mod name ks) d arg left=eR ks (d+1) true m):=by
    show _=_
    rw[fL (iT HI4.out.1 HI4.out.2 HNN.out V77 V108) (.inl V7) V26 V6,HMM.out]
    rfl
   exact U263
  .
   have em':(0:Int)<(nm:Int):=V6;generalize hmb:aK mod true=mb at *
   have HMB:Hid (aK mod true=mb):=hmb
   clear hmb;go_wp2_with fail;refine hn2.mono ?_;rintro e w3 ⟨rfl,rfl⟩;clear hn2;cases mb
   .
    have he:Hid (cW (.mk 6 n mod name ks) d arg left=false):=cC (dD (.inr (.inr (.inr (.inr (.inr (.inr ⟨by rw[HMO.out];exact em,HMB.out⟩)))))))
    exact U266
   by_cases n0:n=0
   rotate_left
   .
    have n0':(n != 0)=true:=by simpa using n0
    have he:Hid (cW (.mk 6 n mod name ks) d arg left=false):=cC (dD (.inr (.inr (.inl V43))))
    exact U266
   have n0':(n != 0)=false:=by simpa using n0
   have HNN:Hid (inB n (eT 6) (dB 6)=true):=by show _=_;rw[n0];decide
   clear n0
   have HE:Hid (cW (.mk 6 n mod name ks) d arg left=eR ks (d+1) true m):=by
    show _=_
    rw[fL (iT HI4.out.1 HI4.out.2 HNN.out V77 (by rw[HMB.out];simp)) (.inl V7) V26 V6,HMM.out]
    rfl
   exact U263
 .
  cases arg
  .
   have he:Hid (cW (.mk 7 n mod name ks) d false left=false):=aEc
   clear HI4
   refine zK3 (S:=fun wx=>(wx.cell? ⟨g,0,none⟩=some (.int .i64 m)/\wx.cell? ⟨gx,0,none⟩=some (.int .i64 7)/\wx.cell? ⟨gx,1,none⟩=some (.int .i64 n)/\wx.cell? ⟨gx,2,none⟩=some (.slice a2 nm c2)/\wx.cell? ⟨gx,3,none⟩=some (.slice a3 nn c3)/\wx.cell? ⟨gx,4,none⟩=some (.slice a4 ks.length c4))) V3 Al (fun Aa=>?_)
   refine M93 ?_;refine M926 ?_;refine M950 ?_;try simp only[nrm]
   refine ra 10 fun K hK=>?_
   go_simp;refine M983 ?_;intro w3 hq;go_wp2_with fail
   refine hK.out _ _ (hbs hq) (fun Aa=>?_)
   clear hK K;refine M929 ?_;refine ta 17 ?_;refine ta 18 ?_;refine ta 19 ?_;try simp only[nrm]
   refine ta 20 ?_;refine ta 21 ?_;refine ta 22 ?_;try simp only[nrm]
   refine ta 23 ?_;exact U342
  refine zK3 (S:=fun wx=>(wx.cell? ⟨g,0,none⟩=some (.int .i64 m)/\wx.cell? ⟨gx,0,none⟩=some (.int .i64 7)/\wx.cell? ⟨gx,1,none⟩=some (.int .i64 n)/\wx.cell? ⟨gx,2,none⟩=some (.slice a2 nm c2)/\wx.cell? ⟨gx,3,none⟩=some (.slice a3 nn c3)/\wx.cell? ⟨gx,4,none⟩=some (.slice a4 ks.length c4))) V3 Al (fun Aa=>?_)
  refine M93 ?_;refine M926 ?_;refine M950 ?_;try simp only[nrm]
  refine ra 10 fun K hK=>?_
  go_simp;refine M983 ?_;intro w3 hq;go_wp2_with fail
  refine hK.out _ _ (hbs hq) (fun Aa=>?_)
  clear hK K;refine M929 ?_;refine ta 17 ?_;refine ta 18 ?_;refine ta 19 ?_;try simp only[nrm]
  refine ta 20 ?_;try simp only[nrm]
  refine ta 21 ?_;refine ta 22 ?_;try simp only[nrm]
  refine ta 23 ?_;refine ta 24 ?_;try simp only[nrm]
  refine zL0 V3 ?_ _;refine M9186 ?_;clear x0 hL2 yy hb HK hq z0 q0 q1 q2 q3 q4 Al hbs y2;intro x0 hL2 yy hb q0 q1 q2 q3 q4 hn3 hn2
  by_cases e0:nn=0
  .
   have hno:aK name false=false:=dF V66
   rw[e0]at q3 ⊢
   have he:Hid (cW (.mk 7 n mod name ks) d true left=false):=cC (dD (.inr (.inr (.inr (.inl ⟨by decide,hno⟩)))))
   exact U266
  have e0':(0:Int)<(nn:Int):=V6;generalize hnb:aK name false=nb at *
  have HNB:Hid (aK name false=nb):=hnb
  clear hnb;go_wp2_with fail;refine hn3.mono ?_;rintro e w3 ⟨rfl,rfl⟩;clear hn3;cases nb
  .
   have he:Hid (cW (.mk 7 n mod name ks) d true left=false):=cC (dD (.inr (.inr (.inr (.inl ⟨by decide,HNB.out⟩)))))
   exact U266
  by_cases em:nm=0
  rotate_left
  .
   have em':(0:Int)<(nm:Int):=V6
   have he:Hid (cW (.mk 7 n mod name ks) d true left=false):=cC (dD (.inr (.inr (.inr (.inr (.inr (.inl ⟨by rw[HMO.out];exact em,by decide⟩)))))))
   exact U266
  refine M981 ?_;intro em' HEM;clear em
  by_cases n0:n=0
  rotate_left
  .
   have n0':(n != 0)=true:=by simpa using n0
   have he:Hid (cW (.mk 7 n mod name ks) d true left=false):=cC (dD (.inr (.inr (.inl V43))))
   exact U266
  have n0':(n != 0)=false:=by simpa using n0
  have HNN:Hid (inB n (eT 7) (dB 7)=true):=by show _=_;rw[n0];decide
  clear n0
  have HE:Hid (cW (.mk 7 n mod name ks) d true left=eR ks (d+1) false m):=by
   show _=_
   rw[fL (iT HI4.out.1 HI4.out.2 HNN.out (by rw[show dK 7=true from by decide];exact HNB.out) V108) (.inr rfl) V26 V6,HMM.out]
   rfl
  have HD:Hid (fA (.mk 7 n mod name ks)=1+aG ks):=by show _=_;simp[fA]
  exact U271
mutual
theorem aLp:∀x:Ex,aFw x
 | .mk k n m a ks=>aLq k n m a ks (aA9 ks)
theorem aA9:∀(l:List Ex),∀x ∈ l,aFw x
 | [],x,h=>by simp at h
 | y :: l,x,h=>by
  rcases zH0.1 h with h|h
  .
   rw[h];exact aLp y
  .
   exact aA9 l x h
end
end Go.Proofs.YtegkhlkjfeafjaaGreatDoor
