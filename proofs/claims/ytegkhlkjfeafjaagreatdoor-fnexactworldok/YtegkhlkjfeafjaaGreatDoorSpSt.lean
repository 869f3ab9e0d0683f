import Derived.Test.YtegkhlkjfeafjaaGreatDoorSpEx
namespace Go.Proofs.YtegkhlkjfeafjaaGreatDoor
open Go.RowKit
set_option linter.unusedVariables false
set_option linter.unusedSimpArgs false
set_option maxRecDepth 100000
theorem V104{p:Prop}(h:p:=by have:=(zC1.1 hy).1;rw[Bn.out]at this;exact this):p:=h
theorem V107{p:Prop}(h:p:=by rw[Bn.out];exact zB0 _):p:=h
theorem V39{p:Prop}(h:p:=by rw[Bn.out];exact Ai):p:=h
theorem V51{p:Prop}(h:p:=by simp[inB,dA];omega):p:=h
theorem U272{p:Prop}(h:p:=by
 clear HC q5
 go_wp2
 go_ret
 rw[he.out]
 exact⟨rfl,aD hyy hg5,fun h=>by
  have:=hL6 h
  rw[HD.out,show left-((1+(aG ks+aW bs+aW es):Nat):Int)=m-(aG ks:Int)-(aW bs:Int)-(aW es:Int) by have:=HMM.out;omega]
  exact this⟩):p:=h
theorem U62{p:Prop}(h:p:=by
 show _=_
 rw[iF HLC.out HCC.out V26 V6,HMM.out]):p:=h
theorem M9183{p q:Prop}(k:q)(h:Kx q->p:=by
 intro kQ
 replace Ab:∀i v,_->_:=fun i v hv=>aB (Ab i v hv) hb
 have t0:wr.cell? ⟨b3,o3+j*5,none⟩=some u0:=Ab 0 _ rfl
 have t1:wr.cell? ⟨b3,o3+j*5+1,none⟩=some u1:=Ab 1 _ rfl
 have t2:wr.cell? ⟨b3,o3+j*5+2,none⟩=some u2:=Ab 2 _ rfl
 have t3:wr.cell? ⟨b3,o3+j*5+3,none⟩=some u3:=Ab 3 _ rfl
 have t4:wr.cell? ⟨b3,o3+j*5+4,none⟩=some u4:=Ab 4 _ rfl
 have hsx:=zF2 (bK (zA3 Ak)) hs2
 have HC:=S3 x (zA3 hx) w0 wr [u0,u1,u2,u3,u4] g (m-(aG (ks.take j):Int)) (d+1) false Ad hb hg hLj.out V31 V6 hd3 hd2 hsx
 simp only[agg]at HC
 have HJ:=hid hx
 have HNX:=hid (cQ hx)
 revert HNX;revert HJ;revert HC;revert hsx;revert t4;revert t3;revert t2;revert t1;revert t0;revert Ab
 exact kQ.o):p:=h ⟨k⟩
theorem M920{p q:Prop}(k:q)(h:Kx q->p:=by
 intro kQ
 have HX0:Hid _:=x0
 have HY:Hid (w.grownBy w2 (some g)):=yy
 have HB3:Hid (Below w0.heap.size w0 w2):=hb
 have HLF:Hid (Lft w2 g (m-(aG (ks.take 0):Int))):=by show Lft _ _ _;simpa [aG] using hL2
 have HRW:=hid h3
 have HRB:=hid h4
 have HRE:=hid h5
 have hm0:0<=m:=V6
 have hm1:m<=250:=by have:=HMM.out;omega
 have hd2:d+1<=17:=V6
 have hd3:0<=d+1:=V6
 revert hd3;revert hd2;revert hm1;revert hm0;revert HRE;revert HRB;revert HRW;revert HLF;revert HB3;revert HY;revert HX0
 exact kQ.o):p:=h ⟨k⟩
theorem M9190{p q:Prop}(k:q)(h:Kx q->p:=by
 intro kQ
 have HSE:Hid (eR ks (d+1) false m=true):=dW (fun i y hy=>Bc.out i y V104 hy) hm0
 have hle3:=hH HSE.out
 have hLf:=hLj.out
 rw[zD3 V107]at hLf
 have hyy:=aD HY.out Bk.out
 have q4:=x0.k 4
 have q5:=x0.k 5
 have HC:=S4 w0 wr a4 c4 g (m-(aG ks:Int)) (d+1) HRB.out hb hg hLf V6 V6 hd3 hd2 hs3
 revert HC;revert q5;revert q4;revert hyy;revert hLf;revert hle3;revert HSE
 exact kQ.o):p:=h ⟨k⟩
theorem M9191{p q:Prop}(k:q)(h:Kx q->p:=by
 intro kQ
 have hle4:=eP HS4.out
 have hL5:=hL4 rfl
 have q5:=x0.k 5
 have HC:=S5 w0 w4 a5 c5 g (m-(aG ks:Int)-(aW bs:Int)) (d+1) HRE.out hb hg hL5 V6 V6 hd3 hd2 hs4
 rw[Bh.out,show ne=0 by omega]at HC
 revert HC;revert q5;revert hL5;revert hle4
 exact kQ.o):p:=h ⟨k⟩
theorem M9192{p q:Prop}(k:q)(h:Kx q->p:=by
 intro kQ
 obtain⟨x,hx⟩:∃x,ks[j]?=some x:=⟨ks[j]' V39,zA0 _⟩
 have Ak:(exs ks)[j]?=some x.fl:=by rw[aJ,zA2,hx];rfl
 obtain⟨us,Ad,Ab⟩:=(aS.el HRW.out Ak).vals
 revert Ab;revert Ad;revert us;revert Ak;revert hx;revert x
 exact kQ.o):p:=h ⟨k⟩
theorem M953{p q:Prop}(k:q)(h:Kx q->p:=by
 intro kQ
 refine HC.mono ?_
 rintro e w4 ⟨rfl,Bg,hL4⟩
 replace x0:=x0.grown Bg An
 replace hb:=bZ hb Bg hg
 replace hyy:=aD hyy Bg
 revert hyy;revert hb;revert x0;revert hL4;revert Bg;revert w4
 exact kQ.o):p:=h ⟨k⟩
theorem M964{p q:Prop}(k:q)(h:Kx q->p:=by
 intro kQ
 refine HC.mono ?_
 rintro e w4 ⟨rfl,Bg,hL4⟩
 have HG4:=hid (aD Bk.out Bg)
 have HL4:=hid hL4
 revert HL4;revert HG4;revert hL4;revert Bg;revert w4
 exact kQ.o):p:=h ⟨k⟩
theorem M9206{p q:Prop}(k:q)(h:Kx q->p:=by
 intro kQ
 have x0:=Blk.grown HX0.out Bk.out An
 have q3:=x0.k 3
 have hb:=bZ HB3.out Bk.out hg
 revert hb;revert q3;revert x0
 exact kQ.o):p:=h ⟨k⟩
theorem M9212{p q:Prop}(k:q)(h:Kx q->p:=by
 intro kQ
 have e0':¬(0:Int)<(nn:Int):=V6
 have HE0:=hid (HNA.out.trans e0)
 have HKN:Hid _:=hkn
 revert HKN;revert HE0;revert e0'
 exact kQ.o):p:=h ⟨k⟩
theorem M998{p q:Prop}(k:q)(h:Kx q->p:=by
 intro kQ
 have c1':((1:Int) != (nk:Int))=false:=by simp;omega
 have HC1:=hid c1
 have hkn:nk=1:=V6
 revert hkn;revert HC1;revert c1'
 exact kQ.o):p:=h ⟨k⟩
def aLg (x:St):Prop:=∀(w0 w:World) (vs:List Value) (g:Nat) (left d:Int),aO w0 x.fl vs->Below w0.heap.size w0 w->w0.heap.size<=g->Lft w g left->0<=left->left<=250->0<=d->d<=17->aH x.fl<=1048576 →
 Calls Tryz.prog 163 #[agg vs,.int .i64 d,.pointer (some ⟨g,0,none⟩)] w fun e w'=>e=.returned (.bool (bL x d left))/\w.grownBy w' (some g)/\(bL x d left=true->Lft w' g (left-(kX x:Int)))
def aFv (l:List St):Prop:=∀(w0 w:World) (a:Option Addr) (c g:Nat) (left d:Int),aS w0 a c 6 (sts l)->Below w0.heap.size w0 w->w0.heap.size<=g->Lft w g left->0<=left->left<=250->0<=d->d<=17->aF (sts l)<=1048576 →
 Calls Tryz.prog 119 #[.slice a l.length c,.int .i64 d,.pointer (some ⟨g,0,none⟩)] w fun e w'=>e=.returned (.bool (bP l d left))/\w.grownBy w' (some g)/\(bP l d left=true->Lft w' g (left-(aW l:Int)))
theorem aKq {α:Type}{l:List α}(h:l.length=1):∃x,l=[x]:=by
 match l,h with
 | [x],_=>exact⟨x,rfl⟩
theorem bO {k n:Int}{name:List Int}{ks:List Ex}{bs es:List St}{d left:Int}{nk nb ne:Nat}(h1:ks.length=nk)(h2:bs.length=nb)(h3:es.length=ne)(h:gH k n name nk nb ne=false):bL (.mk k n name ks bs es) d left=false:=by
 refine zW ?_;rw[h1,h2,h3];exact h
set_option maxHeartbeats 40000000 in
theorem aLo (k n:Int)(name:List Int)(ks:List Ex)(bs es:List St)(S3:∀x ∈ ks,aFw x)(S4:aFv bs)(S5:aFv es):aLg (.mk k n name ks bs es):=by
 intro w0 w vs g left d hr hb hg hL hl0 hl1 hd0 hd1 hs;unfold St.fl at hr
 have es9:aH (St.mk k n name ks bs es).fl=name.length+((exs ks).length+aF (exs ks))+((sts bs).length+aF (sts bs))+((sts es).length+aF (sts es)):=by simp[St.fl,aH,Fl.len] <;> omega
 rw[es9]at hs;have hs1:name.length<=1048576:=V6
 have hs2:aF (exs ks)<=1048576:=V6
 have hs3:aF (sts bs)<=1048576:=V6
 have hs4:aF (sts es)<=1048576:=V6
 clear hs es9;obtain⟨y0,_,rfl,rfl,y1,_,rfl,rfl,y2,_,rfl,⟨a2,c2,rfl,h2,hc2,_⟩,y3,_,rfl,h3',y4,_,rfl,Bl,y5,_,rfl,h5',rfl⟩:=hr;obtain⟨a3,c3,rfl,h3⟩:=h3'.list;obtain⟨a4,c4,rfl,h4⟩:=Bl.list;obtain⟨a5,c5,rfl,h5⟩:=h5'.list;clear h3' Bl h5'
 have As:(exs ks).length=ks.length:=by simp[aJ]
 refine M939 ?_;intro hbl hel
 have hk9:ks.length<=9223372036854775807:=by have h7:=h3.cap;have h6:=h3.most;unfold maxLen at h6;omega
 have hb9:bs.length<=9223372036854775807:=by have h7:=h4.cap;have h6:=h4.most;unfold maxLen at h6;omega
 have he9:es.length<=9223372036854775807:=by have h7:=h5.cap;have h6:=h5.most;unfold maxLen at h6;omega
 rw[As,hbl,hel];clear hbl hel;simp only[agg]
 obtain⟨nn,hnn⟩:∃z,z=name.length:=⟨_,rfl⟩
 rw[<-hnn]at h2 hs1 hc2 ⊢;have HNA:=hid hnn.symm;clear hnn
 obtain⟨nk,hnk⟩:∃z,z=ks.length:=⟨_,rfl⟩
 obtain⟨nb,hnb⟩:∃z,z=bs.length:=⟨_,rfl⟩
 obtain⟨ne,hne⟩:∃z,z=es.length:=⟨_,rfl⟩
 rw[<-hnk]at As hk9 ⊢;rw[<-hnb]at hb9 ⊢;rw[<-hne]at he9 ⊢;have Bn:=hid hnk.symm;have Bi:=hid hnb.symm;have Bh:=hid hne.symm;clear hnk hnb hne;have hgl:=Blk.lt hL
 have An:w.heap.size ≠ g:=V6
 have yy:=aC w (.cells #[.int .i64 k,.int .i64 n,.slice a2 nn c2,.slice a3 nk c3,.slice a4 nb c4,.slice a5 ne c5] 129 (0,0)) (some g);have x0:=Blk.new w 129 [.int .i64 k,.int .i64 n,.slice a2 nn c2,.slice a3 nk c3,.slice a4 nb c4,.slice a5 ne c5];have hL1:=Blk.old hL (o:=.cells #[.int .i64 k,.int .i64 n,.slice a2 nn c2,.slice a3 nk c3,.slice a4 nb c4,.slice a5 ne c5] 129 (0,0))
 replace hb:Below w0.heap.size w0 (w.alloc (.cells #[.int .i64 k,.int .i64 n,.slice a2 nn c2,.slice a3 nk c3,.slice a4 nb c4,.slice a5 ne c5] 129 (0,0))):=hb.alloc hb.size _
 clear hL;go_enter Tryz.func163,Tryz.ntmps163;go_upto_region 1 with fail;generalize w.alloc (.cells #[.int .i64 k,.int .i64 n,.slice a2 nn c2,.slice a3 nk c3,.slice a4 nb c4,.slice a5 ne c5] 129 (0,0))=w1 at *;have z0:=hL1.k 0;have z1:=hL1.free 0;go_upto_region 2 with fail
 have hL2:Lft _ g (left-1):=Blk.set hL1 (i:=0) (.int .i64 (left-1))
 have hq:w1.grownBy (w1.setCell ⟨g,0,none⟩ (.int .i64 (left-1))) (some g):=lX
 replace x0:=x0.grown hq An;replace yy:=aD yy hq;replace hb:=bZ hb hq hg;generalize w1.setCell ⟨g,0,none⟩ (.int .i64 (left-1))=w2 at *;generalize w.heap.size=gx at *;clear z0 z1 hL1 hq hgl
 obtain⟨m,hm⟩:∃m,m=left-1:=⟨_,rfl⟩
 rw[<-hm]at hL2
 have HMM:Hid (m=left-1):=hm
 have z0:=hL2.k 0;obtain⟨q0,q1,q2,q3,q4,q5⟩:=x0.c6
 by_cases r1:m<0
 .
  have he:Hid (bL (.mk k n name ks bs es) d left=false):=mQ (.inl V6)
  clear hm;exact U266
 by_cases r2:16<d
 .
  have he:Hid (bL (.mk k n name ks bs es) d left=false):=mQ (.inr r2)
  clear hm;exact U266
 clear hm
 by_cases i1:inB k 0 7=true
 rotate_left
 .
  have hno:inB k 0 7=false:=by simpa using i1
  have he:Hid (bL (.mk k n name ks bs es) d left=false):=bO Bn.out Bi.out Bh.out (cA (.inl hno))
  have g0:(k == 0)=false:=by simp only[inB,zI2,zH1]at hno;simp only[beq_eq_false_iff_ne,ne_eq];omega
  have g1:(k == 1)=false:=by simp only[inB,zI2,zH1]at hno;simp only[beq_eq_false_iff_ne,ne_eq];omega
  have g2:(k == 2)=false:=by simp only[inB,zI2,zH1]at hno;simp only[beq_eq_false_iff_ne,ne_eq];omega
  have g3:(k == 3)=false:=by simp only[inB,zI2,zH1]at hno;simp only[beq_eq_false_iff_ne,ne_eq];omega
  have g4:(k == 4)=false:=by simp only[inB,zI2,zH1]at hno;simp only[beq_eq_false_iff_ne,ne_eq];omega
  have g5:(k == 5)=false:=by simp only[inB,zI2,zH1]at hno;simp only[beq_eq_false_iff_ne,ne_eq];omega
  have g6:(k == 6)=false:=by simp only[inB,zI2,zH1]at hno;simp only[beq_eq_false_iff_ne,ne_eq];omega
  have g7:(k == 7)=false:=by simp only[inB,zI2,zH1]at hno;simp only[beq_eq_false_iff_ne,ne_eq];omega
  have g8:((-1:Int) != (nk:Int))=true:=by simp only[bne_iff_ne,ne_eq];omega
  clear hno i1;exact U266
 have h8:=aI4 i1;have HI1:=hid i1;clear i1
 rcases h8 with rfl|rfl|rfl|rfl|rfl|rfl|rfl|rfl
 .
  by_cases c1:(nk:Int)=1
  rotate_left
  .
   have c1':((1:Int) != (nk:Int))=true:=by simp;omega
   have he:Hid (bL (.mk 0 n name ks bs es) d left=false):=bO Bn.out Bi.out Bh.out (cA (.inr (.inl c1)))
   exact U266
  refine M998 ?_;intro c1' HC1 hkn;clear c1
  by_cases b1:nb=0
  rotate_left
  .
   have b1':(0:Int)<(nb:Int):=V6;clear hkn
   have he:Hid (bL (.mk 0 n name ks bs es) d left=false):=bO Bn.out Bi.out Bh.out (cA (.inr (.inr (.inr (.inr (.inr (.inl ⟨b1,by decide⟩)))))))
   exact U266
  have b1':¬(0:Int)<(nb:Int):=V6
  have HB1:Hid ((decide (nb=0) || eV 0)=true):=by show _=_;rw[zB3 b1];rfl
  clear b1
  by_cases b2:ne=0
  rotate_left
  .
   have b2':(0:Int)<(ne:Int):=V6;clear hkn
   have he:Hid (bL (.mk 0 n name ks bs es) d left=false):=bO Bn.out Bi.out Bh.out (cA (.inr (.inr (.inr (.inr (.inr (.inr ⟨b2,by decide⟩)))))))
   exact U266
  have b2':¬(0:Int)<(ne:Int):=V6
  have HB2:Hid ((decide (ne=0) || decide ((0:Int)=2))=true):=by show _=_;rw[zB3 b2];rfl
  clear b2;have hn3:=bI a2 nn c2 name false w2 (h2.below hb) V6
  by_cases e0:nn=0
  .
   have hno:aK name false=false:=dF V66
   rw[e0]at q2 ⊢;clear hkn
   have he:Hid (bL (.mk 0 n name ks bs es) d left=false):=bO Bn.out Bi.out Bh.out (cA (.inr (.inr (.inr (.inl ⟨by decide,hno⟩)))))
   exact U266
  have e0':(0:Int)<(nn:Int):=V6;generalize hno_:aK name false=ok at *;have HNB:=hid hno_;clear hno_
  have HKN:Hid _:=hkn
  clear hkn;go_wp2_with fail;refine hn3.mono ?_;rintro e w2 ⟨rfl,rfl⟩;clear hn3;cases ok
  .
   have he:Hid (bL (.mk 0 n name ks bs es) d left=false):=bO Bn.out Bi.out Bh.out (cA (.inr (.inr (.inr (.inl ⟨by decide,HNB.out⟩)))))
   exact U266
  by_cases n0:n=0
  rotate_left
  .
   have n0':(n != 0)=true:=by simpa using n0
   have he:Hid (bL (.mk 0 n name ks bs es) d left=false):=bO Bn.out Bi.out Bh.out (cA (.inr (.inr (.inl V51))))
   exact U266
  have n0':(n != 0)=false:=by simpa using n0
  have HNN:Hid (inB n 0 (dA 0)=true):=by show _=_;rw[n0];decide
  clear n0
  have HLC:Hid (gH 0 n name ks.length bs.length es.length=true):=by show _=_;rw[Bn.out,Bi.out,Bh.out];exact iD HI1.out HC1.out HNN.out (by rw[show dH 0=true from by decide];exact HNB.out) HB1.out HB2.out
  have HCC:Hid ((!decide ((0:Int)=7) || ks.any iE)=true):=by show _=_;simp
  have HE:Hid (bL (.mk 0 n name ks bs es) d left=kA ks bs es (d+1) m):=by
   exact U62
  have HD:Hid (kX (.mk 0 n name ks bs es)=1+(aG ks+aW bs+aW es)):=by show _=_;simp[kX]
  refine M920 ?_;intro HX0 HY HB3 HLF HRW HRB HRE hm0 hm1 hd2 hd3;go_wp2_with fail;clear q0 q1 q2 q3 q4 q5 x0 yy hb hL2 h3 h4 h5 z0 e0' b1' b2'
  go_loopw [11] (fun i wr=>∃j:Nat,j<=nk/\i=.int .i64 j/\Hid (w2.grownBy wr (some g))/\Hid (Lft wr g (m-(aG (ks.take j):Int)))/\Hid ((aG (ks.take j):Int)<=m)/\Hid (∀i x,i<j->ks[i]?=some x->cW x (d+1) false (m-(aG (ks.take i):Int))=true)) (fun i _=>nk-(intOf i).toNat)
  case atStart=>exact⟨0,zD1 _,rfl,aN0 _ _,HLF,by show(_:Int)<=_;simp[aG];omega,by show ∀_ _,_;omega⟩
  case round=>
   obtain⟨j,hj,rfl,Bk,hLj,hnj,Bc⟩:=hrel;clear HLF;refine M9206 ?_;intro x0 q3 hb
   by_cases Ai:j<nk
   .
    obtain⟨b3,o3,rfl⟩:=aS.addr HRW.out V25;refine M9192 ?_;intro x hx Ak us Ad Ab;obtain⟨u0,u1,u2,u3,u4,rfl⟩:=eO (Ad.len.trans (cE x));refine M9183 ?_;clear Ab;intro Ab t0 t1 t2 t3 t4 hsx HC HJ HNX;clear Ab hx Ak hsx Ad;generalize hsp:cW x (d+1) false (m-(aG (ks.take j):Int))=rr at *;have HSP:=hid hsp;clear hsp;go_wp2_with fail;refine M964 ?_;intro w4 Bg hL4 HG4 HL4;clear HC t0 t1 t2 t3 t4 q3 x0 hb Bg hL4;cases rr
    .
     have he:Hid (bL (.mk 0 n name ks bs es) d left=false):=by show _=_;rw[HE.out];unfold kA;rw[fF HJ.out HSP.out];rfl
     have hyy:=aD HY.out HG4.out;exact U277
    .
     exact U264
   .
    have:j=nk:=V6
    subst this;refine M9190 ?_;intro HSE hle3 hLf hyy q4 q5 HC
    rw[Bi.out,show nb=0 by omega]at HC
    generalize hsp:bP bs (d+1) (m-(aG ks:Int))=r4 at *;have HS4:=hid hsp;clear hsp Bk hLj hnj Bc;go_wp2_with fail;refine M953 ?_;clear x0 hb hyy;intro w4 Bg hL4 x0 hb hyy;clear HC q3 q4 q5 hLf Bg;cases r4
    .
     have he:Hid (bL (.mk 0 n name ks bs es) d left=false):=by show _=_;rw[HE.out];unfold kA;rw[HS4.out];simp
     clear hL4;exact U277
    .
     refine M9191 ?_;intro hle4 hL5 q5 HC;generalize hsp:bP es (d+1) (m-(aG ks:Int)-(aW bs:Int))=r5 at *;have HS5:=hid hsp;clear hsp hL4;go_wp2_with fail;refine HC.mono ?_;rintro e w5 ⟨rfl,hg5,hL6⟩
     have he:Hid (bL (.mk 0 n name ks bs es) d left=r5):=by show _=_;rw[HE.out];unfold kA;rw[HSE.out,HS4.out,HS5.out];rfl
     exact U272
 .
  by_cases c1:(nk:Int)=2
  rotate_left
  .
   have c1':((2:Int) != (nk:Int))=true:=by simp;omega
   have he:Hid (bL (.mk 1 n name ks bs es) d left=false):=bO Bn.out Bi.out Bh.out (cA (.inr (.inl c1)))
   exact U266
  have c1':((2:Int) != (nk:Int))=false:=by simp;omega
  have HC1:=hid c1;have hkn:nk=2:=V6;clear c1
  by_cases b1:nb=0
  rotate_left
  .
   have b1':(0:Int)<(nb:Int):=V6;clear hkn
   have he:Hid (bL (.mk 1 n name ks bs es) d left=false):=bO Bn.out Bi.out Bh.out (cA (.inr (.inr (.inr (.inr (.inr (.inl ⟨b1,by decide⟩)))))))
   exact U266
  have b1':¬(0:Int)<(nb:Int):=V6
  have HB1:Hid ((decide (nb=0) || eV 1)=true):=by show _=_;rw[zB3 b1];rfl
  clear b1
  by_cases b2:ne=0
  rotate_left
  .
   have b2':(0:Int)<(ne:Int):=V6;clear hkn
   have he:Hid (bL (.mk 1 n name ks bs es) d left=false):=bO Bn.out Bi.out Bh.out (cA (.inr (.inr (.inr (.inr (.inr (.inr ⟨b2,by decide⟩)))))))
   exact U266
  have b2':¬(0:Int)<(ne:Int):=V6
  have HB2:Hid ((decide (ne=0) || decide ((1:Int)=2))=true):=by show _=_;rw[zB3 b2];rfl
  clear b2;have hn3:=bI a2 nn c2 name false w2 (h2.below hb) V6
  by_cases e0:nn=0
  .
   have hno:aK name false=false:=dF V66
   rw[e0]at q2 ⊢;clear hkn
   have he:Hid (bL (.mk 1 n name ks bs es) d left=false):=bO Bn.out Bi.out Bh.out (cA (.inr (.inr (.inr (.inl ⟨by decide,hno⟩)))))
   exact U266
  have e0':(0:Int)<(nn:Int):=V6;generalize hno_:aK name false=ok at *;have HNB:=hid hno_;clear hno_
  have HKN:Hid _:=hkn
  clear hkn;go_wp2_with fail;refine hn3.mono ?_;rintro e w2 ⟨rfl,rfl⟩;clear hn3;cases ok
  .
   have he:Hid (bL (.mk 1 n name ks bs es) d left=false):=bO Bn.out Bi.out Bh.out (cA (.inr (.inr (.inr (.inl ⟨by decide,HNB.out⟩)))))
   exact U266
  by_cases n0:n=0
  rotate_left
  .
   have n0':(n != 0)=true:=by simpa using n0
   have he:Hid (bL (.mk 1 n name ks bs es) d left=false):=bO Bn.out Bi.out Bh.out (cA (.inr (.inr (.inl V51))))
   exact U266
  have n0':(n != 0)=false:=by simpa using n0
  have HNN:Hid (inB n 0 (dA 1)=true):=by show _=_;rw[n0];decide
  clear n0
  have HLC:Hid (gH 1 n name ks.length bs.length es.length=true):=by show _=_;rw[Bn.out,Bi.out,Bh.out];exact iD HI1.out HC1.out HNN.out (by rw[show dH 1=true from by decide];exact HNB.out) HB1.out HB2.out
  have HCC:Hid ((!decide ((1:Int)=7) || ks.any iE)=true):=by show _=_;simp
  have HE:Hid (bL (.mk 1 n name ks bs es) d left=kA ks bs es (d+1) m):=by
   exact U62
  have HD:Hid (kX (.mk 1 n name ks bs es)=1+(aG ks+aW bs+aW es)):=by show _=_;simp[kX]
  refine M920 ?_;intro HX0 HY HB3 HLF HRW HRB HRE hm0 hm1 hd2 hd3;go_wp2_with fail;clear q0 q1 q2 q3 q4 q5 x0 yy hb hL2 h3 h4 h5 z0 e0' b1' b2'
  go_loopw [11] (fun i wr=>∃j:Nat,j<=nk/\i=.int .i64 j/\Hid (w2.grownBy wr (some g))/\Hid (Lft wr g (m-(aG (ks.take j):Int)))/\Hid ((aG (ks.take j):Int)<=m)/\Hid (∀i x,i<j->ks[i]?=some x->cW x (d+1) false (m-(aG (ks.take i):Int))=true)) (fun i _=>nk-(intOf i).toNat)
  case atStart=>exact⟨0,zD1 _,rfl,aN0 _ _,HLF,by show(_:Int)<=_;simp[aG];omega,by show ∀_ _,_;omega⟩
  case round=>
   obtain⟨j,hj,rfl,Bk,hLj,hnj,Bc⟩:=hrel;clear HLF;refine M9206 ?_;intro x0 q3 hb
   by_cases Ai:j<nk
   .
    obtain⟨b3,o3,rfl⟩:=aS.addr HRW.out V25;refine M9192 ?_;intro x hx Ak us Ad Ab;obtain⟨u0,u1,u2,u3,u4,rfl⟩:=eO (Ad.len.trans (cE x));refine M9183 ?_;clear Ab;intro Ab t0 t1 t2 t3 t4 hsx HC HJ HNX;clear Ab hx Ak hsx Ad;generalize hsp:cW x (d+1) false (m-(aG (ks.take j):Int))=rr at *;have HSP:=hid hsp;clear hsp;go_wp2_with fail;refine M964 ?_;intro w4 Bg hL4 HG4 HL4;clear HC t0 t1 t2 t3 t4 q3 x0 hb Bg hL4;cases rr
    .
     have he:Hid (bL (.mk 1 n name ks bs es) d left=false):=by show _=_;rw[HE.out];unfold kA;rw[fF HJ.out HSP.out];rfl
     have hyy:=aD HY.out HG4.out;exact U277
    .
     exact U264
   .
    have:j=nk:=V6
    subst this;refine M9190 ?_;intro HSE hle3 hLf hyy q4 q5 HC
    rw[Bi.out,show nb=0 by omega]at HC
    generalize hsp:bP bs (d+1) (m-(aG ks:Int))=r4 at *;have HS4:=hid hsp;clear hsp Bk hLj hnj Bc;go_wp2_with fail;refine M953 ?_;clear x0 hb hyy;intro w4 Bg hL4 x0 hb hyy;clear HC q3 q4 q5 hLf Bg;cases r4
    .
     have he:Hid (bL (.mk 1 n name ks bs es) d left=false):=by show _=_;rw[HE.out];unfold kA;rw[HS4.out];simp
     clear hL4;exact U277
    .
     refine M9191 ?_;intro hle4 hL5 q5 HC;generalize hsp:bP es (d+1) (m-(aG ks:Int)-(aW bs:Int))=r5 at *;have HS5:=hid hsp;clear hsp hL4;go_wp2_with fail;refine HC.mono ?_;rintro e w5 ⟨rfl,hg5,hL6⟩
     have he:Hid (bL (.mk 1 n name ks bs es) d left=r5):=by show _=_;rw[HE.out];unfold kA;rw[HSE.out,HS4.out,HS5.out];rfl
     exact U272
 .
  by_cases c1:(nk:Int)=1
  rotate_left
  .
   have c1':((1:Int) != (nk:Int))=true:=by simp;omega
   have he:Hid (bL (.mk 2 n name ks bs es) d left=false):=bO Bn.out Bi.out Bh.out (cA (.inr (.inl c1)))
   exact U266
  refine M998 ?_;intro c1' HC1 hkn;clear c1
  have HB1:Hid ((decide (nb=0) || eV 2)=true):=by show _=_;rw[show eV 2=true from by decide];simp
  have HB2:Hid ((decide (ne=0) || decide ((2:Int)=2))=true):=by show _=_;simp
  have hn3:=bI a2 nn c2 name false w2 (h2.below hb) V6
  by_cases e0:nn=0
  rotate_left
  .
   have e0':(0:Int)<(nn:Int):=V6;clear hkn
   have he:Hid (bL (.mk 2 n name ks bs es) d left=false):=bO Bn.out Bi.out Bh.out (cA (.inr (.inr (.inr (.inr (.inl ⟨by decide,by rw[HNA.out];exact e0⟩))))))
   exact U266
  refine M9212 ?_;clear e0;intro e0' HE0 HKN;clear hkn
  by_cases n0:n=0
  rotate_left
  .
   have n0':(n != 0)=true:=by simpa using n0
   have he:Hid (bL (.mk 2 n name ks bs es) d left=false):=bO Bn.out Bi.out Bh.out (cA (.inr (.inr (.inl V51))))
   exact U266
  have n0':(n != 0)=false:=by simpa using n0
  have HNN:Hid (inB n 0 (dA 2)=true):=by show _=_;rw[n0];decide
  clear n0
  have HLC:Hid (gH 2 n name ks.length bs.length es.length=true):=by show _=_;rw[Bn.out,Bi.out,Bh.out];exact iD HI1.out HC1.out HNN.out (by rw[show dH 2=false from by decide];exact zB3 HE0.out) HB1.out HB2.out
  have HCC:Hid ((!decide ((2:Int)=7) || ks.any iE)=true):=by show _=_;simp
  have HE:Hid (bL (.mk 2 n name ks bs es) d left=kA ks bs es (d+1) m):=by
   exact U62
  have HD:Hid (kX (.mk 2 n name ks bs es)=1+(aG ks+aW bs+aW es)):=by show _=_;simp[kX]
  refine M920 ?_;intro HX0 HY HB3 HLF HRW HRB HRE hm0 hm1 hd2 hd3;go_wp2_with fail;clear q0 q1 q2 q3 q4 q5 x0 yy hb hL2 h3 h4 h5 z0 e0'
  go_loopw [11] (fun i wr=>∃j:Nat,j<=nk/\i=.int .i64 j/\Hid (w2.grownBy wr (some g))/\Hid (Lft wr g (m-(aG (ks.take j):Int)))/\Hid ((aG (ks.take j):Int)<=m)/\Hid (∀i x,i<j->ks[i]?=some x->cW x (d+1) false (m-(aG (ks.take i):Int))=true)) (fun i _=>nk-(intOf i).toNat)
  case atStart=>exact⟨0,zD1 _,rfl,aN0 _ _,HLF,by show(_:Int)<=_;simp[aG];omega,by show ∀_ _,_;omega⟩
  case round=>
   obtain⟨j,hj,rfl,Bk,hLj,hnj,Bc⟩:=hrel;clear HLF;refine M9206 ?_;intro x0 q3 hb
   by_cases Ai:j<nk
   .
    obtain⟨b3,o3,rfl⟩:=aS.addr HRW.out V25;refine M9192 ?_;intro x hx Ak us Ad Ab;obtain⟨u0,u1,u2,u3,u4,rfl⟩:=eO (Ad.len.trans (cE x));refine M9183 ?_;clear Ab;intro Ab t0 t1 t2 t3 t4 hsx HC HJ HNX;clear Ab hx Ak hsx Ad;generalize hsp:cW x (d+1) false (m-(aG (ks.take j):Int))=rr at *;have HSP:=hid hsp;clear hsp;go_wp2_with fail;refine M964 ?_;intro w4 Bg hL4 HG4 HL4;clear HC t0 t1 t2 t3 t4 q3 x0 hb Bg hL4;cases rr
    .
     have he:Hid (bL (.mk 2 n name ks bs es) d left=false):=by show _=_;rw[HE.out];unfold kA;rw[fF HJ.out HSP.out];rfl
     have hyy:=aD HY.out HG4.out;exact U277
    .
     exact U264
   .
    have:j=nk:=V6
    subst this;refine M9190 ?_;intro HSE hle3 hLf hyy q4 q5 HC;rw[Bi.out]at HC;generalize hsp:bP bs (d+1) (m-(aG ks:Int))=r4 at *;have HS4:=hid hsp;clear hsp Bk hLj hnj Bc;go_wp2_with fail;refine M953 ?_;clear x0 hb hyy;intro w4 Bg hL4 x0 hb hyy;clear HC q3 q4 q5 hLf Bg;cases r4
    .
     have he:Hid (bL (.mk 2 n name ks bs es) d left=false):=by show _=_;rw[HE.out];unfold kA;rw[HS4.out];simp
     clear hL4;exact U277
    .
     have hle4:=eP HS4.out;have hL5:=hL4 rfl;have q5:=x0.k 5;have HC:=S5 w0 w4 a5 c5 g (m-(aG ks:Int)-(aW bs:Int)) (d+1) HRE.out hb hg hL5 V6 V6 hd3 hd2 hs4;rw[Bh.out]at HC;generalize hsp:bP es (d+1) (m-(aG ks:Int)-(aW bs:Int))=r5 at *;have HS5:=hid hsp;clear hsp hL4;go_wp2_with fail;refine HC.mono ?_;rintro e w5 ⟨rfl,hg5,hL6⟩
     have he:Hid (bL (.mk 2 n name ks bs es) d left=r5):=by show _=_;rw[HE.out];unfold kA;rw[HSE.out,HS4.out,HS5.out];rfl
     exact U272
 .
  by_cases c1:(nk:Int)=1
  rotate_left
  .
   have c1':((1:Int) != (nk:Int))=true:=by simp;omega
   have he:Hid (bL (.mk 3 n name ks bs es) d left=false):=bO Bn.out Bi.out Bh.out (cA (.inr (.inl c1)))
   exact U266
  refine M998 ?_;intro c1' HC1 hkn;clear c1
  have HB1:Hid ((decide (nb=0) || eV 3)=true):=by show _=_;rw[show eV 3=true from by decide];simp
  by_cases b2:ne=0
  rotate_left
  .
   have b2':(0:Int)<(ne:Int):=V6;clear hkn
   have he:Hid (bL (.mk 3 n name ks bs es) d left=false):=bO Bn.out Bi.out Bh.out (cA (.inr (.inr (.inr (.inr (.inr (.inr ⟨b2,by decide⟩)))))))
   exact U266
  have b2':¬(0:Int)<(ne:Int):=V6
  have HB2:Hid ((decide (ne=0) || decide ((3:Int)=2))=true):=by show _=_;rw[zB3 b2];rfl
  clear b2;have hn3:=bI a2 nn c2 name false w2 (h2.below hb) V6
  by_cases e0:nn=0
  rotate_left
  .
   have e0':(0:Int)<(nn:Int):=V6;clear hkn
   have he:Hid (bL (.mk 3 n name ks bs es) d left=false):=bO Bn.out Bi.out Bh.out (cA (.inr (.inr (.inr (.inr (.inl ⟨by decide,by rw[HNA.out];exact e0⟩))))))
   exact U266
  refine M9212 ?_;clear e0;intro e0' HE0 HKN;clear hkn
  by_cases n0:n=0
  rotate_left
  .
   have n0':(n != 0)=true:=by simpa using n0
   have he:Hid (bL (.mk 3 n name ks bs es) d left=false):=bO Bn.out Bi.out Bh.out (cA (.inr (.inr (.inl V51))))
   exact U266
  have n0':(n != 0)=false:=by simpa using n0
  have HNN:Hid (inB n 0 (dA 3)=true):=by show _=_;rw[n0];decide
  clear n0
  have HLC:Hid (gH 3 n name ks.length bs.length es.length=true):=by show _=_;rw[Bn.out,Bi.out,Bh.out];exact iD HI1.out HC1.out HNN.out (by rw[show dH 3=false from by decide];exact zB3 HE0.out) HB1.out HB2.out
  have HCC:Hid ((!decide ((3:Int)=7) || ks.any iE)=true):=by show _=_;simp
  have HE:Hid (bL (.mk 3 n name ks bs es) d left=kA ks bs es (d+1) m):=by
   exact U62
  have HD:Hid (kX (.mk 3 n name ks bs es)=1+(aG ks+aW bs+aW es)):=by show _=_;simp[kX]
  refine M920 ?_;intro HX0 HY HB3 HLF HRW HRB HRE hm0 hm1 hd2 hd3;go_wp2_with fail;clear q0 q1 q2 q3 q4 q5 x0 yy hb hL2 h3 h4 h5 z0 e0' b2'
  go_loopw [11] (fun i wr=>∃j:Nat,j<=nk/\i=.int .i64 j/\Hid (w2.grownBy wr (some g))/\Hid (Lft wr g (m-(aG (ks.take j):Int)))/\Hid ((aG (ks.take j):Int)<=m)/\Hid (∀i x,i<j->ks[i]?=some x->cW x (d+1) false (m-(aG (ks.take i):Int))=true)) (fun i _=>nk-(intOf i).toNat)
  case atStart=>exact⟨0,zD1 _,rfl,aN0 _ _,HLF,by show(_:Int)<=_;simp[aG];omega,by show ∀_ _,_;omega⟩
  case round=>
   obtain⟨j,hj,rfl,Bk,hLj,hnj,Bc⟩:=hrel;clear HLF;refine M9206 ?_;intro x0 q3 hb
   by_cases Ai:j<nk
   .
    obtain⟨b3,o3,rfl⟩:=aS.addr HRW.out V25;refine M9192 ?_;intro x hx Ak us Ad Ab;obtain⟨u0,u1,u2,u3,u4,rfl⟩:=eO (Ad.len.trans (cE x));refine M9183 ?_;clear Ab;intro Ab t0 t1 t2 t3 t4 hsx HC HJ HNX;clear Ab hx Ak hsx Ad;generalize hsp:cW x (d+1) false (m-(aG (ks.take j):Int))=rr at *;have HSP:=hid hsp;clear hsp;go_wp2_with fail;refine M964 ?_;intro w4 Bg hL4 HG4 HL4;clear HC t0 t1 t2 t3 t4 q3 x0 hb Bg hL4;cases rr
    .
     have he:Hid (bL (.mk 3 n name ks bs es) d left=false):=by show _=_;rw[HE.out];unfold kA;rw[fF HJ.out HSP.out];rfl
     have hyy:=aD HY.out HG4.out;exact U277
    .
     exact U264
   .
    have:j=nk:=V6
    subst this;refine M9190 ?_;intro HSE hle3 hLf hyy q4 q5 HC;rw[Bi.out]at HC;generalize hsp:bP bs (d+1) (m-(aG ks:Int))=r4 at *;have HS4:=hid hsp;clear hsp Bk hLj hnj Bc;go_wp2_with fail;refine M953 ?_;clear x0 hb hyy;intro w4 Bg hL4 x0 hb hyy;clear HC q3 q4 q5 hLf Bg;cases r4
    .
     have he:Hid (bL (.mk 3 n name ks bs es) d left=false):=by show _=_;rw[HE.out];unfold kA;rw[HS4.out];simp
     clear hL4;exact U277
    .
     refine M9191 ?_;intro hle4 hL5 q5 HC;generalize hsp:bP es (d+1) (m-(aG ks:Int)-(aW bs:Int))=r5 at *;have HS5:=hid hsp;clear hsp hL4;go_wp2_with fail;refine HC.mono ?_;rintro e w5 ⟨rfl,hg5,hL6⟩
     have he:Hid (bL (.mk 3 n name ks bs es) d left=r5):=by show _=_;rw[HE.out];unfold kA;rw[HSE.out,HS4.out,HS5.out];rfl
     exact U272
 .
  by_cases c1:(nk:Int)=1
  rotate_left
  .
   have c1':((1:Int) != (nk:Int))=true:=by simp;omega
   have he:Hid (bL (.mk 4 n name ks bs es) d left=false):=bO Bn.out Bi.out Bh.out (cA (.inr (.inl c1)))
   exact U266
  refine M998 ?_;intro c1' HC1 hkn;clear c1
  by_cases b1:nb=0
  rotate_left
  .
   have b1':(0:Int)<(nb:Int):=V6;clear hkn
   have he:Hid (bL (.mk 4 n name ks bs es) d left=false):=bO Bn.out Bi.out Bh.out (cA (.inr (.inr (.inr (.inr (.inr (.inl ⟨b1,by decide⟩)))))))
   exact U266
  have b1':¬(0:Int)<(nb:Int):=V6
  have HB1:Hid ((decide (nb=0) || eV 4)=true):=by show _=_;rw[zB3 b1];rfl
  clear b1
  by_cases b2:ne=0
  rotate_left
  .
   have b2':(0:Int)<(ne:Int):=V6;clear hkn
   have he:Hid (bL (.mk 4 n name ks bs es) d left=false):=bO Bn.out Bi.out Bh.out (cA (.inr (.inr (.inr (.inr (.inr (.inr ⟨b2,by decide⟩)))))))
   exact U266
  have b2':¬(0:Int)<(ne:Int):=V6
  have HB2:Hid ((decide (ne=0) || decide ((4:Int)=2))=true):=by show _=_;rw[zB3 b2];rfl
  clear b2;have hn3:=bI a2 nn c2 name false w2 (h2.below hb) V6
  by_cases e0:nn=0
  rotate_left
  .
   have e0':(0:Int)<(nn:Int):=V6;clear hkn
   have he:Hid (bL (.mk 4 n name ks bs es) d left=false):=bO Bn.out Bi.out Bh.out (cA (.inr (.inr (.inr (.inr (.inl ⟨by decide,by rw[HNA.out];exact e0⟩))))))
   exact U266
  refine M9212 ?_;clear e0;intro e0' HE0 HKN;clear hkn
  by_cases n0:n=0
  rotate_left
  .
   have n0':(n != 0)=true:=by simpa using n0
   have he:Hid (bL (.mk 4 n name ks bs es) d left=false):=bO Bn.out Bi.out Bh.out (cA (.inr (.inr (.inl V51))))
   exact U266
  have n0':(n != 0)=false:=by simpa using n0
  have HNN:Hid (inB n 0 (dA 4)=true):=by show _=_;rw[n0];decide
  clear n0
  have HLC:Hid (gH 4 n name ks.length bs.length es.length=true):=by show _=_;rw[Bn.out,Bi.out,Bh.out];exact iD HI1.out HC1.out HNN.out (by rw[show dH 4=false from by decide];exact zB3 HE0.out) HB1.out HB2.out
  have HCC:Hid ((!decide ((4:Int)=7) || ks.any iE)=true):=by show _=_;simp
  have HE:Hid (bL (.mk 4 n name ks bs es) d left=kA ks bs es (d+1) m):=by
   exact U62
  have HD:Hid (kX (.mk 4 n name ks bs es)=1+(aG ks+aW bs+aW es)):=by show _=_;simp[kX]
  refine M920 ?_;intro HX0 HY HB3 HLF HRW HRB HRE hm0 hm1 hd2 hd3;go_wp2_with fail;clear q0 q1 q2 q3 q4 q5 x0 yy hb hL2 h3 h4 h5 z0 e0' b1' b2'
  go_loopw [11] (fun i wr=>∃j:Nat,j<=nk/\i=.int .i64 j/\Hid (w2.grownBy wr (some g))/\Hid (Lft wr g (m-(aG (ks.take j):Int)))/\Hid ((aG (ks.take j):Int)<=m)/\Hid (∀i x,i<j->ks[i]?=some x->cW x (d+1) false (m-(aG (ks.take i):Int))=true)) (fun i _=>nk-(intOf i).toNat)
  case atStart=>exact⟨0,zD1 _,rfl,aN0 _ _,HLF,by show(_:Int)<=_;simp[aG];omega,by show ∀_ _,_;omega⟩
  case round=>
   obtain⟨j,hj,rfl,Bk,hLj,hnj,Bc⟩:=hrel;clear HLF;refine M9206 ?_;intro x0 q3 hb
   by_cases Ai:j<nk
   .
    obtain⟨b3,o3,rfl⟩:=aS.addr HRW.out V25;refine M9192 ?_;intro x hx Ak us Ad Ab;obtain⟨u0,u1,u2,u3,u4,rfl⟩:=eO (Ad.len.trans (cE x));refine M9183 ?_;clear Ab;intro Ab t0 t1 t2 t3 t4 hsx HC HJ HNX;clear Ab hx Ak hsx Ad;generalize hsp:cW x (d+1) false (m-(aG (ks.take j):Int))=rr at *;have HSP:=hid hsp;clear hsp;go_wp2_with fail;refine M964 ?_;intro w4 Bg hL4 HG4 HL4;clear HC t0 t1 t2 t3 t4 q3 x0 hb Bg hL4;cases rr
    .
     have he:Hid (bL (.mk 4 n name ks bs es) d left=false):=by show _=_;rw[HE.out];unfold kA;rw[fF HJ.out HSP.out];rfl
     have hyy:=aD HY.out HG4.out;exact U277
    .
     exact U264
   .
    have:j=nk:=V6
    subst this;refine M9190 ?_;intro HSE hle3 hLf hyy q4 q5 HC
    rw[Bi.out,show nb=0 by omega]at HC
    generalize hsp:bP bs (d+1) (m-(aG ks:Int))=r4 at *;have HS4:=hid hsp;clear hsp Bk hLj hnj Bc;go_wp2_with fail;refine M953 ?_;clear x0 hb hyy;intro w4 Bg hL4 x0 hb hyy;clear HC q3 q4 q5 hLf Bg;cases r4
    .
     have he:Hid (bL (.mk 4 n name ks bs es) d left=false):=by show _=_;rw[HE.out];unfold kA;rw[HS4.out];simp
     clear hL4;exact U277
    .
     refine M9191 ?_;intro hle4 hL5 q5 HC;generalize hsp:bP es (d+1) (m-(aG ks:Int)-(aW bs:Int))=r5 at *;have HS5:=hid hsp;clear hsp hL4;go_wp2_with fail;refine HC.mono ?_;rintro e w5 ⟨rfl,hg5,hL6⟩
     have he:Hid (bL (.mk 4 n name ks bs es) d left=r5):=by show _=_;rw[HE.out];unfold kA;rw[HSE.out,HS4.out,HS5.out];rfl
     exact U272
 .
  by_cases c1:(nk:Int)=1
  rotate_left
  .
   have c1':((1:Int) != (nk:Int))=true:=by simp;omega
   have he:Hid (bL (.mk 5 n name ks bs es) d left=false):=bO Bn.out Bi.out Bh.out (cA (.inr (.inl c1)))
   exact U266
  refine M998 ?_;intro c1' HC1 hkn;clear c1
  by_cases b1:nb=0
  rotate_left
  .
   have b1':(0:Int)<(nb:Int):=V6;clear hkn
   have he:Hid (bL (.mk 5 n name ks bs es) d left=false):=bO Bn.out Bi.out Bh.out (cA (.inr (.inr (.inr (.inr (.inr (.inl ⟨b1,by decide⟩)))))))
   exact U266
  have b1':¬(0:Int)<(nb:Int):=V6
  have HB1:Hid ((decide (nb=0) || eV 5)=true):=by show _=_;rw[zB3 b1];rfl
  clear b1
  by_cases b2:ne=0
  rotate_left
  .
   have b2':(0:Int)<(ne:Int):=V6;clear hkn
   have he:Hid (bL (.mk 5 n name ks bs es) d left=false):=bO Bn.out Bi.out Bh.out (cA (.inr (.inr (.inr (.inr (.inr (.inr ⟨b2,by decide⟩)))))))
   exact U266
  have b2':¬(0:Int)<(ne:Int):=V6
  have HB2:Hid ((decide (ne=0) || decide ((5:Int)=2))=true):=by show _=_;rw[zB3 b2];rfl
  clear b2;have hn3:=bI a2 nn c2 name false w2 (h2.below hb) V6
  by_cases e0:nn=0
  rotate_left
  .
   have e0':(0:Int)<(nn:Int):=V6;clear hkn
   have he:Hid (bL (.mk 5 n name ks bs es) d left=false):=bO Bn.out Bi.out Bh.out (cA (.inr (.inr (.inr (.inr (.inl ⟨by decide,by rw[HNA.out];exact e0⟩))))))
   exact U266
  refine M9212 ?_;clear e0;intro e0' HE0 HKN;clear hkn
  by_cases n0:n=0
  rotate_left
  .
   have n0':(n != 0)=true:=by simpa using n0
   have he:Hid (bL (.mk 5 n name ks bs es) d left=false):=bO Bn.out Bi.out Bh.out (cA (.inr (.inr (.inl V51))))
   exact U266
  have n0':(n != 0)=false:=by simpa using n0
  have HNN:Hid (inB n 0 (dA 5)=true):=by show _=_;rw[n0];decide
  clear n0
  have HLC:Hid (gH 5 n name ks.length bs.length es.length=true):=by show _=_;rw[Bn.out,Bi.out,Bh.out];exact iD HI1.out HC1.out HNN.out (by rw[show dH 5=false from by decide];exact zB3 HE0.out) HB1.out HB2.out
  have HCC:Hid ((!decide ((5:Int)=7) || ks.any iE)=true):=by show _=_;simp
  have HE:Hid (bL (.mk 5 n name ks bs es) d left=kA ks bs es (d+1) m):=by
   exact U62
  have HD:Hid (kX (.mk 5 n name ks bs es)=1+(aG ks+aW bs+aW es)):=by show _=_;simp[kX]
  refine M920 ?_;intro HX0 HY HB3 HLF HRW HRB HRE hm0 hm1 hd2 hd3;go_wp2_with fail;clear q0 q1 q2 q3 q4 q5 x0 yy hb hL2 h3 h4 h5 z0 e0' b1' b2'
  go_loopw [11] (fun i wr=>∃j:Nat,j<=nk/\i=.int .i64 j/\Hid (w2.grownBy wr (some g))/\Hid (Lft wr g (m-(aG (ks.take j):Int)))/\Hid ((aG (ks.take j):Int)<=m)/\Hid (∀i x,i<j->ks[i]?=some x->cW x (d+1) false (m-(aG (ks.take i):Int))=true)) (fun i _=>nk-(intOf i).toNat)
  case atStart=>exact⟨0,zD1 _,rfl,aN0 _ _,HLF,by show(_:Int)<=_;simp[aG];omega,by show ∀_ _,_;omega⟩
  case round=>
   obtain⟨j,hj,rfl,Bk,hLj,hnj,Bc⟩:=hrel;clear HLF;refine M9206 ?_;intro x0 q3 hb
   by_cases Ai:j<nk
   .
    obtain⟨b3,o3,rfl⟩:=aS.addr HRW.out V25;refine M9192 ?_;intro x hx Ak us Ad Ab;obtain⟨u0,u1,u2,u3,u4,rfl⟩:=eO (Ad.len.trans (cE x));refine M9183 ?_;clear Ab;intro Ab t0 t1 t2 t3 t4 hsx HC HJ HNX;clear Ab hx Ak hsx Ad;generalize hsp:cW x (d+1) false (m-(aG (ks.take j):Int))=rr at *;have HSP:=hid hsp;clear hsp;go_wp2_with fail;refine M964 ?_;intro w4 Bg hL4 HG4 HL4;clear HC t0 t1 t2 t3 t4 q3 x0 hb Bg hL4;cases rr
    .
     have he:Hid (bL (.mk 5 n name ks bs es) d left=false):=by show _=_;rw[HE.out];unfold kA;rw[fF HJ.out HSP.out];rfl
     have hyy:=aD HY.out HG4.out;exact U277
    .
     exact U264
   .
    have:j=nk:=V6
    subst this;refine M9190 ?_;intro HSE hle3 hLf hyy q4 q5 HC
    rw[Bi.out,show nb=0 by omega]at HC
    generalize hsp:bP bs (d+1) (m-(aG ks:Int))=r4 at *;have HS4:=hid hsp;clear hsp Bk hLj hnj Bc;go_wp2_with fail;refine M953 ?_;clear x0 hb hyy;intro w4 Bg hL4 x0 hb hyy;clear HC q3 q4 q5 hLf Bg;cases r4
    .
     have he:Hid (bL (.mk 5 n name ks bs es) d left=false):=by show _=_;rw[HE.out];unfold kA;rw[HS4.out];simp
     clear hL4;exact U277
    .
     refine M9191 ?_;intro hle4 hL5 q5 HC;generalize hsp:bP es (d+1) (m-(aG ks:Int)-(aW bs:Int))=r5 at *;have HS5:=hid hsp;clear hsp hL4;go_wp2_with fail;refine HC.mono ?_;rintro e w5 ⟨rfl,hg5,hL6⟩
     have he:Hid (bL (.mk 5 n name ks bs es) d left=r5):=by show _=_;rw[HE.out];unfold kA;rw[HSE.out,HS4.out,HS5.out];rfl
     exact U272
 .
  by_cases c1:(nk:Int)=0
  rotate_left
  .
   have c1':((0:Int) != (nk:Int))=true:=by simp;omega
   have he:Hid (bL (.mk 6 n name ks bs es) d left=false):=bO Bn.out Bi.out Bh.out (cA (.inr (.inl c1)))
   exact U266
  have c1':((0:Int) != (nk:Int))=false:=by simp;omega
  have HC1:=hid c1;have hkn:nk=0:=V6;clear c1
  by_cases b1:nb=0
  rotate_left
  .
   have b1':(0:Int)<(nb:Int):=V6;clear hkn
   have he:Hid (bL (.mk 6 n name ks bs es) d left=false):=bO Bn.out Bi.out Bh.out (cA (.inr (.inr (.inr (.inr (.inr (.inl ⟨b1,by decide⟩)))))))
   exact U266
  have b1':¬(0:Int)<(nb:Int):=V6
  have HB1:Hid ((decide (nb=0) || eV 6)=true):=by show _=_;rw[zB3 b1];rfl
  clear b1
  by_cases b2:ne=0
  rotate_left
  .
   have b2':(0:Int)<(ne:Int):=V6;clear hkn
   have he:Hid (bL (.mk 6 n name ks bs es) d left=false):=bO Bn.out Bi.out Bh.out (cA (.inr (.inr (.inr (.inr (.inr (.inr ⟨b2,by decide⟩)))))))
   exact U266
  have b2':¬(0:Int)<(ne:Int):=V6
  have HB2:Hid ((decide (ne=0) || decide ((6:Int)=2))=true):=by show _=_;rw[zB3 b2];rfl
  clear b2;have hn3:=bI a2 nn c2 name false w2 (h2.below hb) V6
  by_cases e0:nn=0
  rotate_left
  .
   have e0':(0:Int)<(nn:Int):=V6;clear hkn
   have he:Hid (bL (.mk 6 n name ks bs es) d left=false):=bO Bn.out Bi.out Bh.out (cA (.inr (.inr (.inr (.inr (.inl ⟨by decide,by rw[HNA.out];exact e0⟩))))))
   exact U266
  refine M9212 ?_;clear e0;intro e0' HE0 HKN;clear hkn
  by_cases n0:n<0
  .
   have he:Hid (bL (.mk 6 n name ks bs es) d left=false):=bO Bn.out Bi.out Bh.out (cA (.inr (.inr (.inl V51))))
   exact U266
  by_cases n5:99<n
  .
   have he:Hid (bL (.mk 6 n name ks bs es) d left=false):=bO Bn.out Bi.out Bh.out (cA (.inr (.inr (.inl V51))))
   exact U266
  have HNN:Hid (inB n 0 (dA 6)=true):=by show _=_;simp[inB,dA];omega
  have HLC:Hid (gH 6 n name ks.length bs.length es.length=true):=by show _=_;rw[Bn.out,Bi.out,Bh.out];exact iD HI1.out HC1.out HNN.out (by rw[show dH 6=false from by decide];exact zB3 HE0.out) HB1.out HB2.out
  have HCC:Hid ((!decide ((6:Int)=7) || ks.any iE)=true):=by show _=_;simp
  have HE:Hid (bL (.mk 6 n name ks bs es) d left=kA ks bs es (d+1) m):=by
   exact U62
  have HD:Hid (kX (.mk 6 n name ks bs es)=1+(aG ks+aW bs+aW es)):=by show _=_;simp[kX]
  refine M920 ?_;intro HX0 HY HB3 HLF HRW HRB HRE hm0 hm1 hd2 hd3;go_wp2_with fail;clear q0 q1 q2 q3 q4 q5 x0 yy hb hL2 h3 h4 h5 z0 e0' b1' b2'
  go_loopw [11] (fun i wr=>∃j:Nat,j<=nk/\i=.int .i64 j/\Hid (w2.grownBy wr (some g))/\Hid (Lft wr g (m-(aG (ks.take j):Int)))/\Hid ((aG (ks.take j):Int)<=m)/\Hid (∀i x,i<j->ks[i]?=some x->cW x (d+1) false (m-(aG (ks.take i):Int))=true)) (fun i _=>nk-(intOf i).toNat)
  case atStart=>exact⟨0,zD1 _,rfl,aN0 _ _,HLF,by show(_:Int)<=_;simp[aG];omega,by show ∀_ _,_;omega⟩
  case round=>
   obtain⟨j,hj,rfl,Bk,hLj,hnj,Bc⟩:=hrel;clear HLF;refine M9206 ?_;intro x0 q3 hb
   by_cases Ai:j<nk
   .
    obtain⟨b3,o3,rfl⟩:=aS.addr HRW.out V25;refine M9192 ?_;intro x hx Ak us Ad Ab;obtain⟨u0,u1,u2,u3,u4,rfl⟩:=eO (Ad.len.trans (cE x));refine M9183 ?_;clear Ab;intro Ab t0 t1 t2 t3 t4 hsx HC HJ HNX;clear Ab hx Ak hsx Ad;generalize hsp:cW x (d+1) false (m-(aG (ks.take j):Int))=rr at *;have HSP:=hid hsp;clear hsp;go_wp2_with fail;refine M964 ?_;intro w4 Bg hL4 HG4 HL4;clear HC t0 t1 t2 t3 t4 q3 x0 hb Bg hL4;cases rr
    .
     have he:Hid (bL (.mk 6 n name ks bs es) d left=false):=by show _=_;rw[HE.out];unfold kA;rw[fF HJ.out HSP.out];rfl
     have hyy:=aD HY.out HG4.out;exact U277
    .
     exact U264
   .
    have:j=nk:=V6
    subst this;refine M9190 ?_;intro HSE hle3 hLf hyy q4 q5 HC
    rw[Bi.out,show nb=0 by omega]at HC
    generalize hsp:bP bs (d+1) (m-(aG ks:Int))=r4 at *;have HS4:=hid hsp;clear hsp Bk hLj hnj Bc;go_wp2_with fail;refine M953 ?_;clear x0 hb hyy;intro w4 Bg hL4 x0 hb hyy;clear HC q3 q4 q5 hLf Bg;cases r4
    .
     have he:Hid (bL (.mk 6 n name ks bs es) d left=false):=by show _=_;rw[HE.out];unfold kA;rw[HS4.out];simp
     clear hL4;exact U277
    .
     refine M9191 ?_;intro hle4 hL5 q5 HC;generalize hsp:bP es (d+1) (m-(aG ks:Int)-(aW bs:Int))=r5 at *;have HS5:=hid hsp;clear hsp hL4;go_wp2_with fail;refine HC.mono ?_;rintro e w5 ⟨rfl,hg5,hL6⟩
     have he:Hid (bL (.mk 6 n name ks bs es) d left=r5):=by show _=_;rw[HE.out];unfold kA;rw[HSE.out,HS4.out,HS5.out];rfl
     exact U272
 .
  by_cases c1:(nk:Int)=1
  rotate_left
  .
   have c1':((1:Int) != (nk:Int))=true:=by simp;omega
   have he:Hid (bL (.mk 7 n name ks bs es) d left=false):=bO Bn.out Bi.out Bh.out (cA (.inr (.inl c1)))
   exact U266
  refine M998 ?_;intro c1' HC1 hkn;clear c1
  by_cases b1:nb=0
  rotate_left
  .
   have b1':(0:Int)<(nb:Int):=V6;clear hkn
   have he:Hid (bL (.mk 7 n name ks bs es) d left=false):=bO Bn.out Bi.out Bh.out (cA (.inr (.inr (.inr (.inr (.inr (.inl ⟨b1,by decide⟩)))))))
   exact U266
  have b1':¬(0:Int)<(nb:Int):=V6
  have HB1:Hid ((decide (nb=0) || eV 7)=true):=by show _=_;rw[zB3 b1];rfl
  clear b1
  by_cases b2:ne=0
  rotate_left
  .
   have b2':(0:Int)<(ne:Int):=V6;clear hkn
   have he:Hid (bL (.mk 7 n name ks bs es) d left=false):=bO Bn.out Bi.out Bh.out (cA (.inr (.inr (.inr (.inr (.inr (.inr ⟨b2,by decide⟩)))))))
   exact U266
  have b2':¬(0:Int)<(ne:Int):=V6
  have HB2:Hid ((decide (ne=0) || decide ((7:Int)=2))=true):=by show _=_;rw[zB3 b2];rfl
  clear b2;have hn3:=bI a2 nn c2 name false w2 (h2.below hb) V6
  by_cases e0:nn=0
  rotate_left
  .
   have e0':(0:Int)<(nn:Int):=V6;clear hkn
   have he:Hid (bL (.mk 7 n name ks bs es) d left=false):=bO Bn.out Bi.out Bh.out (cA (.inr (.inr (.inr (.inr (.inl ⟨by decide,by rw[HNA.out];exact e0⟩))))))
   exact U266
  refine M9212 ?_;clear e0;intro e0' HE0 HKN;clear hkn
  by_cases n0:n=0
  rotate_left
  .
   have n0':(n != 0)=true:=by simpa using n0
   have he:Hid (bL (.mk 7 n name ks bs es) d left=false):=bO Bn.out Bi.out Bh.out (cA (.inr (.inr (.inl V51))))
   exact U266
  have n0':(n != 0)=false:=by simpa using n0
  have HNN:Hid (inB n 0 (dA 7)=true):=by show _=_;rw[n0];decide
  clear n0
  have HLC:Hid (gH 7 n name ks.length bs.length es.length=true):=by show _=_;rw[Bn.out,Bi.out,Bh.out];exact iD HI1.out HC1.out HNN.out (by rw[show dH 7=false from by decide];exact zB3 HE0.out) HB1.out HB2.out
  obtain⟨b3,o3,rfl⟩:=h3.addr (by rw[As,HKN.out];omega)
  obtain⟨xk,hxk⟩:∃x,ks=[x]:=aKq (Bn.out.trans HKN.out)
  have hx0:(exs ks)[0]?=some xk.fl:=by rw[hxk];simp[exs]
  obtain⟨uk,hvk,hck⟩:=(h3.el hx0).vals;obtain⟨v0,v1,v2,v3,v4,rfl⟩:=eO (hvk.len.trans (cE xk))
  have hv0:v0=.int .i64 xk.kind:=by
   obtain⟨e0,e1,e2,e3,e4⟩:=xk;unfold Ex.fl at hvk;obtain⟨y0,_,ey,ry,_⟩:=hvk;simp only[zK2]at ey;rw[ey.1];exact ry
  have tk:w2.cell? ⟨b3,o3,none⟩=some (.int .i64 xk.kind):=by
   have:=aB (hck 0 _ rfl) hb
   rw[hv0]at this
   simpa using this
  have hkp:(0:Int)<(nk:Int):=by rw[HKN.out];omega
  have HXK:Hid (ks=[xk]):=hxk
  clear hck hvk hx0 hv0 hxk
  by_cases k6:xk.kind=6
  rotate_left
  .
   have k6':(xk.kind != 6)=true:=by simpa using k6
   have he:Hid (bL (.mk 7 n name ks bs es) d left=false):=by show _=_;rw[HXK.out];exact zX k6
   clear k6;generalize xk.kind=kk at *;exact U266
  have k6':(xk.kind != 6)=false:=by simpa using k6
  have HCC:Hid ((!decide ((7:Int)=7) || ks.any iE)=true):=by show _=_;rw[HXK.out];simp[iE,k6]
  clear k6;generalize xk.kind=kk at *
  have HE:Hid (bL (.mk 7 n name ks bs es) d left=kA ks bs es (d+1) m):=by
   exact U62
  have HD:Hid (kX (.mk 7 n name ks bs es)=1+(aG ks+aW bs+aW es)):=by show _=_;simp[kX]
  refine M920 ?_;intro HX0 HY HB3 HLF HRW HRB HRE hm0 hm1 hd2 hd3;go_wp2_with fail;clear q0 q1 q2 q3 q4 q5 x0 yy hb hL2 h3 h4 h5 z0 e0' tk b1' b2'
  go_loopw [11] (fun i wr=>∃j:Nat,j<=nk/\i=.int .i64 j/\Hid (w2.grownBy wr (some g))/\Hid (Lft wr g (m-(aG (ks.take j):Int)))/\Hid ((aG (ks.take j):Int)<=m)/\Hid (∀i x,i<j->ks[i]?=some x->cW x (d+1) false (m-(aG (ks.take i):Int))=true)) (fun i _=>nk-(intOf i).toNat)
  case atStart=>exact⟨0,zD1 _,rfl,aN0 _ _,HLF,by show(_:Int)<=_;simp[aG];omega,by show ∀_ _,_;omega⟩
  case round=>
   obtain⟨j,hj,rfl,Bk,hLj,hnj,Bc⟩:=hrel;clear HLF;refine M9206 ?_;intro x0 q3 hb
   by_cases Ai:j<nk
   .
    have HRX:=HRW;refine M9192 ?_;intro x hx Ak us Ad Ab;obtain⟨u0,u1,u2,u3,u4,rfl⟩:=eO (Ad.len.trans (cE x));refine M9183 ?_;clear Ab;intro Ab t0 t1 t2 t3 t4 hsx HC HJ HNX;clear Ab hx Ak hsx Ad;generalize hsp:cW x (d+1) false (m-(aG (ks.take j):Int))=rr at *;have HSP:=hid hsp;clear hsp;go_wp2_with fail;refine M964 ?_;intro w4 Bg hL4 HG4 HL4;clear HC t0 t1 t2 t3 t4 q3 x0 hb Bg hL4;cases rr
    .
     have he:Hid (bL (.mk 7 n name ks bs es) d left=false):=by show _=_;rw[HE.out];unfold kA;rw[fF HJ.out HSP.out];rfl
     have hyy:=aD HY.out HG4.out;exact U277
    .
     exact U264
   .
    have:j=nk:=V6
    subst this;refine M9190 ?_;intro HSE hle3 hLf hyy q4 q5 HC
    rw[Bi.out,show nb=0 by omega]at HC
    generalize hsp:bP bs (d+1) (m-(aG ks:Int))=r4 at *;have HS4:=hid hsp;clear hsp Bk hLj hnj Bc;go_wp2_with fail;refine M953 ?_;clear x0 hb hyy;intro w4 Bg hL4 x0 hb hyy;clear HC q3 q4 q5 hLf Bg;cases r4
    .
     have he:Hid (bL (.mk 7 n name ks bs es) d left=false):=by show _=_;rw[HE.out];unfold kA;rw[HS4.out];simp
     clear hL4;exact U277
    .
     refine M9191 ?_;intro hle4 hL5 q5 HC;generalize hsp:bP es (d+1) (m-(aG ks:Int)-(aW bs:Int))=r5 at *;have HS5:=hid hsp;clear hsp hL4;go_wp2_with fail;refine HC.mono ?_;rintro e w5 ⟨rfl,hg5,hL6⟩
     have he:Hid (bL (.mk 7 n name ks bs es) d left=r5):=by show _=_;rw[HE.out];unfold kA;rw[HSE.out,HS4.out,HS5.out];rfl
     exact U272
end Go.Proofs.YtegkhlkjfeafjaaGreatDoor
