import Derived.Test.YtffphdacgblaoaaGreatDoorSpEx
namespace Go.Proofs.YtffphdacgblaoaaGreatDoor
open Go.RowKit
set_option linter.unusedVariables false
set_option linter.unusedSimpArgs false
set_option maxRecDepth 100000
theorem Q20{p:Prop}(h:p:=by have:=(zC1.1 hy).1;rw[HNK.out]at this;exact this):p:=h
theorem Q35{p:Prop}(h:p:=by rw[HNK.out];exact Aj):p:=h
theorem Q37{p:Prop}(h:p:=by rw[HNK.out];exact zB0 _):p:=h
theorem Q42{p:Prop}(h:p:=by simp[inB,dE];omega):p:=h
theorem U6{p:Prop}(h:p:=by
 clear HC q5
 go_wp2
 go_ret
 rw[he.out]
 exact⟨rfl,aD hyy hg5,fun h=>by
  have:=hL6 h
  rw[HD.out,show left-((1+(aF ks+aU bs+aU es):Nat):Int)=m-(aF ks:Int)-(aU bs:Int)-(aU es:Int) by have:=HMM.out;omega]
  exact this⟩):p:=h
theorem U28{p:Prop}(h:p:=by
 show _=_
 rw[jF HLC.out HCC.out Q21 Q0,HMM.out]):p:=h
theorem M93{p q:Prop}(k:q)(h:Kx q->p:=by
 intro kQ
 replace Ab:∀i v,_->_:=fun i v hv=>aC (Ab i v hv) hb
 have t0:wr.cell? ⟨b3,o3+j*5,none⟩=some u0:=Ab 0 _ rfl
 have t1:wr.cell? ⟨b3,o3+j*5+1,none⟩=some u1:=Ab 1 _ rfl
 have t2:wr.cell? ⟨b3,o3+j*5+2,none⟩=some u2:=Ab 2 _ rfl
 have t3:wr.cell? ⟨b3,o3+j*5+3,none⟩=some u3:=Ab 3 _ rfl
 have t4:wr.cell? ⟨b3,o3+j*5+4,none⟩=some u4:=Ab 4 _ rfl
 have hsx:=zF2 (aX (zA3 Bc)) hs2
 have HC:=S3 x (zA3 hx) w0 wr [u0,u1,u2,u3,u4] g (m-(aF (ks.take j):Int)) (d+1) false Ai hb hg hLj.out Q27 Q0 hd3 hd2 hsx
 simp only[agg]at HC
 have HJ:=hid hx
 have HNX:=hid (dA hx)
 revert HNX;revert HJ;revert HC;revert hsx;revert t4;revert t3;revert t2;revert t1;revert t0;revert Ab
 exact kQ.o):p:=h ⟨k⟩
theorem M910{p q:Prop}(k:q)(h:Kx q->p:=by
 intro kQ
 have HX0:Hid _:=x0
 have HY:Hid (w.grownBy w2 (some g)):=yy
 have HB3:Hid (Below w0.heap.size w0 w2):=hb
 have HLF:Hid (Lft w2 g (m-(aF (ks.take 0):Int))):=by show Lft _ _ _;simpa [aF] using hL2
 have HRW:=hid h3
 have HRB:=hid h4
 have HRE:=hid h5
 have hm0:0<=m:=Q0
 have hm1:m<=250:=by have:=HMM.out;omega
 have hd2:d+1<=17:=Q0
 have hd3:0<=d+1:=Q0
 revert hd3;revert hd2;revert hm1;revert hm0;revert HRE;revert HRB;revert HRW;revert HLF;revert HB3;revert HY;revert HX0
 exact kQ.o):p:=h ⟨k⟩
theorem M914{p q:Prop}(k:q)(h:Kx q->p:=by
 intro kQ
 have HSE:Hid (eY ks (d+1) false m=true):=dZ (fun i y hy=>Av.out i y Q20 hy) hm0
 have hle3:=iZ HSE.out
 have hLf:=hLj.out
 rw[zD3 Q37]at hLf
 have hyy:=aD HY.out Az.out
 have q4:=x0.k 4
 have q5:=x0.k 5
 have HC:=S4 w0 wr a4 c4 g (m-(aF ks:Int)) (d+1) HRB.out hb hg hLf Q0 Q0 hd3 hd2 hs3
 revert HC;revert q5;revert q4;revert hyy;revert hLf;revert hle3;revert HSE
 exact kQ.o):p:=h ⟨k⟩
theorem M922{p q:Prop}(k:q)(h:Kx q->p:=by
 intro kQ
 have hle4:=eR HS4.out
 have hL5:=hL4 rfl
 have q5:=x0.k 5
 have HC:=S5 w0 w4 a5 c5 g (m-(aF ks:Int)-(aU bs:Int)) (d+1) HRE.out hb hg hL5 Q0 Q0 hd3 hd2 hs4
 rw[Ax.out,show ne=0 by omega]at HC
 revert HC;revert q5;revert hL5;revert hle4
 exact kQ.o):p:=h ⟨k⟩
theorem M923{p q:Prop}(k:q)(h:Kx q->p:=by
 intro kQ
 obtain⟨x,hx⟩:∃x,ks[j]?=some x:=⟨ks[j]' Q35,zA0 _⟩
 have Bc:(exs ks)[j]?=some x.fl:=by rw[aQ,zA2,hx];rfl
 obtain⟨us,Ai,Ab⟩:=(bQ.el HRW.out Bc).vals
 revert Ab;revert Ai;revert us;revert Bc;revert hx;revert x
 exact kQ.o):p:=h ⟨k⟩
theorem M929{p q:Prop}(k:q)(h:Kx q->p:=by
 intro kQ
 refine HC.mono ?_
 rintro e w4 ⟨rfl,Bd,hL4⟩
 replace x0:=x0.grown Bd Al
 replace hb:=bZ hb Bd hg
 replace hyy:=aD hyy Bd
 revert hyy;revert hb;revert x0;revert hL4;revert Bd;revert w4
 exact kQ.o):p:=h ⟨k⟩
theorem M934{p q:Prop}(k:q)(h:Kx q->p:=by
 intro kQ
 refine HC.mono ?_
 rintro e w4 ⟨rfl,Bd,hL4⟩
 have HG4:=hid (aD Az.out Bd)
 have HL4:=hid hL4
 revert HL4;revert HG4;revert hL4;revert Bd;revert w4
 exact kQ.o):p:=h ⟨k⟩
theorem M942{p q:Prop}(k:q)(h:Kx q->p:=by
 intro kQ
 have x0:=Blk.grown HX0.out Az.out Al
 have q3:=x0.k 3
 have hb:=bZ HB3.out Az.out hg
 revert hb;revert q3;revert x0
 exact kQ.o):p:=h ⟨k⟩
theorem M951{p q:Prop}(k:q)(h:Kx q->p:=by
 intro kQ
 have e0':¬(0:Int)<(nn:Int):=Q0
 have HE0:=hid (HNA.out.trans e0)
 have HKN:Hid _:=hkn
 revert HKN;revert HE0;revert e0'
 exact kQ.o):p:=h ⟨k⟩
theorem M955{p q:Prop}(k:q)(h:Kx q->p:=by
 intro kQ
 have c1':((1:Int) != (nk:Int))=false:=by simp;omega
 have HC1:=hid c1
 have hkn:nk=1:=Q0
 revert hkn;revert HC1;revert c1'
 exact kQ.o):p:=h ⟨k⟩
def aP7 (x:St):Prop:=∀(w0 w:World) (vs:List Value) (g:Nat) (left d:Int),cC w0 x.fl vs->Below w0.heap.size w0 w->w0.heap.size<=g->Lft w g left->0<=left->left<=250->0<=d->d<=17->aL x.fl<=1048576 →
 Calls Tryz.prog 90 #[agg vs,.int .i64 d,.pointer (some ⟨g,0,none⟩)] w fun e w'=>e=.returned (.bool (bI x d left))/\w.grownBy w' (some g)/\(bI x d left=true->Lft w' g (left-(mT x:Int)))
def aJm (l:List St):Prop:=∀(w0 w:World) (a:Option Addr) (c g:Nat) (left d:Int),bQ w0 a c 6 (sts l)->Below w0.heap.size w0 w->w0.heap.size<=g->Lft w g left->0<=left->left<=250->0<=d->d<=17->aH (sts l)<=1048576 →
 Calls Tryz.prog 54 #[.slice a l.length c,.int .i64 d,.pointer (some ⟨g,0,none⟩)] w fun e w'=>e=.returned (.bool (cI l d left))/\w.grownBy w' (some g)/\(cI l d left=true->Lft w' g (left-(aU l:Int)))
theorem aOj {α:Type}{l:List α}(h:l.length=1):∃x,l=[x]:=by
 match l,h with
 | [x],_=>exact⟨x,rfl⟩
theorem bJ {k n:Int}{name:List Int}{ks:List Ex}{bs es:List St}{d left:Int}{nk nb ne:Nat}(h1:ks.length=nk)(h2:bs.length=nb)(h3:es.length=ne)(h:iI k n name nk nb ne=false):bI (.mk k n name ks bs es) d left=false:=by
 refine aC5 ?_;rw[h1,h2,h3];exact h
set_option maxHeartbeats 40000000 in
theorem aQf (k n:Int)(name:List Int)(ks:List Ex)(bs es:List St)(S3:∀x ∈ ks,aJn x)(S4:aJm bs)(S5:aJm es):aP7 (.mk k n name ks bs es):=by
 intro w0 w vs g left d hr hb hg hL hl0 hl1 hd0 hd1 hs;unfold St.fl at hr
 have es9:aL (St.mk k n name ks bs es).fl=name.length+((exs ks).length+aH (exs ks))+((sts bs).length+aH (sts bs))+((sts es).length+aH (sts es)):=by simp[St.fl,aL,Fl.len] <;> omega
 rw[es9]at hs;have hs1:name.length<=1048576:=Q0
 have hs2:aH (exs ks)<=1048576:=Q0
 have hs3:aH (sts bs)<=1048576:=Q0
 have hs4:aH (sts es)<=1048576:=Q0
 clear hs es9;obtain⟨y0,_,rfl,rfl,y1,_,rfl,rfl,y2,_,rfl,⟨a2,c2,rfl,h2,hc2,_⟩,y3,_,rfl,h3',y4,_,rfl,Be,y5,_,rfl,h5',rfl⟩:=hr;obtain⟨a3,c3,rfl,h3⟩:=h3'.list;obtain⟨a4,c4,rfl,h4⟩:=Be.list;obtain⟨a5,c5,rfl,h5⟩:=h5'.list;clear h3' Be h5'
 have An:(exs ks).length=ks.length:=by simp[aQ]
 refine M925 ?_;intro hbl hel
 have hk9:ks.length<=9223372036854775807:=by have h7:=h3.cap;have h6:=h3.most;unfold maxLen at h6;omega
 have hb9:bs.length<=9223372036854775807:=by have h7:=h4.cap;have h6:=h4.most;unfold maxLen at h6;omega
 have he9:es.length<=9223372036854775807:=by have h7:=h5.cap;have h6:=h5.most;unfold maxLen at h6;omega
 rw[An,hbl,hel];clear hbl hel;simp only[agg]
 obtain⟨nn,hnn⟩:∃z,z=name.length:=⟨_,rfl⟩
 rw[<-hnn]at h2 hs1 hc2 ⊢;have HNA:=hid hnn.symm;clear hnn
 obtain⟨nk,hnk⟩:∃z,z=ks.length:=⟨_,rfl⟩
 obtain⟨nb,hnb⟩:∃z,z=bs.length:=⟨_,rfl⟩
 obtain⟨ne,Aw⟩:∃z,z=es.length:=⟨_,rfl⟩
 rw[<-hnk]at An hk9 ⊢;rw[<-hnb]at hb9 ⊢;rw[<-Aw]at he9 ⊢;have HNK:=hid hnk.symm;have Ay:=hid hnb.symm;have Ax:=hid Aw.symm;clear hnk hnb Aw;have hgl:=Blk.lt hL
 have Al:w.heap.size ≠ g:=Q0
 have yy:=aB w (.cells #[.int .i64 k,.int .i64 n,.slice a2 nn c2,.slice a3 nk c3,.slice a4 nb c4,.slice a5 ne c5] 116 (0,0)) (some g);have x0:=Blk.new w 116 [.int .i64 k,.int .i64 n,.slice a2 nn c2,.slice a3 nk c3,.slice a4 nb c4,.slice a5 ne c5];have hL1:=Blk.old hL (o:=.cells #[.int .i64 k,.int .i64 n,.slice a2 nn c2,.slice a3 nk c3,.slice a4 nb c4,.slice a5 ne c5] 116 (0,0))
 replace hb:Below w0.heap.size w0 (w.alloc (.cells #[.int .i64 k,.int .i64 n,.slice a2 nn c2,.slice a3 nk c3,.slice a4 nb c4,.slice a5 ne c5] 116 (0,0))):=hb.alloc hb.size _
 clear hL;go_enter Tryz.func90,Tryz.ntmps90;go_upto_region 1 with fail;generalize w.alloc (.cells #[.int .i64 k,.int .i64 n,.slice a2 nn c2,.slice a3 nk c3,.slice a4 nb c4,.slice a5 ne c5] 116 (0,0))=w1 at *;have z0:=hL1.k 0;have z1:=hL1.free 0;go_upto_region 2 with fail
 have hL2:Lft _ g (left-1):=Blk.set hL1 (i:=0) (.int .i64 (left-1))
 have hq:w1.grownBy (w1.setCell ⟨g,0,none⟩ (.int .i64 (left-1))) (some g):=mW
 replace x0:=x0.grown hq Al;replace yy:=aD yy hq;replace hb:=bZ hb hq hg;generalize w1.setCell ⟨g,0,none⟩ (.int .i64 (left-1))=w2 at *;generalize w.heap.size=gx at *;clear z0 z1 hL1 hq hgl
 obtain⟨m,hm⟩:∃m,m=left-1:=⟨_,rfl⟩
 rw[<-hm]at hL2
 have HMM:Hid (m=left-1):=hm
 have z0:=hL2.k 0;obtain⟨q0,q1,q2,q3,q4,q5⟩:=x0.c6
 by_cases r1:m<0
 .
  have he:Hid (bI (.mk k n name ks bs es) d left=false):=nR (.inl Q0)
  clear hm;exact U2
 by_cases r2:16<d
 .
  have he:Hid (bI (.mk k n name ks bs es) d left=false):=nR (.inr r2)
  clear hm;exact U2
 clear hm
 by_cases i1:inB k 0 7=true
 rotate_left
 .
  have hno:inB k 0 7=false:=by simpa using i1
  have he:Hid (bI (.mk k n name ks bs es) d left=false):=bJ HNK.out Ay.out Ax.out (cA (.inl hno))
  have g0:(k == 0)=false:=by simp only[inB,zI0,zH0]at hno;simp only[beq_eq_false_iff_ne,ne_eq];omega
  have g1:(k == 1)=false:=by simp only[inB,zI0,zH0]at hno;simp only[beq_eq_false_iff_ne,ne_eq];omega
  have g2:(k == 2)=false:=by simp only[inB,zI0,zH0]at hno;simp only[beq_eq_false_iff_ne,ne_eq];omega
  have g3:(k == 3)=false:=by simp only[inB,zI0,zH0]at hno;simp only[beq_eq_false_iff_ne,ne_eq];omega
  have g4:(k == 4)=false:=by simp only[inB,zI0,zH0]at hno;simp only[beq_eq_false_iff_ne,ne_eq];omega
  have g5:(k == 5)=false:=by simp only[inB,zI0,zH0]at hno;simp only[beq_eq_false_iff_ne,ne_eq];omega
  have g6:(k == 6)=false:=by simp only[inB,zI0,zH0]at hno;simp only[beq_eq_false_iff_ne,ne_eq];omega
  have g7:(k == 7)=false:=by simp only[inB,zI0,zH0]at hno;simp only[beq_eq_false_iff_ne,ne_eq];omega
  have g8:((-1:Int) != (nk:Int))=true:=by simp only[bne_iff_ne,ne_eq];omega
  clear hno i1;exact U2
 have h8:=aMk i1;have HI1:=hid i1;clear i1
 rcases h8 with rfl|rfl|rfl|rfl|rfl|rfl|rfl|rfl
 .
  by_cases c1:(nk:Int)=1
  rotate_left
  .
   have c1':((1:Int) != (nk:Int))=true:=by simp;omega
   have he:Hid (bI (.mk 0 n name ks bs es) d left=false):=bJ HNK.out Ay.out Ax.out (cA (.inr (.inl c1)))
   exact U2
  refine M955 ?_;intro c1' HC1 hkn;clear c1
  by_cases b1:nb=0
  rotate_left
  .
   have b1':(0:Int)<(nb:Int):=Q0;clear hkn
   have he:Hid (bI (.mk 0 n name ks bs es) d left=false):=bJ HNK.out Ay.out Ax.out (cA (.inr (.inr (.inr (.inr (.inr (.inl ⟨b1,by decide⟩)))))))
   exact U2
  have b1':¬(0:Int)<(nb:Int):=Q0
  have HB1:Hid ((decide (nb=0) || fE 0)=true):=by show _=_;rw[zB3 b1];rfl
  clear b1
  by_cases b2:ne=0
  rotate_left
  .
   have b2':(0:Int)<(ne:Int):=Q0;clear hkn
   have he:Hid (bI (.mk 0 n name ks bs es) d left=false):=bJ HNK.out Ay.out Ax.out (cA (.inr (.inr (.inr (.inr (.inr (.inr ⟨b2,by decide⟩)))))))
   exact U2
  have b2':¬(0:Int)<(ne:Int):=Q0
  have HB2:Hid ((decide (ne=0) || decide ((0:Int)=2))=true):=by show _=_;rw[zB3 b2];rfl
  clear b2;have hn3:=bH a2 nn c2 name false w2 (h2.below hb) Q0
  by_cases e0:nn=0
  .
   have hno:aK name false=false:=dI Q47
   rw[e0]at q2 ⊢;clear hkn
   have he:Hid (bI (.mk 0 n name ks bs es) d left=false):=bJ HNK.out Ay.out Ax.out (cA (.inr (.inr (.inr (.inl ⟨by decide,hno⟩)))))
   exact U2
  have e0':(0:Int)<(nn:Int):=Q0;generalize hno_:aK name false=ok at *;have HNB:=hid hno_;clear hno_
  have HKN:Hid _:=hkn
  clear hkn;go_wp2_with fail;refine hn3.mono ?_;rintro e w2 ⟨rfl,rfl⟩;clear hn3;cases ok
  .
   have he:Hid (bI (.mk 0 n name ks bs es) d left=false):=bJ HNK.out Ay.out Ax.out (cA (.inr (.inr (.inr (.inl ⟨by decide,HNB.out⟩)))))
   exact U2
  by_cases n0:n=0
  rotate_left
  .
   have n0':(n != 0)=true:=by simpa using n0
   have he:Hid (bI (.mk 0 n name ks bs es) d left=false):=bJ HNK.out Ay.out Ax.out (cA (.inr (.inr (.inl Q42))))
   exact U2
  have n0':(n != 0)=false:=by simpa using n0
  have HNN:Hid (inB n 0 (dE 0)=true):=by show _=_;rw[n0];decide
  clear n0
  have HLC:Hid (iI 0 n name ks.length bs.length es.length=true):=by show _=_;rw[HNK.out,Ay.out,Ax.out];exact jD HI1.out HC1.out HNN.out (by rw[show dO 0=true from by decide];exact HNB.out) HB1.out HB2.out
  have HCC:Hid ((!decide ((0:Int)=7) || ks.any jE)=true):=by show _=_;simp
  have HE:Hid (bI (.mk 0 n name ks bs es) d left=lB ks bs es (d+1) m):=by
   exact U28
  have HD:Hid (mT (.mk 0 n name ks bs es)=1+(aF ks+aU bs+aU es)):=by show _=_;simp[mT]
  refine M910 ?_;intro HX0 HY HB3 HLF HRW HRB HRE hm0 hm1 hd2 hd3;go_wp2_with fail;clear q0 q1 q2 q3 q4 q5 x0 yy hb hL2 h3 h4 h5 z0 e0' b1' b2'
  go_loopw [11] (fun i wr=>∃j:Nat,j<=nk/\i=.int .i64 j/\Hid (w2.grownBy wr (some g))/\Hid (Lft wr g (m-(aF (ks.take j):Int)))/\Hid ((aF (ks.take j):Int)<=m)/\Hid (∀i x,i<j->ks[i]?=some x->dJ x (d+1) false (m-(aF (ks.take i):Int))=true)) (fun i _=>nk-(intOf i).toNat)
  case atStart=>exact⟨0,zD1 _,rfl,aR _ _,HLF,by show(_:Int)<=_;simp[aF];omega,by show ∀_ _,_;omega⟩
  case round=>
   obtain⟨j,hj,rfl,Az,hLj,hnj,Av⟩:=hrel;clear HLF;refine M942 ?_;intro x0 q3 hb
   by_cases Aj:j<nk
   .
    obtain⟨b3,o3,rfl⟩:=bQ.addr HRW.out Q19;refine M923 ?_;intro x hx Bc us Ai Ab;obtain⟨u0,u1,u2,u3,u4,rfl⟩:=gP (Ai.len.trans (cF x));refine M93 ?_;clear Ab;intro Ab t0 t1 t2 t3 t4 hsx HC HJ HNX;clear Ab hx Bc hsx Ai;generalize hsp:dJ x (d+1) false (m-(aF (ks.take j):Int))=rr at *;have HSP:=hid hsp;clear hsp;go_wp2_with fail;refine M934 ?_;intro w4 Bd hL4 HG4 HL4;clear HC t0 t1 t2 t3 t4 q3 x0 hb Bd hL4;cases rr
    .
     have he:Hid (bI (.mk 0 n name ks bs es) d left=false):=by show _=_;rw[HE.out];unfold lB;rw[fV HJ.out HSP.out];rfl
     have hyy:=aD HY.out HG4.out;exact U9
    .
     exact U1
   .
    have:j=nk:=Q0
    subst this;refine M914 ?_;intro HSE hle3 hLf hyy q4 q5 HC
    rw[Ay.out,show nb=0 by omega]at HC
    generalize hsp:cI bs (d+1) (m-(aF ks:Int))=r4 at *;have HS4:=hid hsp;clear hsp Az hLj hnj Av;go_wp2_with fail;refine M929 ?_;clear x0 hb hyy;intro w4 Bd hL4 x0 hb hyy;clear HC q3 q4 q5 hLf Bd;cases r4
    .
     have he:Hid (bI (.mk 0 n name ks bs es) d left=false):=by show _=_;rw[HE.out];unfold lB;rw[HS4.out];simp
     clear hL4;exact U9
    .
     refine M922 ?_;intro hle4 hL5 q5 HC;generalize hsp:cI es (d+1) (m-(aF ks:Int)-(aU bs:Int))=r5 at *;have HS5:=hid hsp;clear hsp hL4;go_wp2_with fail;refine HC.mono ?_;rintro e w5 ⟨rfl,hg5,hL6⟩
     have he:Hid (bI (.mk 0 n name ks bs es) d left=r5):=by show _=_;rw[HE.out];unfold lB;rw[HSE.out,HS4.out,HS5.out];rfl
     exact U6
 .
  by_cases c1:(nk:Int)=2
  rotate_left
  .
   have c1':((2:Int) != (nk:Int))=true:=by simp;omega
   have he:Hid (bI (.mk 1 n name ks bs es) d left=false):=bJ HNK.out Ay.out Ax.out (cA (.inr (.inl c1)))
   exact U2
  have c1':((2:Int) != (nk:Int))=false:=by simp;omega
  have HC1:=hid c1;have hkn:nk=2:=Q0;clear c1
  by_cases b1:nb=0
  rotate_left
  .
   have b1':(0:Int)<(nb:Int):=Q0;clear hkn
   have he:Hid (bI (.mk 1 n name ks bs es) d left=false):=bJ HNK.out Ay.out Ax.out (cA (.inr (.inr (.inr (.inr (.inr (.inl ⟨b1,by decide⟩)))))))
   exact U2
  have b1':¬(0:Int)<(nb:Int):=Q0
  have HB1:Hid ((decide (nb=0) || fE 1)=true):=by show _=_;rw[zB3 b1];rfl
  clear b1
  by_cases b2:ne=0
  rotate_left
  .
   have b2':(0:Int)<(ne:Int):=Q0;clear hkn
   have he:Hid (bI (.mk 1 n name ks bs es) d left=false):=bJ HNK.out Ay.out Ax.out (cA (.inr (.inr (.inr (.inr (.inr (.inr ⟨b2,by decide⟩)))))))
   exact U2
  have b2':¬(0:Int)<(ne:Int):=Q0
  have HB2:Hid ((decide (ne=0) || decide ((1:Int)=2))=true):=by show _=_;rw[zB3 b2];rfl
  clear b2;have hn3:=bH a2 nn c2 name false w2 (h2.below hb) Q0
  by_cases e0:nn=0
  .
   have hno:aK name false=false:=dI Q47
   rw[e0]at q2 ⊢;clear hkn
   have he:Hid (bI (.mk 1 n name ks bs es) d left=false):=bJ HNK.out Ay.out Ax.out (cA (.inr (.inr (.inr (.inl ⟨by decide,hno⟩)))))
   exact U2
  have e0':(0:Int)<(nn:Int):=Q0;generalize hno_:aK name false=ok at *;have HNB:=hid hno_;clear hno_
  have HKN:Hid _:=hkn
  clear hkn;go_wp2_with fail;refine hn3.mono ?_;rintro e w2 ⟨rfl,rfl⟩;clear hn3;cases ok
  .
   have he:Hid (bI (.mk 1 n name ks bs es) d left=false):=bJ HNK.out Ay.out Ax.out (cA (.inr (.inr (.inr (.inl ⟨by decide,HNB.out⟩)))))
   exact U2
  by_cases n0:n=0
  rotate_left
  .
   have n0':(n != 0)=true:=by simpa using n0
   have he:Hid (bI (.mk 1 n name ks bs es) d left=false):=bJ HNK.out Ay.out Ax.out (cA (.inr (.inr (.inl Q42))))
   exact U2
  have n0':(n != 0)=false:=by simpa using n0
  have HNN:Hid (inB n 0 (dE 1)=true):=by show _=_;rw[n0];decide
  clear n0
  have HLC:Hid (iI 1 n name ks.length bs.length es.length=true):=by show _=_;rw[HNK.out,Ay.out,Ax.out];exact jD HI1.out HC1.out HNN.out (by rw[show dO 1=true from by decide];exact HNB.out) HB1.out HB2.out
  have HCC:Hid ((!decide ((1:Int)=7) || ks.any jE)=true):=by show _=_;simp
  have HE:Hid (bI (.mk 1 n name ks bs es) d left=lB ks bs es (d+1) m):=by
   exact U28
  have HD:Hid (mT (.mk 1 n name ks bs es)=1+(aF ks+aU bs+aU es)):=by show _=_;simp[mT]
  refine M910 ?_;intro HX0 HY HB3 HLF HRW HRB HRE hm0 hm1 hd2 hd3;go_wp2_with fail;clear q0 q1 q2 q3 q4 q5 x0 yy hb hL2 h3 h4 h5 z0 e0' b1' b2'
  go_loopw [11] (fun i wr=>∃j:Nat,j<=nk/\i=.int .i64 j/\Hid (w2.grownBy wr (some g))/\Hid (Lft wr g (m-(aF (ks.take j):Int)))/\Hid ((aF (ks.take j):Int)<=m)/\Hid (∀i x,i<j->ks[i]?=some x->dJ x (d+1) false (m-(aF (ks.take i):Int))=true)) (fun i _=>nk-(intOf i).toNat)
  case atStart=>exact⟨0,zD1 _,rfl,aR _ _,HLF,by show(_:Int)<=_;simp[aF];omega,by show ∀_ _,_;omega⟩
  case round=>
   obtain⟨j,hj,rfl,Az,hLj,hnj,Av⟩:=hrel;clear HLF;refine M942 ?_;intro x0 q3 hb
   by_cases Aj:j<nk
   .
    obtain⟨b3,o3,rfl⟩:=bQ.addr HRW.out Q19;refine M923 ?_;intro x hx Bc us Ai Ab;obtain⟨u0,u1,u2,u3,u4,rfl⟩:=gP (Ai.len.trans (cF x));refine M93 ?_;clear Ab;intro Ab t0 t1 t2 t3 t4 hsx HC HJ HNX;clear Ab hx Bc hsx Ai;generalize hsp:dJ x (d+1) false (m-(aF (ks.take j):Int))=rr at *;have HSP:=hid hsp;clear hsp;go_wp2_with fail;refine M934 ?_;intro w4 Bd hL4 HG4 HL4;clear HC t0 t1 t2 t3 t4 q3 x0 hb Bd hL4;cases rr
    .
     have he:Hid (bI (.mk 1 n name ks bs es) d left=false):=by show _=_;rw[HE.out];unfold lB;rw[fV HJ.out HSP.out];rfl
     have hyy:=aD HY.out HG4.out;exact U9
    .
     exact U1
   .
    have:j=nk:=Q0
    subst this;refine M914 ?_;intro HSE hle3 hLf hyy q4 q5 HC
    rw[Ay.out,show nb=0 by omega]at HC
    generalize hsp:cI bs (d+1) (m-(aF ks:Int))=r4 at *;have HS4:=hid hsp;clear hsp Az hLj hnj Av;go_wp2_with fail;refine M929 ?_;clear x0 hb hyy;intro w4 Bd hL4 x0 hb hyy;clear HC q3 q4 q5 hLf Bd;cases r4
    .
     have he:Hid (bI (.mk 1 n name ks bs es) d left=false):=by show _=_;rw[HE.out];unfold lB;rw[HS4.out];simp
     clear hL4;exact U9
    .
     refine M922 ?_;intro hle4 hL5 q5 HC;generalize hsp:cI es (d+1) (m-(aF ks:Int)-(aU bs:Int))=r5 at *;have HS5:=hid hsp;clear hsp hL4;go_wp2_with fail;refine HC.mono ?_;rintro e w5 ⟨rfl,hg5,hL6⟩
     have he:Hid (bI (.mk 1 n name ks bs es) d left=r5):=by show _=_;rw[HE.out];unfold lB;rw[HSE.out,HS4.out,HS5.out];rfl
     exact U6
 .
  by_cases c1:(nk:Int)=1
  rotate_left
  .
   have c1':((1:Int) != (nk:Int))=true:=by simp;omega
   have he:Hid (bI (.mk 2 n name ks bs es) d left=false):=bJ HNK.out Ay.out Ax.out (cA (.inr (.inl c1)))
   exact U2
  refine M955 ?_;intro c1' HC1 hkn;clear c1
  have HB1:Hid ((decide (nb=0) || fE 2)=true):=by show _=_;rw[show fE 2=true from by decide];simp
  have HB2:Hid ((decide (ne=0) || decide ((2:Int)=2))=true):=by show _=_;simp
  have hn3:=bH a2 nn c2 name false w2 (h2.below hb) Q0
  by_cases e0:nn=0
  rotate_left
  .
   have e0':(0:Int)<(nn:Int):=Q0;clear hkn
   have he:Hid (bI (.mk 2 n name ks bs es) d left=false):=bJ HNK.out Ay.out Ax.out (cA (.inr (.inr (.inr (.inr (.inl ⟨by decide,by rw[HNA.out];exact e0⟩))))))
   exact U2
  refine M951 ?_;clear e0;intro e0' HE0 HKN;clear hkn
  by_cases n0:n=0
  rotate_left
  .
   have n0':(n != 0)=true:=by simpa using n0
   have he:Hid (bI (.mk 2 n name ks bs es) d left=false):=bJ HNK.out Ay.out Ax.out (cA (.inr (.inr (.inl Q42))))
   exact U2
  have n0':(n != 0)=false:=by simpa using n0
  have HNN:Hid (inB n 0 (dE 2)=true):=by show _=_;rw[n0];decide
  clear n0
  have HLC:Hid (iI 2 n name ks.length bs.length es.length=true):=by show _=_;rw[HNK.out,Ay.out,Ax.out];exact jD HI1.out HC1.out HNN.out (by rw[show dO 2=false from by decide];exact zB3 HE0.out) HB1.out HB2.out
  have HCC:Hid ((!decide ((2:Int)=7) || ks.any jE)=true):=by show _=_;simp
  have HE:Hid (bI (.mk 2 n name ks bs es) d left=lB ks bs es (d+1) m):=by
   exact U28
  have HD:Hid (mT (.mk 2 n name ks bs es)=1+(aF ks+aU bs+aU es)):=by show _=_;simp[mT]
  refine M910 ?_;intro HX0 HY HB3 HLF HRW HRB HRE hm0 hm1 hd2 hd3;go_wp2_with fail;clear q0 q1 q2 q3 q4 q5 x0 yy hb hL2 h3 h4 h5 z0 e0'
  go_loopw [11] (fun i wr=>∃j:Nat,j<=nk/\i=.int .i64 j/\Hid (w2.grownBy wr (some g))/\Hid (Lft wr g (m-(aF (ks.take j):Int)))/\Hid ((aF (ks.take j):Int)<=m)/\Hid (∀i x,i<j->ks[i]?=some x->dJ x (d+1) false (m-(aF (ks.take i):Int))=true)) (fun i _=>nk-(intOf i).toNat)
  case atStart=>exact⟨0,zD1 _,rfl,aR _ _,HLF,by show(_:Int)<=_;simp[aF];omega,by show ∀_ _,_;omega⟩
  case round=>
   obtain⟨j,hj,rfl,Az,hLj,hnj,Av⟩:=hrel;clear HLF;refine M942 ?_;intro x0 q3 hb
   by_cases Aj:j<nk
   .
    obtain⟨b3,o3,rfl⟩:=bQ.addr HRW.out Q19;refine M923 ?_;intro x hx Bc us Ai Ab;obtain⟨u0,u1,u2,u3,u4,rfl⟩:=gP (Ai.len.trans (cF x));refine M93 ?_;clear Ab;intro Ab t0 t1 t2 t3 t4 hsx HC HJ HNX;clear Ab hx Bc hsx Ai;generalize hsp:dJ x (d+1) false (m-(aF (ks.take j):Int))=rr at *;have HSP:=hid hsp;clear hsp;go_wp2_with fail;refine M934 ?_;intro w4 Bd hL4 HG4 HL4;clear HC t0 t1 t2 t3 t4 q3 x0 hb Bd hL4;cases rr
    .
     have he:Hid (bI (.mk 2 n name ks bs es) d left=false):=by show _=_;rw[HE.out];unfold lB;rw[fV HJ.out HSP.out];rfl
     have hyy:=aD HY.out HG4.out;exact U9
    .
     exact U1
   .
    have:j=nk:=Q0
    subst this;refine M914 ?_;intro HSE hle3 hLf hyy q4 q5 HC;rw[Ay.out]at HC;generalize hsp:cI bs (d+1) (m-(aF ks:Int))=r4 at *;have HS4:=hid hsp;clear hsp Az hLj hnj Av;go_wp2_with fail;refine M929 ?_;clear x0 hb hyy;intro w4 Bd hL4 x0 hb hyy;clear HC q3 q4 q5 hLf Bd;cases r4
    .
     have he:Hid (bI (.mk 2 n name ks bs es) d left=false):=by show _=_;rw[HE.out];unfold lB;rw[HS4.out];simp
     clear hL4;exact U9
    .
     have hle4:=eR HS4.out;have hL5:=hL4 rfl;have q5:=x0.k 5;have HC:=S5 w0 w4 a5 c5 g (m-(aF ks:Int)-(aU bs:Int)) (d+1) HRE.out hb hg hL5 Q0 Q0 hd3 hd2 hs4;rw[Ax.out]at HC;generalize hsp:cI es (d+1) (m-(aF ks:Int)-(aU bs:Int))=r5 at *;have HS5:=hid hsp;clear hsp hL4;go_wp2_with fail;refine HC.mono ?_;rintro e w5 ⟨rfl,hg5,hL6⟩
     have he:Hid (bI (.mk 2 n name ks bs es) d left=r5):=by show _=_;rw[HE.out];unfold lB;rw[HSE.out,HS4.out,HS5.out];rfl
     exact U6
 .
  by_cases c1:(nk:Int)=1
  rotate_left
  .
   have c1':((1:Int) != (nk:Int))=true:=by simp;omega
   have he:Hid (bI (.mk 3 n name ks bs es) d left=false):=bJ HNK.out Ay.out Ax.out (cA (.inr (.inl c1)))
   exact U2
  refine M955 ?_;intro c1' HC1 hkn;clear c1
  have HB1:Hid ((decide (nb=0) || fE 3)=true):=by show _=_;rw[show fE 3=true from by decide];simp
  by_cases b2:ne=0
  rotate_left
  .
   have b2':(0:Int)<(ne:Int):=Q0;clear hkn
   have he:Hid (bI (.mk 3 n name ks bs es) d left=false):=bJ HNK.out Ay.out Ax.out (cA (.inr (.inr (.inr (.inr (.inr (.inr ⟨b2,by decide⟩)))))))
   exact U2
  have b2':¬(0:Int)<(ne:Int):=Q0
  have HB2:Hid ((decide (ne=0) || decide ((3:Int)=2))=true):=by show _=_;rw[zB3 b2];rfl
  clear b2;have hn3:=bH a2 nn c2 name false w2 (h2.below hb) Q0
  by_cases e0:nn=0
  rotate_left
  .
   have e0':(0:Int)<(nn:Int):=Q0;clear hkn
   have he:Hid (bI (.mk 3 n name ks bs es) d left=false):=bJ HNK.out Ay.out Ax.out (cA (.inr (.inr (.inr (.inr (.inl ⟨by decide,by rw[HNA.out];exact e0⟩))))))
   exact U2
  refine M951 ?_;clear e0;intro e0' HE0 HKN;clear hkn
  by_cases n0:n=0
  rotate_left
  .
   have n0':(n != 0)=true:=by simpa using n0
   have he:Hid (bI (.mk 3 n name ks bs es) d left=false):=bJ HNK.out Ay.out Ax.out (cA (.inr (.inr (.inl Q42))))
   exact U2
  have n0':(n != 0)=false:=by simpa using n0
  have HNN:Hid (inB n 0 (dE 3)=true):=by show _=_;rw[n0];decide
  clear n0
  have HLC:Hid (iI 3 n name ks.length bs.length es.length=true):=by show _=_;rw[HNK.out,Ay.out,Ax.out];exact jD HI1.out HC1.out HNN.out (by rw[show dO 3=false from by decide];exact zB3 HE0.out) HB1.out HB2.out
  have HCC:Hid ((!decide ((3:Int)=7) || ks.any jE)=true):=by show _=_;simp
  have HE:Hid (bI (.mk 3 n name ks bs es) d left=lB ks bs es (d+1) m):=by
   exact U28
  have HD:Hid (mT (.mk 3 n name ks bs es)=1+(aF ks+aU bs+aU es)):=by show _=_;simp[mT]
  refine M910 ?_;intro HX0 HY HB3 HLF HRW HRB HRE hm0 hm1 hd2 hd3;go_wp2_with fail;clear q0 q1 q2 q3 q4 q5 x0 yy hb hL2 h3 h4 h5 z0 e0' b2'
  go_loopw [11] (fun i wr=>∃j:Nat,j<=nk/\i=.int .i64 j/\Hid (w2.grownBy wr (some g))/\Hid (Lft wr g (m-(aF (ks.take j):Int)))/\Hid ((aF (ks.take j):Int)<=m)/\Hid (∀i x,i<j->ks[i]?=some x->dJ x (d+1) false (m-(aF (ks.take i):Int))=true)) (fun i _=>nk-(intOf i).toNat)
  case atStart=>exact⟨0,zD1 _,rfl,aR _ _,HLF,by show(_:Int)<=_;simp[aF];omega,by show ∀_ _,_;omega⟩
  case round=>
   obtain⟨j,hj,rfl,Az,hLj,hnj,Av⟩:=hrel;clear HLF;refine M942 ?_;intro x0 q3 hb
   by_cases Aj:j<nk
   .
    obtain⟨b3,o3,rfl⟩:=bQ.addr HRW.out Q19;refine M923 ?_;intro x hx Bc us Ai Ab;obtain⟨u0,u1,u2,u3,u4,rfl⟩:=gP (Ai.len.trans (cF x));refine M93 ?_;clear Ab;intro Ab t0 t1 t2 t3 t4 hsx HC HJ HNX;clear Ab hx Bc hsx Ai;generalize hsp:dJ x (d+1) false (m-(aF (ks.take j):Int))=rr at *;have HSP:=hid hsp;clear hsp;go_wp2_with fail;refine M934 ?_;intro w4 Bd hL4 HG4 HL4;clear HC t0 t1 t2 t3 t4 q3 x0 hb Bd hL4;cases rr
    .
     have he:Hid (bI (.mk 3 n name ks bs es) d left=false):=by show _=_;rw[HE.out];unfold lB;rw[fV HJ.out HSP.out];rfl
     have hyy:=aD HY.out HG4.out;exact U9
    .
     exact U1
   .
    have:j=nk:=Q0
    subst this;refine M914 ?_;intro HSE hle3 hLf hyy q4 q5 HC;rw[Ay.out]at HC;generalize hsp:cI bs (d+1) (m-(aF ks:Int))=r4 at *;have HS4:=hid hsp;clear hsp Az hLj hnj Av;go_wp2_with fail;refine M929 ?_;clear x0 hb hyy;intro w4 Bd hL4 x0 hb hyy;clear HC q3 q4 q5 hLf Bd;cases r4
    .
     have he:Hid (bI (.mk 3 n name ks bs es) d left=false):=by show _=_;rw[HE.out];unfold lB;rw[HS4.out];simp
     clear hL4;exact U9
    .
     refine M922 ?_;intro hle4 hL5 q5 HC;generalize hsp:cI es (d+1) (m-(aF ks:Int)-(aU bs:Int))=r5 at *;have HS5:=hid hsp;clear hsp hL4;go_wp2_with fail;refine HC.mono ?_;rintro e w5 ⟨rfl,hg5,hL6⟩
     have he:Hid (bI (.mk 3 n name ks bs es) d left=r5):=by show _=_;rw[HE.out];unfold lB;rw[HSE.out,HS4.out,HS5.out];rfl
     exact U6
 .
  by_cases c1:(nk:Int)=1
  rotate_left
  .
   have c1':((1:Int) != (nk:Int))=true:=by simp;omega
   have he:Hid (bI (.mk 4 n name ks bs es) d left=false):=bJ HNK.out Ay.out Ax.out (cA (.inr (.inl c1)))
   exact U2
  refine M955 ?_;intro c1' HC1 hkn;clear c1
  by_cases b1:nb=0
  rotate_left
  .
   have b1':(0:Int)<(nb:Int):=Q0;clear hkn
   have he:Hid (bI (.mk 4 n name ks bs es) d left=false):=bJ HNK.out Ay.out Ax.out (cA (.inr (.inr (.inr (.inr (.inr (.inl ⟨b1,by decide⟩)))))))
   exact U2
  have b1':¬(0:Int)<(nb:Int):=Q0
  have HB1:Hid ((decide (nb=0) || fE 4)=true):=by show _=_;rw[zB3 b1];rfl
  clear b1
  by_cases b2:ne=0
  rotate_left
  .
   have b2':(0:Int)<(ne:Int):=Q0;clear hkn
   have he:Hid (bI (.mk 4 n name ks bs es) d left=false):=bJ HNK.out Ay.out Ax.out (cA (.inr (.inr (.inr (.inr (.inr (.inr ⟨b2,by decide⟩)))))))
   exact U2
  have b2':¬(0:Int)<(ne:Int):=Q0
  have HB2:Hid ((decide (ne=0) || decide ((4:Int)=2))=true):=by show _=_;rw[zB3 b2];rfl
  clear b2;have hn3:=bH a2 nn c2 name false w2 (h2.below hb) Q0
  by_cases e0:nn=0
  rotate_left
  .
   have e0':(0:Int)<(nn:Int):=Q0;clear hkn
   have he:Hid (bI (.mk 4 n name ks bs es) d left=false):=bJ HNK.out Ay.out Ax.out (cA (.inr (.inr (.inr (.inr (.inl ⟨by decide,by rw[HNA.out];exact e0⟩))))))
   exact U2
  refine M951 ?_;clear e0;intro e0' HE0 HKN;clear hkn
  by_cases n0:n=0
  rotate_left
  .
   have n0':(n != 0)=true:=by simpa using n0
   have he:Hid (bI (.mk 4 n name ks bs es) d left=false):=bJ HNK.out Ay.out Ax.out (cA (.inr (.inr (.inl Q42))))
   exact U2
  have n0':(n != 0)=false:=by simpa using n0
  have HNN:Hid (inB n 0 (dE 4)=true):=by show _=_;rw[n0];decide
  clear n0
  have HLC:Hid (iI 4 n name ks.length bs.length es.length=true):=by show _=_;rw[HNK.out,Ay.out,Ax.out];exact jD HI1.out HC1.out HNN.out (by rw[show dO 4=false from by decide];exact zB3 HE0.out) HB1.out HB2.out
  have HCC:Hid ((!decide ((4:Int)=7) || ks.any jE)=true):=by show _=_;simp
  have HE:Hid (bI (.mk 4 n name ks bs es) d left=lB ks bs es (d+1) m):=by
   exact U28
  have HD:Hid (mT (.mk 4 n name ks bs es)=1+(aF ks+aU bs+aU es)):=by show _=_;simp[mT]
  refine M910 ?_;intro HX0 HY HB3 HLF HRW HRB HRE hm0 hm1 hd2 hd3;go_wp2_with fail;clear q0 q1 q2 q3 q4 q5 x0 yy hb hL2 h3 h4 h5 z0 e0' b1' b2'
  go_loopw [11] (fun i wr=>∃j:Nat,j<=nk/\i=.int .i64 j/\Hid (w2.grownBy wr (some g))/\Hid (Lft wr g (m-(aF (ks.take j):Int)))/\Hid ((aF (ks.take j):Int)<=m)/\Hid (∀i x,i<j->ks[i]?=some x->dJ x (d+1) false (m-(aF (ks.take i):Int))=true)) (fun i _=>nk-(intOf i).toNat)
  case atStart=>exact⟨0,zD1 _,rfl,aR _ _,HLF,by show(_:Int)<=_;simp[aF];omega,by show ∀_ _,_;omega⟩
  case round=>
   obtain⟨j,hj,rfl,Az,hLj,hnj,Av⟩:=hrel;clear HLF;refine M942 ?_;intro x0 q3 hb
   by_cases Aj:j<nk
   .
    obtain⟨b3,o3,rfl⟩:=bQ.addr HRW.out Q19;refine M923 ?_;intro x hx Bc us Ai Ab;obtain⟨u0,u1,u2,u3,u4,rfl⟩:=gP (Ai.len.trans (cF x));refine M93 ?_;clear Ab;intro Ab t0 t1 t2 t3 t4 hsx HC HJ HNX;clear Ab hx Bc hsx Ai;generalize hsp:dJ x (d+1) false (m-(aF (ks.take j):Int))=rr at *;have HSP:=hid hsp;clear hsp;go_wp2_with fail;refine M934 ?_;intro w4 Bd hL4 HG4 HL4;clear HC t0 t1 t2 t3 t4 q3 x0 hb Bd hL4;cases rr
    .
     have he:Hid (bI (.mk 4 n name ks bs es) d left=false):=by show _=_;rw[HE.out];unfold lB;rw[fV HJ.out HSP.out];rfl
     have hyy:=aD HY.out HG4.out;exact U9
    .
     exact U1
   .
    have:j=nk:=Q0
    subst this;refine M914 ?_;intro HSE hle3 hLf hyy q4 q5 HC
    rw[Ay.out,show nb=0 by omega]at HC
    generalize hsp:cI bs (d+1) (m-(aF ks:Int))=r4 at *;have HS4:=hid hsp;clear hsp Az hLj hnj Av;go_wp2_with fail;refine M929 ?_;clear x0 hb hyy;intro w4 Bd hL4 x0 hb hyy;clear HC q3 q4 q5 hLf Bd;cases r4
    .
     have he:Hid (bI (.mk 4 n name ks bs es) d left=false):=by show _=_;rw[HE.out];unfold lB;rw[HS4.out];simp
     clear hL4;exact U9
    .
     refine M922 ?_;intro hle4 hL5 q5 HC;generalize hsp:cI es (d+1) (m-(aF ks:Int)-(aU bs:Int))=r5 at *;have HS5:=hid hsp;clear hsp hL4;go_wp2_with fail;refine HC.mono ?_;rintro e w5 ⟨rfl,hg5,hL6⟩
     have he:Hid (bI (.mk 4 n name ks bs es) d left=r5):=by show _=_;rw[HE.out];unfold lB;rw[HSE.out,HS4.out,HS5.out];rfl
     exact U6
 .
  by_cases c1:(nk:Int)=1
  rotate_left
  .
   have c1':((1:Int) != (nk:Int))=true:=by simp;omega
   have he:Hid (bI (.mk 5 n name ks bs es) d left=false):=bJ HNK.out Ay.out Ax.out (cA (.inr (.inl c1)))
   exact U2
  refine M955 ?_;intro c1' HC1 hkn;clear c1
  by_cases b1:nb=0
  rotate_left
  .
   have b1':(0:Int)<(nb:Int):=Q0;clear hkn
   have he:Hid (bI (.mk 5 n name ks bs es) d left=false):=bJ HNK.out Ay.out Ax.out (cA (.inr (.inr (.inr (.inr (.inr (.inl ⟨b1,by decide⟩)))))))
   exact U2
  have b1':¬(0:Int)<(nb:Int):=Q0
  have HB1:Hid ((decide (nb=0) || fE 5)=true):=by show _=_;rw[zB3 b1];rfl
  clear b1
  by_cases b2:ne=0
  rotate_left
  .
   have b2':(0:Int)<(ne:Int):=Q0;clear hkn
   have he:Hid (bI (.mk 5 n name ks bs es) d left=false):=bJ HNK.out Ay.out Ax.out (cA (.inr (.inr (.inr (.inr (.inr (.inr ⟨b2,by decide⟩)))))))
   exact U2
  have b2':¬(0:Int)<(ne:Int):=Q0
  have HB2:Hid ((decide (ne=0) || decide ((5:Int)=2))=true):=by show _=_;rw[zB3 b2];rfl
  clear b2;have hn3:=bH a2 nn c2 name false w2 (h2.below hb) Q0
  by_cases e0:nn=0
  rotate_left
  .
   have e0':(0:Int)<(nn:Int):=Q0;clear hkn
   have he:Hid (bI (.mk 5 n name ks bs es) d left=false):=bJ HNK.out Ay.out Ax.out (cA (.inr (.inr (.inr (.inr (.inl ⟨by decide,by rw[HNA.out];exact e0⟩))))))
   exact U2
  refine M951 ?_;clear e0;intro e0' HE0 HKN;clear hkn
  by_cases n0:n=0
  rotate_left
  .
   have n0':(n != 0)=true:=by simpa using n0
   have he:Hid (bI (.mk 5 n name ks bs es) d left=false):=bJ HNK.out Ay.out Ax.out (cA (.inr (.inr (.inl Q42))))
   exact U2
  have n0':(n != 0)=false:=by simpa using n0
  have HNN:Hid (inB n 0 (dE 5)=true):=by show _=_;rw[n0];decide
  clear n0
  have HLC:Hid (iI 5 n name ks.length bs.length es.length=true):=by show _=_;rw[HNK.out,Ay.out,Ax.out];exact jD HI1.out HC1.out HNN.out (by rw[show dO 5=false from by decide];exact zB3 HE0.out) HB1.out HB2.out
  have HCC:Hid ((!decide ((5:Int)=7) || ks.any jE)=true):=by show _=_;simp
  have HE:Hid (bI (.mk 5 n name ks bs es) d left=lB ks bs es (d+1) m):=by
   exact U28
  have HD:Hid (mT (.mk 5 n name ks bs es)=1+(aF ks+aU bs+aU es)):=by show _=_;simp[mT]
  refine M910 ?_;intro HX0 HY HB3 HLF HRW HRB HRE hm0 hm1 hd2 hd3;go_wp2_with fail;clear q0 q1 q2 q3 q4 q5 x0 yy hb hL2 h3 h4 h5 z0 e0' b1' b2'
  go_loopw [11] (fun i wr=>∃j:Nat,j<=nk/\i=.int .i64 j/\Hid (w2.grownBy wr (some g))/\Hid (Lft wr g (m-(aF (ks.take j):Int)))/\Hid ((aF (ks.take j):Int)<=m)/\Hid (∀i x,i<j->ks[i]?=some x->dJ x (d+1) false (m-(aF (ks.take i):Int))=true)) (fun i _=>nk-(intOf i).toNat)
  case atStart=>exact⟨0,zD1 _,rfl,aR _ _,HLF,by show(_:Int)<=_;simp[aF];omega,by show ∀_ _,_;omega⟩
  case round=>
   obtain⟨j,hj,rfl,Az,hLj,hnj,Av⟩:=hrel;clear HLF;refine M942 ?_;intro x0 q3 hb
   by_cases Aj:j<nk
   .
    obtain⟨b3,o3,rfl⟩:=bQ.addr HRW.out Q19;refine M923 ?_;intro x hx Bc us Ai Ab;obtain⟨u0,u1,u2,u3,u4,rfl⟩:=gP (Ai.len.trans (cF x));refine M93 ?_;clear Ab;intro Ab t0 t1 t2 t3 t4 hsx HC HJ HNX;clear Ab hx Bc hsx Ai;generalize hsp:dJ x (d+1) false (m-(aF (ks.take j):Int))=rr at *;have HSP:=hid hsp;clear hsp;go_wp2_with fail;refine M934 ?_;intro w4 Bd hL4 HG4 HL4;clear HC t0 t1 t2 t3 t4 q3 x0 hb Bd hL4;cases rr
    .
     have he:Hid (bI (.mk 5 n name ks bs es) d left=false):=by show _=_;rw[HE.out];unfold lB;rw[fV HJ.out HSP.out];rfl
     have hyy:=aD HY.out HG4.out;exact U9
    .
     exact U1
   .
    have:j=nk:=Q0
    subst this;refine M914 ?_;intro HSE hle3 hLf hyy q4 q5 HC
    rw[Ay.out,show nb=0 by omega]at HC
    generalize hsp:cI bs (d+1) (m-(aF ks:Int))=r4 at *;have HS4:=hid hsp;clear hsp Az hLj hnj Av;go_wp2_with fail;refine M929 ?_;clear x0 hb hyy;intro w4 Bd hL4 x0 hb hyy;clear HC q3 q4 q5 hLf Bd;cases r4
    .
     have he:Hid (bI (.mk 5 n name ks bs es) d left=false):=by show _=_;rw[HE.out];unfold lB;rw[HS4.out];simp
     clear hL4;exact U9
    .
     refine M922 ?_;intro hle4 hL5 q5 HC;generalize hsp:cI es (d+1) (m-(aF ks:Int)-(aU bs:Int))=r5 at *;have HS5:=hid hsp;clear hsp hL4;go_wp2_with fail;refine HC.mono ?_;rintro e w5 ⟨rfl,hg5,hL6⟩
     have he:Hid (bI (.mk 5 n name ks bs es) d left=r5):=by show _=_;rw[HE.out];unfold lB;rw[HSE.out,HS4.out,HS5.out];rfl
     exact U6
 .
  by_cases c1:(nk:Int)=0
  rotate_left
  .
   have c1':((0:Int) != (nk:Int))=true:=by simp;omega
   have he:Hid (bI (.mk 6 n name ks bs es) d left=false):=bJ HNK.out Ay.out Ax.out (cA (.inr (.inl c1)))
   exact U2
  have c1':((0:Int) != (nk:Int))=false:=by simp;omega
  have HC1:=hid c1;have hkn:nk=0:=Q0;clear c1
  by_cases b1:nb=0
  rotate_left
  .
   have b1':(0:Int)<(nb:Int):=Q0;clear hkn
   have he:Hid (bI (.mk 6 n name ks bs es) d left=false):=bJ HNK.out Ay.out Ax.out (cA (.inr (.inr (.inr (.inr (.inr (.inl ⟨b1,by decide⟩)))))))
   exact U2
  have b1':¬(0:Int)<(nb:Int):=Q0
  have HB1:Hid ((decide (nb=0) || fE 6)=true):=by show _=_;rw[zB3 b1];rfl
  clear b1
  by_cases b2:ne=0
  rotate_left
  .
   have b2':(0:Int)<(ne:Int):=Q0;clear hkn
   have he:Hid (bI (.mk 6 n name ks bs es) d left=false):=bJ HNK.out Ay.out Ax.out (cA (.inr (.inr (.inr (.inr (.inr (.inr ⟨b2,by decide⟩)))))))
   exact U2
  have b2':¬(0:Int)<(ne:Int):=Q0
  have HB2:Hid ((decide (ne=0) || decide ((6:Int)=2))=true):=by show _=_;rw[zB3 b2];rfl
  clear b2;have hn3:=bH a2 nn c2 name false w2 (h2.below hb) Q0
  by_cases e0:nn=0
  rotate_left
  .
   have e0':(0:Int)<(nn:Int):=Q0;clear hkn
   have he:Hid (bI (.mk 6 n name ks bs es) d left=false):=bJ HNK.out Ay.out Ax.out (cA (.inr (.inr (.inr (.inr (.inl ⟨by decide,by rw[HNA.out];exact e0⟩))))))
   exact U2
  refine M951 ?_;clear e0;intro e0' HE0 HKN;clear hkn
  by_cases n0:n<0
  .
   have he:Hid (bI (.mk 6 n name ks bs es) d left=false):=bJ HNK.out Ay.out Ax.out (cA (.inr (.inr (.inl Q42))))
   exact U2
  by_cases n5:99<n
  .
   have he:Hid (bI (.mk 6 n name ks bs es) d left=false):=bJ HNK.out Ay.out Ax.out (cA (.inr (.inr (.inl Q42))))
   exact U2
  have HNN:Hid (inB n 0 (dE 6)=true):=by show _=_;simp[inB,dE];omega
  have HLC:Hid (iI 6 n name ks.length bs.length es.length=true):=by show _=_;rw[HNK.out,Ay.out,Ax.out];exact jD HI1.out HC1.out HNN.out (by rw[show dO 6=false from by decide];exact zB3 HE0.out) HB1.out HB2.out
  have HCC:Hid ((!decide ((6:Int)=7) || ks.any jE)=true):=by show _=_;simp
  have HE:Hid (bI (.mk 6 n name ks bs es) d left=lB ks bs es (d+1) m):=by
   exact U28
  have HD:Hid (mT (.mk 6 n name ks bs es)=1+(aF ks+aU bs+aU es)):=by show _=_;simp[mT]
  refine M910 ?_;intro HX0 HY HB3 HLF HRW HRB HRE hm0 hm1 hd2 hd3;go_wp2_with fail;clear q0 q1 q2 q3 q4 q5 x0 yy hb hL2 h3 h4 h5 z0 e0' b1' b2'
  go_loopw [11] (fun i wr=>∃j:Nat,j<=nk/\i=.int .i64 j/\Hid (w2.grownBy wr (some g))/\Hid (Lft wr g (m-(aF (ks.take j):Int)))/\Hid ((aF (ks.take j):Int)<=m)/\Hid (∀i x,i<j->ks[i]?=some x->dJ x (d+1) false (m-(aF (ks.take i):Int))=true)) (fun i _=>nk-(intOf i).toNat)
  case atStart=>exact⟨0,zD1 _,rfl,aR _ _,HLF,by show(_:Int)<=_;simp[aF];omega,by show ∀_ _,_;omega⟩
  case round=>
   obtain⟨j,hj,rfl,Az,hLj,hnj,Av⟩:=hrel;clear HLF;refine M942 ?_;intro x0 q3 hb
   by_cases Aj:j<nk
   .
    obtain⟨b3,o3,rfl⟩:=bQ.addr HRW.out Q19;refine M923 ?_;intro x hx Bc us Ai Ab;obtain⟨u0,u1,u2,u3,u4,rfl⟩:=gP (Ai.len.trans (cF x));refine M93 ?_;clear Ab;intro Ab t0 t1 t2 t3 t4 hsx HC HJ HNX;clear Ab hx Bc hsx Ai;generalize hsp:dJ x (d+1) false (m-(aF (ks.take j):Int))=rr at *;have HSP:=hid hsp;clear hsp;go_wp2_with fail;refine M934 ?_;intro w4 Bd hL4 HG4 HL4;clear HC t0 t1 t2 t3 t4 q3 x0 hb Bd hL4;cases rr
    .
     have he:Hid (bI (.mk 6 n name ks bs es) d left=false):=by show _=_;rw[HE.out];unfold lB;rw[fV HJ.out HSP.out];rfl
     have hyy:=aD HY.out HG4.out;exact U9
    .
     exact U1
   .
    have:j=nk:=Q0
    subst this;refine M914 ?_;intro HSE hle3 hLf hyy q4 q5 HC
    rw[Ay.out,show nb=0 by omega]at HC
    generalize hsp:cI bs (d+1) (m-(aF ks:Int))=r4 at *;have HS4:=hid hsp;clear hsp Az hLj hnj Av;go_wp2_with fail;refine M929 ?_;clear x0 hb hyy;intro w4 Bd hL4 x0 hb hyy;clear HC q3 q4 q5 hLf Bd;cases r4
    .
     have he:Hid (bI (.mk 6 n name ks bs es) d left=false):=by show _=_;rw[HE.out];unfold lB;rw[HS4.out];simp
     clear hL4;exact U9
    .
     refine M922 ?_;intro hle4 hL5 q5 HC;generalize hsp:cI es (d+1) (m-(aF ks:Int)-(aU bs:Int))=r5 at *;have HS5:=hid hsp;clear hsp hL4;go_wp2_with fail;refine HC.mono ?_;rintro e w5 ⟨rfl,hg5,hL6⟩
     have he:Hid (bI (.mk 6 n name ks bs es) d left=r5):=by show _=_;rw[HE.out];unfold lB;rw[HSE.out,HS4.out,HS5.out];rfl
     exact U6
 .
  by_cases c1:(nk:Int)=1
  rotate_left
  .
   have c1':((1:Int) != (nk:Int))=true:=by simp;omega
   have he:Hid (bI (.mk 7 n name ks bs es) d left=false):=bJ HNK.out Ay.out Ax.out (cA (.inr (.inl c1)))
   exact U2
  refine M955 ?_;intro c1' HC1 hkn;clear c1
  by_cases b1:nb=0
  rotate_left
  .
   have b1':(0:Int)<(nb:Int):=Q0;clear hkn
   have he:Hid (bI (.mk 7 n name ks bs es) d left=false):=bJ HNK.out Ay.out Ax.out (cA (.inr (.inr (.inr (.inr (.inr (.inl ⟨b1,by decide⟩)))))))
   exact U2
  have b1':¬(0:Int)<(nb:Int):=Q0
  have HB1:Hid ((decide (nb=0) || fE 7)=true):=by show _=_;rw[zB3 b1];rfl
  clear b1
  by_cases b2:ne=0
  rotate_left
  .
   have b2':(0:Int)<(ne:Int):=Q0;clear hkn
   have he:Hid (bI (.mk 7 n name ks bs es) d left=false):=bJ HNK.out Ay.out Ax.out (cA (.inr (.inr (.inr (.inr (.inr (.inr ⟨b2,by decide⟩)))))))
   exact U2
  have b2':¬(0:Int)<(ne:Int):=Q0
  have HB2:Hid ((decide (ne=0) || decide ((7:Int)=2))=true):=by show _=_;rw[zB3 b2];rfl
  clear b2;have hn3:=bH a2 nn c2 name false w2 (h2.below hb) Q0
  by_cases e0:nn=0
  rotate_left
  .
   have e0':(0:Int)<(nn:Int):=Q0;clear hkn
   have he:Hid (bI (.mk 7 n name ks bs es) d left=false):=bJ HNK.out Ay.out Ax.out (cA (.inr (.inr (.inr (.inr (.inl ⟨by decide,by rw[HNA.out];exact e0⟩))))))
   exact U2
  refine M951 ?_;clear e0;intro e0' HE0 HKN;clear hkn
  by_cases n0:n=0
  rotate_left
  .
   have n0':(n != 0)=true:=by simpa using n0
   have he:Hid (bI (.mk 7 n name ks bs es) d left=false):=bJ HNK.out Ay.out Ax.out (cA (.inr (.inr (.inl Q42))))
   exact U2
  have n0':(n != 0)=false:=by simpa using n0
  have HNN:Hid (inB n 0 (dE 7)=true):=by show _=_;rw[n0];decide
  clear n0
  have HLC:Hid (iI 7 n name ks.length bs.length es.length=true):=by show _=_;rw[HNK.out,Ay.out,Ax.out];exact jD HI1.out HC1.out HNN.out (by rw[show dO 7=false from by decide];exact zB3 HE0.out) HB1.out HB2.out
  obtain⟨b3,o3,rfl⟩:=h3.addr (by rw[An,HKN.out];omega)
  obtain⟨xk,hxk⟩:∃x,ks=[x]:=aOj (HNK.out.trans HKN.out)
  have hx0:(exs ks)[0]?=some xk.fl:=by rw[hxk];simp[exs]
  obtain⟨uk,hvk,hck⟩:=(h3.el hx0).vals;obtain⟨v0,v1,v2,v3,v4,rfl⟩:=gP (hvk.len.trans (cF xk))
  have hv0:v0=.int .i64 xk.kind:=by
   obtain⟨e0,e1,e2,e3,e4⟩:=xk;unfold Ex.fl at hvk;obtain⟨y0,_,ey,ry,_⟩:=hvk;simp only[zK0]at ey;rw[ey.1];exact ry
  have tk:w2.cell? ⟨b3,o3,none⟩=some (.int .i64 xk.kind):=by
   have:=aC (hck 0 _ rfl) hb
   rw[hv0]at this
   simpa using this
  have hkp:(0:Int)<(nk:Int):=by rw[HKN.out];omega
  have HXK:Hid (ks=[xk]):=hxk
  clear hck hvk hx0 hv0 hxk
  by_cases k6:xk.kind=6
  rotate_left
  .
   have k6':(xk.kind != 6)=true:=by simpa using k6
   have he:Hid (bI (.mk 7 n name ks bs es) d left=false):=by show _=_;rw[HXK.out];exact aC6 k6
   clear k6;generalize xk.kind=kk at *;exact U2
  have k6':(xk.kind != 6)=false:=by simpa using k6
  have HCC:Hid ((!decide ((7:Int)=7) || ks.any jE)=true):=by show _=_;rw[HXK.out];simp[jE,k6]
  clear k6;generalize xk.kind=kk at *
  have HE:Hid (bI (.mk 7 n name ks bs es) d left=lB ks bs es (d+1) m):=by
   exact U28
  have HD:Hid (mT (.mk 7 n name ks bs es)=1+(aF ks+aU bs+aU es)):=by show _=_;simp[mT]
  refine M910 ?_;intro HX0 HY HB3 HLF HRW HRB HRE hm0 hm1 hd2 hd3;go_wp2_with fail;clear q0 q1 q2 q3 q4 q5 x0 yy hb hL2 h3 h4 h5 z0 e0' tk b1' b2'
  go_loopw [11] (fun i wr=>∃j:Nat,j<=nk/\i=.int .i64 j/\Hid (w2.grownBy wr (some g))/\Hid (Lft wr g (m-(aF (ks.take j):Int)))/\Hid ((aF (ks.take j):Int)<=m)/\Hid (∀i x,i<j->ks[i]?=some x->dJ x (d+1) false (m-(aF (ks.take i):Int))=true)) (fun i _=>nk-(intOf i).toNat)
  case atStart=>exact⟨0,zD1 _,rfl,aR _ _,HLF,by show(_:Int)<=_;simp[aF];omega,by show ∀_ _,_;omega⟩
  case round=>
   obtain⟨j,hj,rfl,Az,hLj,hnj,Av⟩:=hrel;clear HLF;refine M942 ?_;intro x0 q3 hb
   by_cases Aj:j<nk
   .
    have HRX:=HRW;refine M923 ?_;intro x hx Bc us Ai Ab;obtain⟨u0,u1,u2,u3,u4,rfl⟩:=gP (Ai.len.trans (cF x));refine M93 ?_;clear Ab;intro Ab t0 t1 t2 t3 t4 hsx HC HJ HNX;clear Ab hx Bc hsx Ai;generalize hsp:dJ x (d+1) false (m-(aF (ks.take j):Int))=rr at *;have HSP:=hid hsp;clear hsp;go_wp2_with fail;refine M934 ?_;intro w4 Bd hL4 HG4 HL4;clear HC t0 t1 t2 t3 t4 q3 x0 hb Bd hL4;cases rr
    .
     have he:Hid (bI (.mk 7 n name ks bs es) d left=false):=by show _=_;rw[HE.out];unfold lB;rw[fV HJ.out HSP.out];rfl
     have hyy:=aD HY.out HG4.out;exact U9
    .
     exact U1
   .
    have:j=nk:=Q0
    subst this;refine M914 ?_;intro HSE hle3 hLf hyy q4 q5 HC
    rw[Ay.out,show nb=0 by omega]at HC
    generalize hsp:cI bs (d+1) (m-(aF ks:Int))=r4 at *;have HS4:=hid hsp;clear hsp Az hLj hnj Av;go_wp2_with fail;refine M929 ?_;clear x0 hb hyy;intro w4 Bd hL4 x0 hb hyy;clear HC q3 q4 q5 hLf Bd;cases r4
    .
     have he:Hid (bI (.mk 7 n name ks bs es) d left=false):=by show _=_;rw[HE.out];unfold lB;rw[HS4.out];simp
     clear hL4;exact U9
    .
     refine M922 ?_;intro hle4 hL5 q5 HC;generalize hsp:cI es (d+1) (m-(aF ks:Int)-(aU bs:Int))=r5 at *;have HS5:=hid hsp;clear hsp hL4;go_wp2_with fail;refine HC.mono ?_;rintro e w5 ⟨rfl,hg5,hL6⟩
     have he:Hid (bI (.mk 7 n name ks bs es) d left=r5):=by show _=_;rw[HE.out];unfold lB;rw[HSE.out,HS4.out,HS5.out];rfl
     exact U6
end Go.Proofs.YtffphdacgblaoaaGreatDoor
