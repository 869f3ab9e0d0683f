import Derived.Test.YtegkhlkjfeafjaaGreatDoorPackL
namespace Go.Proofs.YtegkhlkjfeafjaaGreatDoor
open Go.RowKit
set_option linter.unusedVariables false
set_option linter.unusedSimpArgs false
set_option maxRecDepth 100000
set_option maxHeartbeats 4000000
theorem aI4 {k:Int}(h:inB k 0 7=true):k=0\/k=1\/k=2\/k=3\/k=4\/k=5\/k=6\/k=7:=by
 simp[inB]at h;omega
theorem wT (k n:Int)(mod name:List Int)(ks:List Ex):exT k n mod name ks=(gE k n mod name ks.length && (decide (k=6) || !ks.any kK)):=by
 unfold exT gE
 cases h:inB k 0 7
 .
  rfl
 have e:(ks.any fun x=>decide (x.kind=7))=ks.any kK:=rfl
 rw[e]
 rcases aI4 h with rfl|rfl|rfl|rfl|rfl|rfl|rfl|rfl
 .
  show(cF (exF 0) n name ks.length && (decide (mod.length=0) || cX (exF 0) kJ && aK mod true) && _)=_
  unfold cF;rw[aAf,aC2];simp[eT,dB,dL,eX,dK,exF]
 .
  show(cF (exF 1) n name ks.length && (decide (mod.length=0) || cX (exF 1) kJ && aK mod true) && _)=_
  unfold cF;rw[aAe,aC1];simp[eT,dB,dL,eX,dK,exF]
 .
  show(cF (exF 2) n name ks.length && (decide (mod.length=0) || cX (exF 2) kJ && aK mod true) && _)=_
  unfold cF;rw[aAd,aC0];simp[eT,dB,dL,eX,dK,exF]
 .
  show(cF (exF 3) n name ks.length && (decide (mod.length=0) || cX (exF 3) kJ && aK mod true) && _)=_
  unfold cF;rw[aAc,aCz];simp[eT,dB,dL,eX,dK,exF]
 .
  show(cF (exF 4) n name ks.length && (decide (mod.length=0) || cX (exF 4) kJ && aK mod true) && _)=_
  unfold cF;rw[aAb,aCy];simp[eT,dB,dL,eX,dK,exF]
 .
  show(cF (exF 5) n name ks.length && (decide (mod.length=0) || cX (exF 5) kJ && aK mod true) && _)=_
  unfold cF;rw[aAa,aCx];simp[eT,dB,dL,eX,dK,exF]
 .
  show(cF (exF 6) n name ks.length && (decide (mod.length=0) || cX (exF 6) kJ && aK mod true) && _)=_
  unfold cF;rw[zZ,aCw];simp[eT,dB,dL,eX,dK,exF]
 .
  show(cF (exF 7) n name ks.length && (decide (mod.length=0) || cX (exF 7) kJ && aK mod true) && _)=_
  unfold cF;rw[zY,aCv];simp[eT,dB,dL,eX,dK,exF]
theorem sC (k n:Int)(name:List Int)(ks:List Ex)(nb ne:Nat):stT k n name ks nb ne=mI k n name ks nb ne:=by
 unfold stT mI
 cases h:inB k 0 7
 .
  rfl
 have e:(ks.any fun x=>decide (x.kind=7))=ks.any kK:=rfl
 have e':(ks.any fun x=>decide (x.kind=6))=ks.any iE:=rfl
 rw[e,e']
 rcases aI4 h with rfl|rfl|rfl|rfl|rfl|rfl|rfl|rfl
 .
  show(cF (stF 0) n name ks.length && (decide (nb=0) || cX (stF 0) fB) && (decide (ne=0) || cX (stF 0) eQ) && _ && (!cX (stF 0) dU || _))=_
  unfold cF;rw[xS,yQ,aPj,yI];simp[dA,bS,dH,eV,stF,Bool.and_assoc]
 .
  show(cF (stF 1) n name ks.length && (decide (nb=0) || cX (stF 1) fB) && (decide (ne=0) || cX (stF 1) eQ) && _ && (!cX (stF 1) dU || _))=_
  unfold cF;rw[xR,yP,xZ,yH];simp[dA,bS,dH,eV,stF,Bool.and_assoc]
 .
  show(cF (stF 2) n name ks.length && (decide (nb=0) || cX (stF 2) fB) && (decide (ne=0) || cX (stF 2) eQ) && _ && (!cX (stF 2) dU || _))=_
  unfold cF;rw[xQ,yO,xY,yG];simp[dA,bS,dH,eV,stF,Bool.and_assoc]
 .
  show(cF (stF 3) n name ks.length && (decide (nb=0) || cX (stF 3) fB) && (decide (ne=0) || cX (stF 3) eQ) && _ && (!cX (stF 3) dU || _))=_
  unfold cF;rw[xP,yN,xX,aPk];simp[dA,bS,dH,eV,stF,Bool.and_assoc]
 .
  show(cF (stF 4) n name ks.length && (decide (nb=0) || cX (stF 4) fB) && (decide (ne=0) || cX (stF 4) eQ) && _ && (!cX (stF 4) dU || _))=_
  unfold cF;rw[xO,yM,aPi,yE];simp[dA,bS,dH,eV,stF,Bool.and_assoc]
 .
  show(cF (stF 5) n name ks.length && (decide (nb=0) || cX (stF 5) fB) && (decide (ne=0) || cX (stF 5) eQ) && _ && (!cX (stF 5) dU || _))=_
  unfold cF;rw[xN,yL,xV,yD];simp[dA,bS,dH,eV,stF,Bool.and_assoc]
 .
  show(cF (stF 6) n name ks.length && (decide (nb=0) || cX (stF 6) fB) && (decide (ne=0) || cX (stF 6) eQ) && _ && (!cX (stF 6) dU || _))=_
  unfold cF;rw[aPh,yK,xU,yC];simp[dA,bS,dH,eV,stF,Bool.and_assoc]
 .
  show(cF (stF 7) n name ks.length && (decide (nb=0) || cX (stF 7) fB) && (decide (ne=0) || cX (stF 7) eQ) && _ && (!cX (stF 7) dU || _))=_
  unfold cF;rw[xL,yJ,xT,yB];simp[dA,bS,dH,eV,stF,Bool.and_assoc]
theorem V74{p:Prop}(h:p:=by rintro k ⟨rfl⟩;exact Blk.lt hc):p:=h
theorem U319{p:Prop}(h:p:=by
 go_upto_region 1 with fail
 generalize ((w.alloc (.cells #[.pointer (some ⟨g,0,none⟩)] 272 (0,0))).alloc (.cells #[.int .i64 d] 3 (0,0)))=W at *
 go_wp2_with fail
 refine HC.mono ?_
 rintro e w3 ⟨rfl,h1,h2⟩
 go_wp2
 go_ret
 exact⟨rfl,h1,h2⟩):p:=h
theorem U106{p:Prop}(h:p:=by
 rintro j w1 w2 ⟨h1,h2,h3,h4,h5⟩ Bk
 have hbb:=aA Bk
 exact⟨h1.trans (hbb.mono h1.size),h2,Blk.below h3 hbb (Blk.lt h3),aB h4 hbb,aB h5 hbb⟩):p:=h
theorem U141{p:Prop}(h:p:=by
 refine⟨bZ hi1 Aq hg,by omega,by rw[<-Nat.add_assoc];exact hcen h,cH hi4 Aq hne1,cH hi5 Aq hne2⟩):p:=h
theorem U363{p:Prop}(h:p:=by
 go_enter Tryz.func232,Tryz.ntmps232
 go_wp2
 go_ret
 exact⟨aE (by simp[h1]),hw,hc.out⟩):p:=h
theorem M9119{p q:Prop}(k:q)(h:Kx q->p:=by
 intro kQ
 have y0:=aC w (.cells #[.pointer (some ⟨g,0,none⟩)] 272 (0,0)) none
 have x1:=aN w 272 #[.pointer (some ⟨g,0,none⟩)] 0 _ rfl
 have y1:=aC (w.alloc (.cells #[.pointer (some ⟨g,0,none⟩)] 272 (0,0))) (.cells #[.int .i64 d] 3 (0,0)) none
 have x2:=aN (w.alloc (.cells #[.pointer (some ⟨g,0,none⟩)] 272 (0,0))) 3 #[.int .i64 d] 0 _ rfl
 revert x2;revert y1;revert x1;revert y0
 exact kQ.o):p:=h ⟨k⟩
theorem lX {w:World}{g i:Nat}{v:Value}:w.grownBy (w.setCell ⟨g,i,none⟩ v) (some g):=
 ⟨rfl,rfl,rfl,by simp,fun k hk hne=>heap_setCell_other w ⟨g,i,none⟩ k v (fun e=>hne (by simp at e;rw[e]))⟩
theorem bZ {w0 w w':World}{g:Nat}(h:Below w0.heap.size w0 w)(hg:w.grownBy w' (some g))(hB:w0.heap.size<=g):Below w0.heap.size w0 w':=
 h.grown hg h.size (fun k hk=>by cases hk;exact hB)
theorem Blk.grown {w w':World}{g k:Nat}{T:TypeId}{vs:List Value}(h:Blk w g T vs)(hg:w.grownBy w' (some k))(hne:g ≠ k):Blk w' g T vs:=
 (hg.block g h.lt (fun e=>hne (by cases e;rfl))).trans h
theorem cH {w w':World}{g k i:Nat}{v:Value}(h:w.cell? ⟨g,i,none⟩=some v)(hg:w.grownBy w' (some k))(hne:g ≠ k):w'.cell? ⟨g,i,none⟩=some v:=by
 rw[World.cell?_of_block (a:=⟨g,i,none⟩) (hg.block g (zJ1 w _ h) (fun e=>hne (by cases e;rfl)))];exact h
def Cen (w:World)(g n:Nat):Prop:=Blk w g 256 [.int .i64 n]
theorem wM (g n:Nat)(d:Int)(w:World)(h:Cen w g n)(hn:n<=1000):
  Calls Tryz.prog 232 #[.pointer (some ⟨g,0,none⟩),.int .i64 d] w fun e w'=>e=.returned (.bool (decide (n+1<=250) && decide (d<=16)))/\w.grownBy w' (some g)/\Cen w' g (n+1):=by
 have q0:=h.k 0;have z0:=h.free 0;have hx:=h.set (i:=0) (.int .i64 ((n:Int)+1));have hw:=lX (w:=w) (g:=g) (i:=0) (v:=.int .i64 ((n:Int)+1))
 have hc:Hid (Cen (w.setCell ⟨g,0,none⟩ (.int .i64 ((n:Int)+1))) g (n+1)):=by
  show Blk _ _ _ _
  simpa using hx
 have q1:=hx.k 0;have Ai:=h.lt;clear h hx
 by_cases h1:n+1<=250
 .
  have h1':(n:Int)+1<=250:=V6;exact U363
 .
  have h1':¬(n:Int)+1<=250:=V6;exact U363
def aFz (x:Ex):Prop:=∀(w0 w:World) (vs:List Value) (g g1 g2 n:Nat) (d:Int),kQ w0->aO w0 x.fl vs->Below w0.heap.size w0 w->w0.heap.size<=g->Cen w g n->n<=250->0<=d->d<=17 →
 w.cell? ⟨g1,0,none⟩=some (.pointer (some ⟨g,0,none⟩))->w.cell? ⟨g2,0,none⟩=some (.int .i64 d)->g1 ≠ g->g2 ≠ g →
 Calls Tryz.prog 255 #[agg vs,.pointer (some ⟨g1,0,none⟩),.pointer (some ⟨g2,0,none⟩)] w fun e w'=>e=.returned (.bool (gW x d (250-(n:Int))))/\w.grownBy w' (some g)/\(gW x d (250-(n:Int))=true->Cen w' g (n+fA x))
def xG (l:List Ex):Prop:=∀(w0 w:World) (a:Option Addr) (c g n:Nat) (d:Int),kQ w0->aS w0 a c 5 (exs l)->Below w0.heap.size w0 w->w0.heap.size<=g->Cen w g n->n<=250->0<=d->d<=17 →
 Calls Tryz.prog 246 #[.pointer (some ⟨g,0,none⟩),.slice a l.length c,.int .i64 d] w fun e w'=>e=.returned (.bool (dZ l d (250-(n:Int))))/\w.grownBy w' (some g)/\(dZ l d (250-(n:Int))=true->Cen w' g (n+aG l))
theorem wR {x:Ex}{d left:Int}(h:gW x d left=true):(fA x:Int)<=left:=by
 unfold gW at h;simp only[zC0,zE3]at h;exact h.1.2
set_option maxHeartbeats 2000000 in
theorem aDf (l:List Ex)(H:∀x ∈ l,aFz x):xG l:=by
 intro w0 w a c g n d hT hr hb hg hc hn hd0 hd;refine M9119 ?_;intro y0 x1 y1 x2
 rw[show(w.alloc (.cells #[.pointer (some ⟨g,0,none⟩)] 272 (0,0))).heap.size=w.heap.size+1 by simp]at x2
 replace x1:=aB x1 (aA y1);have yy:=aD y0 y1;have hgl:g<w.heap.size:=Blk.lt hc
 replace hc:Cen ((w.alloc (.cells #[.pointer (some ⟨g,0,none⟩)] 272 (0,0))).alloc (.cells #[.int .i64 d] 3 (0,0))) g n:=Blk.old (Blk.old hc)
 have Ae:Below w0.heap.size w0 ((w.alloc (.cells #[.pointer (some ⟨g,0,none⟩)] 272 (0,0))).alloc (.cells #[.int .i64 d] 3 (0,0))):=hb.trans ((aA yy).mono hb.size)
 clear y0 y1 hb
 have HC:Calls Tryz.prog 239 #[.slice a l.length c,.func (.func 255) #[] #[.pointer (some ⟨w.heap.size,0,none⟩),.pointer (some ⟨w.heap.size+1,0,none⟩)]] ((w.alloc (.cells #[.pointer (some ⟨g,0,none⟩)] 272 (0,0))).alloc (.cells #[.int .i64 d] 3 (0,0))) fun e w'=>e=.returned (.bool (dZ l d (250-(n:Int))))/\w.grownBy w' (some g)/\(dZ l d (250-(n:Int))=true->Cen w' g (n+aG l)):=by
  generalize ((w.alloc (.cells #[.pointer (some ⟨g,0,none⟩)] 272 (0,0))).alloc (.cells #[.int .i64 d] 3 (0,0)))=W at *
  have hne1:w.heap.size ≠ g:=V6
  have hne2:w.heap.size+1 ≠ g:=V6
  refine(aJe 255 _ (some g) a l.length c (exs l) (fun j=>gW (l[j]?.getD e0) d (250-(n:Int)-(aG (l.take j):Int))) (fun j wr=>Below w0.heap.size w0 wr/\(aG (l.take j):Int)<=250-(n:Int)/\Cen wr g (n+aG (l.take j))/\wr.cell? ⟨w.heap.size,0,none⟩=some (.pointer (some ⟨g,0,none⟩))/\wr.cell? ⟨w.heap.size+1,0,none⟩=some (.int .i64 d)) (fun _ _=>True) W
   ⟨cK Tryz.func255 rfl rfl,fun j wr hi=>hr.below hi.1, ?_, ?_⟩ (by simp[aJ]) ⟨Ae,by simp[aG];omega,by simpa [aG] using hc,x1,x2⟩ ?_ V74 (cK Tryz.func252 rfl rfl)).mono ?_
  .
   intro r hr;rw[aJ]at hr;obtain⟨x,_,rfl⟩:=zE1.1 hr;exact cE x
  .
   intro j r wr vs hj hi Ad hca;have hj0:=hj;obtain⟨hi1,hi2,hi3,hi4,hi5⟩:=hi;rw[aJ,zA2]at hj;obtain⟨x,hx,rfl⟩:=zF0.1 hj;have hv0:=iM hr hi1 hj0 Ad.len hca;rw[hx]
   have hL:(250:Int)-(n:Int)-(aG (l.take j):Int)=250-((n+aG (l.take j):Nat):Int):=V6
   simp only[zI3,hL];refine(H x (zA3 hx) w0 wr vs g w.heap.size (w.heap.size+1) (n+aG (l.take j)) d hT hv0 hi1 hg hi3 V6 hd0 hd hi4 hi5 hne1 hne2).mono ?_;rintro e w' ⟨rfl,Aq,hcen⟩
   refine⟨rfl,Aq,fun h=>?_,fun _=>trivial⟩
   rw[cQ hx];have hle:=wR h;exact U141
  .
   exact U106
  .
   rintro e w' ⟨r,rfl,Aq,ht⟩
   have Be:w.grownBy w' (some g):=aD (bU yy _) Aq
   cases r with
   | false=>
    obtain⟨j,hj,hp,_⟩:=ht.yes rfl
    have hx:l[j]?=some l[j]:=zA0 hj
    have hF:dZ l d (250-(n:Int))=false:=sY hx (by simpa [hx] using hp)
    rw[hF]
    exact⟨rfl,Be,by simp⟩
   | true=>
    obtain⟨h1,h2,h3,h4,_⟩:=ht.no rfl
    have hF:dZ l d (250-(n:Int))=true:=pX (fun j x hx=>by
     have:=h1 j (zC1.1 hx).1
     simpa [hx] using this) V6
    rw[hF];rw[List.take_length]at h4
    exact⟨rfl,Be,fun _=>h4⟩
 clear x1 x2 hc Ae H;go_enter Tryz.func246,Tryz.ntmps246;exact U319
theorem U266{p:Prop}(h:p:=by
 go_wp2
 go_ret
 rw[he.out]
 exact⟨rfl,yy,by simp⟩):p:=h
theorem pY {x:Ex}{d left:Int}(h:left<1\/16<d):gW x d left=false:=by
 unfold gW;simp only[zI2,zH1]
 have h1:1<=fA x:=by cases x;simp[fA]
 have h2:1<=aFi x:=by cases x;simp[aFi]
 rcases h with h|h
 .
  left;right;omega
 .
  right;omega
theorem qA {k n:Int}{mod name:List Int}{ks:List Ex}{d left:Int}(h:exT k n mod name ks=false):gW (.mk k n mod name ks) d left=false:=by
 unfold gW
 rw[show nQ (.mk k n mod name ks)=(exT k n mod name ks && dR ks) by rw[wT,nQ],h];rfl
theorem pZ {k n:Int}{mod name:List Int}{ks:List Ex}{d left:Int}(h:exT k n mod name ks=true)(hl:1<=left)(hd:d<=16):gW (.mk k n mod name ks) d left=dZ ks (d+1) (left-1):=by
 unfold gW dZ
 rw[show nQ (.mk k n mod name ks)=(exT k n mod name ks && dR ks) by rw[wT,nQ],h,Bool.true_and]
 have e1:decide ((fA (.mk k n mod name ks):Int)<=left)=decide ((aG ks:Int)<=left-1):=by
  rw[decide_eq_decide];simp only[fA];omega
 rw[e1]
 congr 1
 by_cases h0:ks.length=0
 .
  have:=zE0 h0
  subst this
  rw[zB3 (show d+(aFi (.mk k n mod name []):Int)<=17 by simp only[aFi,mA];omega)];simp
 .
  rw[zC2 h0,Bool.false_or,decide_eq_decide];simp only[aFi];omega
set_option maxHeartbeats 4000000 in
theorem aLb (k n:Int)(mod name:List Int)(ks:List Ex)(hs:aH (Ex.mk k n mod name ks).fl<=1048576)(S:xG ks):aFz (.mk k n mod name ks):=by
 intro w0 w vs g g1 g2 cnt d hT hr hb hg hc hn hd0 hd x1 x2 hne1 hne2
 have HF:∀w1,Below w0.heap.size w0 w1->Calls Tryz.prog 256 #[agg vs] w1 fun e w'=>e=.returned (.bool (exT k n mod name ks))/\w1.grownBy w' none:=fun w1 h1=>aC3 (.mk k n mod name ks) vs w1 (hT.below h1) (hr.below h1) hs
 unfold Ex.fl at hr;obtain⟨y0,_,rfl,rfl,y1,_,rfl,rfl,y2,_,rfl,⟨a2,c2,rfl,_⟩,y3,_,rfl,⟨a3,c3,rfl,_⟩,y4,_,rfl,Bl,rfl⟩:=hr;obtain⟨a4,c4,rfl,h4⟩:=Bl.list;clear Bl
 have As:(exs ks).length=ks.length:=by simp[aJ]
 rw[As]at HF ⊢
 have HK:∀w1,Below w0.heap.size w0 w1->Cen w1 g (cnt+1)->cnt+1<=250->d+1<=17->Calls Tryz.prog 246 #[.pointer (some ⟨g,0,none⟩),.slice a4 ks.length c4,.int .i64 (d+1)] w1 fun e w'=>e=.returned (.bool (dZ ks (d+1) (250-((cnt+1:Nat):Int))))/\w1.grownBy w' (some g)/\(dZ ks (d+1) (250-((cnt+1:Nat):Int))=true->Cen w' g (cnt+1+aG ks)):=fun w1 h1 h2 h3 h5=>S w0 w1 a4 c4 g (cnt+1) (d+1) hT h4 h1 hg h2 h3 V6 h5
 clear h4 S hT hs;simp only[agg]at HF ⊢;have hgl:g<w.heap.size:=Blk.lt hc;have y0:=aC w (.cells #[.int .i64 k,.int .i64 n,.slice a2 mod.length c2,.slice a3 name.length c3,.slice a4 ks.length c4] 133 (0,0)) none;have x0:=Blk.new w 133 [.int .i64 k,.int .i64 n,.slice a2 mod.length c2,.slice a3 name.length c3,.slice a4 ks.length c4];have hcw:=Blk.old hc (o:=.cells #[.int .i64 k,.int .i64 n,.slice a2 mod.length c2,.slice a3 name.length c3,.slice a4 ks.length c4] 133 (0,0));replace x1:=aB x1 (aA y0);replace x2:=aB x2 (aA y0);replace hb:=hb.trans ((aA y0).mono hb.size);clear hc;go_enter Tryz.func255,Tryz.ntmps255;go_upto_region 1 with fail;generalize w.alloc (.cells #[.int .i64 k,.int .i64 n,.slice a2 mod.length c2,.slice a3 name.length c3,.slice a4 ks.length c4] 133 (0,0))=w1 at *;have yy:=bU y0 (some g);have H1:=wM g cnt d w1 hcw V6;obtain⟨q0,q1,q2,q3,q4⟩:=x0.c5;clear y0;go_wp2_with fail;refine H1.mono ?_;rintro e w2 ⟨rfl,Be,hc2⟩
 have An:w.heap.size ≠ g:=V6
 replace x0:=x0.grown Be An;replace x1:=cH x1 Be hne1;replace x2:=cH x2 Be hne2;replace hb:=bZ hb Be hg;replace yy:=aD yy Be;clear H1 hcw q0 q1 q2 q3 q4 Be;obtain⟨q0,q1,q2,q3,q4⟩:=x0.c5
 by_cases hro:cnt+1<=250/\d<=16
 .
  rw[zB3 hro.1,zB3 hro.2];have H2:=HF w2 hb;clear HF;go_wp2_with fail;refine H2.mono ?_;rintro e w3 ⟨rfl,hg3⟩;have hb3:=aA hg3;replace x0:=x0.below hb3 x0.lt;replace x1:=aB x1 hb3;replace x2:=aB x2 hb3;replace hb:=hb.trans (hb3.mono hb.size);replace yy:=aD yy (bU hg3 _)
  have hc3:Cen w3 g (cnt+1):=Blk.below hc2 hb3 (Blk.lt hc2)
  clear H2 hc2 q0 q1 q2 q3 q4 hg3 hb3;obtain⟨q0,q1,q2,q3,q4⟩:=x0.c5
  cases e1:exT k n mod name ks
  .
   have he:Hid (gW (.mk k n mod name ks) d (250-(cnt:Int))=false):=qA e1
   clear e1 HK;exact U266
  .
   have H3:=HK w3 hb hc3 hro.1 V6
   have hE:Hid (gW (.mk k n mod name ks) d (250-(cnt:Int))=dZ ks (d+1) (250-((cnt+1:Nat):Int))):=by
    show _=_
    rw[pZ e1 V6 hro.2]
    congr 1;omega
   have hN:Hid (fA (.mk k n mod name ks)=1+aG ks):=by show _=_;simp[fA]
   clear e1 HK;generalize dZ ks (d+1) (250-((cnt+1:Nat):Int))=rr at *;go_wp2_with fail;refine H3.mono ?_;rintro e w4 ⟨rfl,Bg,hc4⟩;go_wp2;go_ret;rw[hE.out,hN.out]
   exact⟨rfl,aD yy Bg,fun h=>by have:=hc4 h;rw[show cnt+(1+aG ks)=cnt+1+aG ks by omega];exact this⟩
 .
  have hz:(decide (cnt+1<=250) && decide (d<=16))=false:=by
   simp only[zI2,zH1]
   omega
  rw[hz]
  have he:Hid (gW (.mk k n mod name ks) d (250-(cnt:Int))=false):=pY V6
  clear HF HK hz;exact U266
mutual
theorem aMl:∀x:Ex,aH x.fl<=1048576->aFz x
 | .mk k n m a ks,h=>aLb k n m a ks h (aDf ks (aDg ks (by
   have e:aH (Ex.mk k n m a ks).fl=m.length+a.length+((exs ks).length+aF (exs ks)):=by simp[Ex.fl,aH,Fl.len] <;> omega
   rw[e]at h;omega)))
theorem aDg:∀(l:List Ex),aF (exs l)<=1048576->∀e ∈ l,aFz e
 | [],_,e,h=>by simp at h
 | x :: l,hl,e,h=>by
  simp only[exs,aF]at hl
  rcases zH0.1 h with h|h
  .
   rw[h];exact aMl x V6
  .
   exact aDg l V6 e h
end
def s0:St:=.mk 0 0 [] [] [] []
def aFy (x:St):Prop:=∀(w0 w:World) (vs:List Value) (g g1 g2 n:Nat) (d:Int),kQ w0->aO w0 x.fl vs->Below w0.heap.size w0 w->w0.heap.size<=g->Cen w g n->n<=250->0<=d->d<=17 →
 w.cell? ⟨g1,0,none⟩=some (.pointer (some ⟨g,0,none⟩))->w.cell? ⟨g2,0,none⟩=some (.int .i64 d)->g1 ≠ g->g2 ≠ g →
 Calls Tryz.prog 231 #[agg vs,.pointer (some ⟨g1,0,none⟩),.pointer (some ⟨g2,0,none⟩)] w fun e w'=>e=.returned (.bool (bL x d (250-(n:Int))))/\w.grownBy w' (some g)/\(bL x d (250-(n:Int))=true->Cen w' g (n+kX x))
def tM (l:List St):Prop:=∀(w0 w:World) (a:Option Addr) (c g n:Nat) (d:Int),kQ w0->aS w0 a c 6 (sts l)->Below w0.heap.size w0 w->w0.heap.size<=g->Cen w g n->n<=250->0<=d->d<=17 →
 Calls Tryz.prog 218 #[.pointer (some ⟨g,0,none⟩),.slice a l.length c,.int .i64 d] w fun e w'=>e=.returned (.bool (bP l d (250-(n:Int))))/\w.grownBy w' (some g)/\(bP l d (250-(n:Int))=true->Cen w' g (n+aW l))
theorem wQ {x:St}{d left:Int}(h:bL x d left=true):(kX x:Int)<=left:=by
 unfold bL at h;simp only[zC0,zE3]at h;exact h.1.2
theorem vF (l:List St)(H:∀x ∈ l,aFy x):tM l:=by
 intro w0 w a c g n d hT hr hb hg hc hn hd0 hd;refine M9119 ?_;intro y0 x1 y1 x2
 rw[show(w.alloc (.cells #[.pointer (some ⟨g,0,none⟩)] 272 (0,0))).heap.size=w.heap.size+1 by simp]at x2
 replace x1:=aB x1 (aA y1);have yy:=aD y0 y1;have hgl:=Blk.lt hc
 replace hc:Cen ((w.alloc (.cells #[.pointer (some ⟨g,0,none⟩)] 272 (0,0))).alloc (.cells #[.int .i64 d] 3 (0,0))) g n:=Blk.old (Blk.old hc)
 have Ae:=hb.trans ((aA yy).mono hb.size);clear y0 y1 hb
 have HC:Calls Tryz.prog 225 #[.slice a l.length c,.func (.func 231) #[] #[.pointer (some ⟨w.heap.size,0,none⟩),.pointer (some ⟨w.heap.size+1,0,none⟩)]] ((w.alloc (.cells #[.pointer (some ⟨g,0,none⟩)] 272 (0,0))).alloc (.cells #[.int .i64 d] 3 (0,0))) fun e w'=>e=.returned (.bool (bP l d (250-(n:Int))))/\w.grownBy w' (some g)/\(bP l d (250-(n:Int))=true->Cen w' g (n+aW l)):=by
  generalize ((w.alloc (.cells #[.pointer (some ⟨g,0,none⟩)] 272 (0,0))).alloc (.cells #[.int .i64 d] 3 (0,0)))=W at *
  have hne1:w.heap.size ≠ g:=V6
  have hne2:w.heap.size+1 ≠ g:=V6
  refine(aJc 231 _ (some g) a l.length c (sts l) (fun j=>bL (l[j]?.getD s0) d (250-(n:Int)-(aW (l.take j):Int))) (fun j wr=>Below w0.heap.size w0 wr/\(aW (l.take j):Int)<=250-(n:Int)/\Cen wr g (n+aW (l.take j))/\wr.cell? ⟨w.heap.size,0,none⟩=some (.pointer (some ⟨g,0,none⟩))/\wr.cell? ⟨w.heap.size+1,0,none⟩=some (.int .i64 d)) (fun _ _=>True) W
   ⟨cK Tryz.func231 rfl rfl,fun j wr hi=>hr.below hi.1, ?_, ?_⟩ (by simp[aM]) ⟨Ae,by simp[aW];omega,by simpa [aW] using hc,x1,x2⟩ ?_ V74 (cK Tryz.func238 rfl rfl)).mono ?_
  .
   intro r hr;rw[aM]at hr;obtain⟨x,_,rfl⟩:=zE1.1 hr;exact aA1 x
  .
   intro j r wr vs hj hi Ad hca;have hj0:=hj;obtain⟨hi1,hi2,hi3,hi4,hi5⟩:=hi;rw[aM,zA2]at hj;obtain⟨x,hx,rfl⟩:=zF0.1 hj;have hv0:=iM hr hi1 hj0 Ad.len hca;rw[hx]
   have hL:(250:Int)-(n:Int)-(aW (l.take j):Int)=250-((n+aW (l.take j):Nat):Int):=V6
   simp only[zI3,hL];refine(H x (zA3 hx) w0 wr vs g w.heap.size (w.heap.size+1) (n+aW (l.take j)) d hT hv0 hi1 hg hi3 V6 hd0 hd hi4 hi5 hne1 hne2).mono ?_;rintro e w' ⟨rfl,Aq,hcen⟩
   refine⟨rfl,Aq,fun h=>?_,fun _=>trivial⟩
   rw[kD hx];have hle:=wQ h;exact U141
  .
   exact U106
  .
   rintro e w' ⟨r,rfl,Aq,ht⟩
   have Be:w.grownBy w' (some g):=aD (bU yy _) Aq
   cases r with
   | false=>
    obtain⟨j,hj,hp,_⟩:=ht.yes rfl
    have hx:l[j]?=some l[j]:=zA0 hj
    have hF:bP l d (250-(n:Int))=false:=sX hx (by simpa [hx] using hp)
    rw[hF]
    exact⟨rfl,Be,by simp⟩
   | true=>
    obtain⟨h1,h2,h3,h4,_⟩:=ht.no rfl
    have hF:bP l d (250-(n:Int))=true:=pV (fun j x hx=>by
     have:=h1 j (zC1.1 hx).1
     simpa [hx] using this) V6
    rw[hF];rw[List.take_length]at h4
    exact⟨rfl,Be,fun _=>h4⟩
 clear x1 x2 hc Ae H;go_enter Tryz.func218,Tryz.ntmps218;exact U319
theorem mQ {x:St}{d left:Int}(h:left<1\/16<d):bL x d left=false:=by
 unfold bL;simp only[zI2,zH1]
 have h1:1<=kX x:=by cases x;simp[kX]
 have h2:1<=aGm x:=by cases x;simp[aGm]
 rcases h with h|h
 .
  left;right;omega
 .
  right;omega
theorem aBy (k n:Int)(name:List Int)(ks:List Ex)(bs es:List St):sM (.mk k n name ks bs es)=(stT k n name ks bs.length es.length && dR ks && fC bs && fC es):=by rw[sC,sM]
theorem kH {k n:Int}{name:List Int}{ks:List Ex}{bs es:List St}{d left:Int}(h:stT k n name ks bs.length es.length=false):bL (.mk k n name ks bs es) d left=false:=by
 unfold bL;rw[aBy,h];rfl
def pG (ks:List Ex)(bs es:List St)(d left:Int):Bool:=dZ ks d left && bP bs d (left-(aG ks:Int)) && bP es d (left-(aG ks:Int)-(aW bs:Int))
theorem qC {l:List St}(h:l.length=0):lZ l=0:=by rw[zE0 h];rfl
theorem aAg {l:List Ex}(h:l.length=0):mA l=0:=by rw[zE0 h];rfl
theorem pW {k n:Int}{name:List Int}{ks:List Ex}{bs es:List St}{d left:Int}(h:stT k n name ks bs.length es.length=true)(hl:1<=left)(hd:d<=16):bL (.mk k n name ks bs es) d left=pG ks bs es (d+1) (left-1):=by
 unfold bL pG dZ bP;rw[aBy,h,Bool.true_and,Bool.eq_iff_iff]
 have e1:kX (.mk k n name ks bs es)=1+(aG ks+aW bs+aW es):=by simp only[kX]
 have e2:aGm (.mk k n name ks bs es)=1+max (mA ks) (max (lZ bs) (lZ es)):=by simp only[aGm]
 rw[e1,e2];clear e1 e2;simp only[zC0,zE3,Bool.or_eq_true];have a1:=@aAg ks;have a2:=@qC bs;have a3:=@qC es
 constructor
 .
  rintro⟨⟨⟨⟨h1,h2⟩,h3⟩,h4⟩,h5⟩
  exact⟨⟨⟨⟨h1,by omega⟩,.inr V6⟩,⟨h2,by omega⟩,.inr V6⟩,⟨h3,by omega⟩,.inr V6⟩
 .
  rintro⟨⟨⟨⟨h1,b1⟩,c1⟩,⟨h2,b2⟩,c2⟩,⟨h3,b3⟩,c3⟩
  refine⟨⟨⟨⟨h1,h2⟩,h3⟩,by omega⟩, ?_⟩
  rcases c1 with c1|c1 <;> rcases c2 with c2|c2 <;> rcases c3 with c3|c3 <;> omega
theorem eP {l:List St}{d left:Int}(h:bP l d left=true):(aW l:Int)<=left:=by
 unfold bP at h;simp only[zC0,zE3]at h;exact h.1.2
theorem sZ {l:List Ex}{d left:Int}(h:dZ l d left=true):(aG l:Int)<=left:=by
 unfold dZ at h;simp only[zC0,zE3]at h;exact h.1.2
theorem aKw (k n:Int)(a2:Option Addr)(n2 c2:Nat)(a3:Option Addr)(c3:Nat)(a4:Option Addr)(c4:Nat)(a5:Option Addr)(c5:Nat)(ks:List Ex)(bs es:List St)(S3:xG ks)(S4:tM bs)(S5:tM es)(w0 w:World)(g cnt:Nat)(d:Int)
  (hT:kQ w0) (h3:aS w0 a3 c3 5 (exs ks)) (h4:aS w0 a4 c4 6 (sts bs)) (h5:aS w0 a5 c5 6 (sts es)) (hb:Below w0.heap.size w0 w) (hg:w0.heap.size<=g) (hc:Cen w g cnt) (hn:cnt<=250) (hd0:0<=d) (hd:d<=17):
  Calls Tryz.prog 234 #[.pointer (some ⟨g,0,none⟩),.agg #[.int .i64 k,.int .i64 n,.slice a2 n2 c2,.slice a3 ks.length c3,.slice a4 bs.length c4,.slice a5 es.length c5],.int .i64 d] w fun e w'=>e=.returned (.bool (pG ks bs es d (250-(cnt:Int))))/\w.grownBy w' (some g)/\(pG ks bs es d (250-(cnt:Int))=true->Cen w' g (cnt+(aG ks+aW bs+aW es))):=by
 have hgl:=Blk.lt hc
 have An:w.heap.size ≠ g:=V6
 have y0:=aC w (.cells #[.int .i64 k,.int .i64 n,.slice a2 n2 c2,.slice a3 ks.length c3,.slice a4 bs.length c4,.slice a5 es.length c5] 129 (0,0)) none;have x0:=Blk.new w 129 [.int .i64 k,.int .i64 n,.slice a2 n2 c2,.slice a3 ks.length c3,.slice a4 bs.length c4,.slice a5 es.length c5];have hcw:=Blk.old hc (o:=.cells #[.int .i64 k,.int .i64 n,.slice a2 n2 c2,.slice a3 ks.length c3,.slice a4 bs.length c4,.slice a5 es.length c5] 129 (0,0));replace hb:=hb.trans ((aA y0).mono hb.size);have yy:=bU y0 (some g);clear hc y0
 have hfe:Hid (pG ks bs es d (250-(cnt:Int))=(dZ ks d (250-(cnt:Int)) && bP bs d (250-(cnt:Int)-(aG ks:Int)) && bP es d (250-(cnt:Int)-(aG ks:Int)-(aW bs:Int)))):=rfl
 generalize pG ks bs es d (250-(cnt:Int))=TG at *;go_enter Tryz.func234,Tryz.ntmps234;go_upto_region 1 with fail;generalize w.alloc (.cells #[.int .i64 k,.int .i64 n,.slice a2 n2 c2,.slice a3 ks.length c3,.slice a4 bs.length c4,.slice a5 es.length c5] 129 (0,0))=w1 at *;have q3:=x0.k 3;have q4:=x0.k 4;have q5:=x0.k 5;have H1:=S3 w0 w1 a3 c3 g cnt d hT h3 hb hg hcw hn hd0 hd;clear S3 h3;generalize e3:dZ ks d (250-(cnt:Int))=r3 at *;go_wp2_with fail;refine H1.mono ?_;rintro e w2 ⟨rfl,Be,hc2⟩;replace x0:=x0.grown Be An;replace hb:=bZ hb Be hg;replace yy:=aD yy Be;clear H1 hcw q3 q4 q5 Be;cases r3
 .
  have he:Hid (TG=false):=by show _=_;rw[hfe.out];rfl
  go_wp2;go_ret
  exact⟨aE he.out.symm,yy,fun h=>by rw[he.out]at h;cases h⟩
 have hl3:=sZ e3;have hc2':=hc2 rfl;clear hc2 e3;have q4:=x0.k 4;have q5:=x0.k 5;have H2:=S4 w0 w2 a4 c4 g (cnt+aG ks) d hT h4 hb hg hc2' V6 hd0 hd
 have eL:(250:Int)-((cnt+aG ks:Nat):Int)=250-(cnt:Int)-(aG ks:Int):=V6
 rw[eL]at H2;clear S4 h4 eL;generalize e4:bP bs d (250-(cnt:Int)-(aG ks:Int))=r4 at *;go_wp2_with fail;refine H2.mono ?_;rintro e w3 ⟨rfl,hg3,hc3⟩;replace x0:=x0.grown hg3 An;replace hb:=bZ hb hg3 hg;replace yy:=aD yy hg3;clear H2 hc2' q4 q5 hg3;cases r4
 .
  have he:Hid (TG=false):=by show _=_;rw[hfe.out];simp
  go_wp2;go_ret
  exact⟨aE he.out.symm,yy,fun h=>by rw[he.out]at h;cases h⟩
 have hl4:=eP e4;have hc3':=hc3 rfl;clear hc3 e4;have q5:=x0.k 5;have H3:=S5 w0 w3 a5 c5 g (cnt+aG ks+aW bs) d hT h5 hb hg hc3' V6 hd0 hd
 have eL:(250:Int)-((cnt+aG ks+aW bs:Nat):Int)=250-(cnt:Int)-(aG ks:Int)-(aW bs:Int):=V6
 rw[eL]at H3;clear S5 h5 eL;generalize e5:bP es d (250-(cnt:Int)-(aG ks:Int)-(aW bs:Int))=r5 at *;go_wp2_with fail;refine H3.mono ?_;rintro e w4 ⟨rfl,Bg,hc4⟩
 have he:Hid (TG=r5):=by show _=_;rw[hfe.out];simp
 go_wp2;go_ret
 exact⟨aE he.out.symm,aD yy Bg,fun h=>by
  have:=hc4 (he.out ▸ h)
  rw[show cnt+(aG ks+aW bs+aW es)=cnt+aG ks+aW bs+aW es by omega];exact this⟩
set_option maxHeartbeats 4000000 in
theorem aLa (k n:Int)(name:List Int)(ks:List Ex)(bs es:List St)(hs:aH (St.mk k n name ks bs es).fl<=1048576)(S3:xG ks)(S4:tM bs)(S5:tM es):aFy (.mk k n name ks bs es):=by
 intro w0 w vs g g1 g2 cnt d hT hr hb hg hc hn hd0 hd x1 x2 hne1 hne2
 have HF:∀w1,Below w0.heap.size w0 w1->Calls Tryz.prog 233 #[agg vs] w1 fun e w'=>e=.returned (.bool (stT k n name ks bs.length es.length))/\w1.grownBy w' none:=fun w1 h1=>aA4 k n name ks bs es vs w1 (hT.below h1) (hr.below h1) hs
 unfold St.fl at hr;obtain⟨y0,_,rfl,rfl,y1,_,rfl,rfl,y2,_,rfl,⟨a2,c2,rfl,_⟩,y3,_,rfl,h3',y4,_,rfl,Bl,y5,_,rfl,h5',rfl⟩:=hr;obtain⟨a3,c3,rfl,h3⟩:=h3'.list;obtain⟨a4,c4,rfl,h4⟩:=Bl.list;obtain⟨a5,c5,rfl,h5⟩:=h5'.list;clear h3' Bl h5'
 have As:(exs ks).length=ks.length:=by simp[aJ]
 refine M939 ?_;intro hbl hel;rw[As,hbl,hel]at HF ⊢
 have HK:∀w1,Below w0.heap.size w0 w1->Cen w1 g (cnt+1)->cnt+1<=250->d+1<=17->Calls Tryz.prog 234 #[.pointer (some ⟨g,0,none⟩),.agg #[.int .i64 k,.int .i64 n,.slice a2 name.length c2,.slice a3 ks.length c3,.slice a4 bs.length c4,.slice a5 es.length c5],.int .i64 (d+1)] w1 fun e w'=>e=.returned (.bool (pG ks bs es (d+1) (250-((cnt+1:Nat):Int))))/\w1.grownBy w' (some g)/\(pG ks bs es (d+1) (250-((cnt+1:Nat):Int))=true->Cen w' g (cnt+1+(aG ks+aW bs+aW es))):=fun w1 h1 h2 h7 h8=>aKw k n a2 name.length c2 a3 c3 a4 c4 a5 c5 ks bs es S3 S4 S5 w0 w1 g (cnt+1) (d+1) hT h3 h4 h5 h1 hg h2 h7 V6 h8
 clear h3 h4 h5 S3 S4 S5 hT hs;simp only[agg]at HF ⊢;have hgl:g<w.heap.size:=Blk.lt hc;have y0:=aC w (.cells #[.int .i64 k,.int .i64 n,.slice a2 name.length c2,.slice a3 ks.length c3,.slice a4 bs.length c4,.slice a5 es.length c5] 129 (0,0)) none;have x0:=Blk.new w 129 [.int .i64 k,.int .i64 n,.slice a2 name.length c2,.slice a3 ks.length c3,.slice a4 bs.length c4,.slice a5 es.length c5];have hcw:=Blk.old hc (o:=.cells #[.int .i64 k,.int .i64 n,.slice a2 name.length c2,.slice a3 ks.length c3,.slice a4 bs.length c4,.slice a5 es.length c5] 129 (0,0));replace x1:=aB x1 (aA y0);replace x2:=aB x2 (aA y0);replace hb:=hb.trans ((aA y0).mono hb.size);clear hc;go_enter Tryz.func231,Tryz.ntmps231;go_upto_region 1 with fail;generalize w.alloc (.cells #[.int .i64 k,.int .i64 n,.slice a2 name.length c2,.slice a3 ks.length c3,.slice a4 bs.length c4,.slice a5 es.length c5] 129 (0,0))=w1 at *;have yy:=bU y0 (some g);have H1:=wM g cnt d w1 hcw V6;obtain⟨q0,q1,q2,q3,q4,q5⟩:=x0.c6;clear y0;go_wp2_with fail;refine H1.mono ?_;rintro e w2 ⟨rfl,Be,hc2⟩
 have An:w.heap.size ≠ g:=V6
 replace x0:=x0.grown Be An;replace x1:=cH x1 Be hne1;replace x2:=cH x2 Be hne2;replace hb:=bZ hb Be hg;replace yy:=aD yy Be;clear H1 hcw q0 q1 q2 q3 q4 q5 Be;obtain⟨q0,q1,q2,q3,q4,q5⟩:=x0.c6
 by_cases hro:cnt+1<=250/\d<=16
 .
  rw[zB3 hro.1,zB3 hro.2];have H2:=HF w2 hb;clear HF;go_wp2_with fail;refine H2.mono ?_;rintro e w3 ⟨rfl,hg3⟩;have hb3:=aA hg3;replace x0:=x0.below hb3 x0.lt;replace x1:=aB x1 hb3;replace x2:=aB x2 hb3;replace hb:=hb.trans (hb3.mono hb.size);replace yy:=aD yy (bU hg3 _)
  have hc3:Cen w3 g (cnt+1):=Blk.below hc2 hb3 (Blk.lt hc2)
  clear H2 hc2 q0 q1 q2 q3 q4 q5 hg3 hb3;obtain⟨q0,q1,q2,q3,q4,q5⟩:=x0.c6
  cases e1:stT k n name ks bs.length es.length
  .
   have he:Hid (bL (.mk k n name ks bs es) d (250-(cnt:Int))=false):=kH e1
   clear e1 HK;exact U266
  .
   have H3:=HK w3 hb hc3 hro.1 V6
   have hE:Hid (bL (.mk k n name ks bs es) d (250-(cnt:Int))=pG ks bs es (d+1) (250-((cnt+1:Nat):Int))):=by
    show _=_
    rw[pW e1 V6 hro.2]
    congr 1;omega
   have hN:Hid (kX (.mk k n name ks bs es)=1+(aG ks+aW bs+aW es)):=by show _=_;simp[kX]
   clear e1 HK;generalize pG ks bs es (d+1) (250-((cnt+1:Nat):Int))=rr at *;go_wp2_with fail;refine H3.mono ?_;rintro e w4 ⟨rfl,Bg,hc4⟩;go_wp2;go_ret;rw[hE.out,hN.out]
   exact⟨rfl,aD yy Bg,fun h=>by have:=hc4 h;rw[show cnt+(1+(aG ks+aW bs+aW es))=cnt+1+(aG ks+aW bs+aW es) by omega];exact this⟩
 .
  have hz:(decide (cnt+1<=250) && decide (d<=16))=false:=by
   simp only[zI2,zH1]
   omega
  rw[hz]
  have he:Hid (bL (.mk k n name ks bs es) d (250-(cnt:Int))=false):=mQ V6
  clear HF HK hz;exact U266
mutual
theorem aMk:∀x:St,aH x.fl<=1048576->aFy x
 | .mk k n a ks bs es,h=>by
  have e:aH (St.mk k n a ks bs es).fl=a.length+((exs ks).length+aF (exs ks))+((sts bs).length+aF (sts bs))+((sts es).length+aF (sts es)):=by simp[St.fl,aH,Fl.len] <;> omega
  exact aLa k n a ks bs es h (aDf ks (aDg ks (by rw[e]at h;omega))) (vF bs (wW bs (by rw[e]at h;omega))) (vF es (wW es (by rw[e]at h;omega)))
theorem wW:∀(l:List St),aF (sts l)<=1048576->∀e ∈ l,aFy e
 | [],_,e,h=>by simp at h
 | x :: l,hl,e,h=>by
  simp only[sts,aF]at hl
  rcases zH0.1 h with h|h
  .
   rw[h];exact aMk x V6
  .
   exact wW l V6 e h
end
theorem U288{p:Prop}(h:p:=by
 intro r hr
 obtain⟨x,_,rfl⟩:=zE1.1 hr
 rfl):p:=h
def lF (v:Va):Bool:=aK v.name false && inB v.size 0 20
def aAl (a:Pa):Bool:=aK a.name false
def iR (x:List Int):Bool:=aK x false
def iK (x:List Int):Bool:=aK x true
def jU (q:Pr):Bool:=aK q.name false && decide (q.params.length<=4) && q.params.all aAl && decide (q.locals.length<=8) && q.locals.all iR
def p0:Pr:=⟨[],false,[],[],[]⟩
def eZ:List Pr->Nat
 | []=>0
 | q :: l=>aW q.body+eZ l
def jW (l:List Pr)(left:Int):Bool:=(List.range l.length).all fun j=>bP (l[j]?.getD p0).body 1 (left-(eZ (l.take j):Int))
def bY (m:Mo):Bool:=aK m.name true && decide (m.uses.length<=6) && m.uses.all iK && decide (m.vars.length<=8) && m.vars.all lF && decide (m.procs.length<=8) && m.procs.all jU && jW m.procs 250
theorem aB2 (l m:List Pr):eZ (l++m)=eZ l+eZ m:=by
 induction l with
 | nil=>simp[eZ]
 | cons x l ih=>simp[eZ,ih];omega
theorem pT {l:List Pr}{j:Nat}{x:Pr}(h:l[j]?=some x):eZ (l.take (j+1))=eZ (l.take j)+aW x.body:=by
 obtain⟨hk,rfl⟩:=zC1.1 h;rw[zF1 hk,aB2];simp[eZ]
theorem aK2 (x:List Int)(a:Option Addr)(c:Nat)(w:World)(h:bW w a x.length x)(hn:x.length<=1073741824)(hc:x.length<=c):
  Calls Tryz.prog 195 #[.slice a x.length c] w fun e w'=>e=.returned (.bool (iK x))/\w'=w:=by
 have H:=dX a x.length c x true w h hn hc;go_enter Tryz.func195,Tryz.ntmps195;go_wp2_with fail;refine H.mono ?_;rintro e w2 ⟨rfl,rfl⟩;exact U101
theorem aJ2 (x:List Int)(a:Option Addr)(c:Nat)(w:World)(h:bW w a x.length x)(hn:x.length<=1073741824)(hc:x.length<=c):
  Calls Tryz.prog 216 #[.slice a x.length c] w fun e w'=>e=.returned (.bool (iR x))/\w'=w:=by
 have H:=dX a x.length c x false w h hn hc;go_enter Tryz.func216,Tryz.ntmps216;go_wp2_with fail;refine H.mono ?_;rintro e w2 ⟨rfl,rfl⟩;exact U101
theorem aDi (G:Nat)(p:List Int->Bool)(hE:Ent G)(HG:∀(x:List Int) (a:Option Addr) (c:Nat) (w:World),bW w a x.length x->x.length<=1073741824->x.length<=c->Calls Tryz.prog G #[.slice a x.length c] w fun e w'=>e=.returned (.bool (p x))/\w'=w)
  (a:Option Addr) (c:Nat) (l:List (List Int)) (w:World) (h:aS w a c 1 (bH l)) (hs:∀x ∈ l,x.length<=1073741824):
  Calls Tryz.prog 180 #[.slice a l.length c,.func (.func G) #[] #[]] w fun e w'=>e=.returned (.bool (l.all p))/\w.grownBy w' none:=by
 refine(aGq G #[] none a l.length c (bH l) (fun j=>p (l[j]?.getD [])) (fun _ wr=>w.grownBy wr none) (fun _ _=>True) w ⟨hE,fun j wr hi=>h.below (aA hi), ?_, ?_⟩ (by simp[bH]) (aN0 _ _) (fun j w1 w2 h1 h2=>aD h1 h2) V15 (cK Tryz.func206 rfl rfl)).mono ?_
 .
  exact U288
 .
  intro j r wr vs hr hi Ad _;unfold bH at hr;rw[zA2]at hr;obtain⟨x,hx,rfl⟩:=zF0.1 hr;rw[hx];have hxs:=hs x (zA3 hx);obtain⟨y0,us,rfl,⟨a0,c0,rfl,Ar,hc0,_⟩,rfl⟩:=Ad;refine(HG x a0 c0 wr Ar hxs hc0).mono ?_;rintro e w' ⟨rfl,rfl⟩
  exact⟨rfl,aN0 _ _,fun _=>hi,fun _=>trivial⟩
 .
  rintro e w' ⟨r,rfl,hg,ht⟩;refine⟨aE ?_,hg⟩;rw[fV ht];exact fM l [] p
theorem aMz (v:Va)(vs:List Value)(w:World)(h:aO w v.fl vs)(hn:v.name.length<=1073741824):
  Calls Tryz.prog 196 #[agg vs] w fun e w'=>e=.returned (.bool (lF v))/\w.grownBy w' none:=by
 obtain⟨y0,us,rfl,⟨a0,c0,rfl,Ar,hc0,_⟩,y1,us2,rfl,rfl,rfl⟩:=h;have yy:=aC w (.cells #[.slice a0 v.name.length c0,.int .i64 v.size] 123 (0,0)) none;have x0:=Blk.new w 123 [.slice a0 v.name.length c0,.int .i64 v.size];have H:=dX a0 v.name.length c0 v.name false _ (Ar.below (aA yy)) hn hc0;have H2:=gL v.size 0 20 (w.alloc (.cells #[.slice a0 v.name.length c0,.int .i64 v.size] 123 (0,0)))
 have he:Hid (lF v=(aK v.name false && (decide (0<=v.size) && decide (v.size<=20)))):=rfl
 simp only[agg];go_enter Tryz.func196,Tryz.ntmps196;go_upto_region 1 with fail;generalize w.alloc (.cells #[.slice a0 v.name.length c0,.int .i64 v.size] 123 (0,0))=w1 at *;obtain⟨q0,q1⟩:=x0.c2;go_wp2_with fail;refine H.mono ?_;rintro e w1 ⟨rfl,rfl⟩
 cases e1:aK v.name false
 .
  go_wp2;go_ret
  exact⟨aE (by rw[he.out,e1];rfl),yy⟩
 .
  generalize (decide (0<=v.size) && decide (v.size<=20))=r2 at *;go_wp2_with fail;refine H2.mono ?_;rintro e w1 ⟨rfl,rfl⟩;go_wp2;go_ret
  exact⟨aE (by rw[he.out,e1];simp),yy⟩
theorem aKp (v:Pa)(vs:List Value)(w:World)(h:aO w v.fl vs)(hn:v.name.length<=1073741824):
  Calls Tryz.prog 215 #[agg vs] w fun e w'=>e=.returned (.bool (aAl v))/\w.grownBy w' none:=by
 obtain⟨y0,us,rfl,⟨a0,c0,rfl,Ar,hc0,_⟩,y1,us2,rfl,rfl,rfl⟩:=h;have yy:=aC w (.cells #[.slice a0 v.name.length c0,.bool v.arr] 126 (0,0)) none;have x0:=Blk.new w 126 [.slice a0 v.name.length c0,.bool v.arr];have H:=dX a0 v.name.length c0 v.name false _ (Ar.below (aA yy)) hn hc0;simp only[agg];go_enter Tryz.func215,Tryz.ntmps215;go_upto_region 1 with fail;generalize w.alloc (.cells #[.slice a0 v.name.length c0,.bool v.arr] 126 (0,0))=w1 at *;have q0:=x0.k 0;go_wp2_with fail;refine H.mono ?_;rintro e w1 ⟨rfl,rfl⟩;go_wp2;go_ret;exact⟨rfl,yy⟩
theorem aJb (a:Option Addr)(c:Nat)(l:List Va)(w:World)(h:aS w a c 2 (l.map Va.fl))(hs:∀x ∈ l,x.name.length<=1073741824):
  Calls Tryz.prog 141 #[.slice a l.length c,.func (.func 196) #[] #[]] w fun e w'=>e=.returned (.bool (l.all lF))/\w.grownBy w' none:=by
 refine(aGp 196 #[] none a l.length c (l.map Va.fl) (fun j=>lF (l[j]?.getD ⟨[],0⟩)) (fun _ wr=>w.grownBy wr none) (fun _ _=>True) w ⟨cK Tryz.func196 rfl rfl,fun j wr hi=>h.below (aA hi), ?_, ?_⟩ V15 (aN0 _ _) (fun j w1 w2 h1 h2=>aD h1 h2) V15 (cK Tryz.func174 rfl rfl)).mono ?_
 .
  exact U288
 .
  intro j r wr vs hr hi Ad _;rw[zA2]at hr;obtain⟨x,hx,rfl⟩:=zF0.1 hr;rw[hx];refine(aMz x vs wr Ad (hs x (zA3 hx))).mono ?_;exact U57
 .
  rintro e w' ⟨r,rfl,hg,ht⟩;refine⟨aE ?_,hg⟩;rw[fV ht];exact fM l ⟨[],0⟩ lF
theorem aDj (a:Option Addr)(c:Nat)(l:List Pa)(w:World)(h:aS w a c 2 (l.map Pa.fl))(hs:∀x ∈ l,x.name.length<=1073741824):
  Calls Tryz.prog 177 #[.slice a l.length c,.func (.func 215) #[] #[]] w fun e w'=>e=.returned (.bool (l.all aAl))/\w.grownBy w' none:=by
 refine(xE 215 #[] none a l.length c (l.map Pa.fl) (fun j=>aAl (l[j]?.getD ⟨[],false⟩)) (fun _ wr=>w.grownBy wr none) (fun _ _=>True) w ⟨cK Tryz.func215 rfl rfl,fun j wr hi=>h.below (aA hi), ?_, ?_⟩ V15 (aN0 _ _) (fun j w1 w2 h1 h2=>aD h1 h2) V15 (cK Tryz.func205 rfl rfl)).mono ?_
 .
  exact U288
 .
  intro j r wr vs hr hi Ad _;rw[zA2]at hr;obtain⟨x,hx,rfl⟩:=zF0.1 hr;rw[hx];refine(aKp x vs wr Ad (hs x (zA3 hx))).mono ?_;exact U57
 .
  rintro e w' ⟨r,rfl,hg,ht⟩;refine⟨aE ?_,hg⟩;rw[fV ht];exact fM l ⟨[],false⟩ aAl
def fQ (k:Int)(nk:Nat):Int:=if k=0 then 0 else if k=1 then 0 else if k=4 then 0 else if k=5 then 0 else if k=7 then 0 else if k=2 then 1 else if k=3 then 2 else if k=6 then (if nk<=4 then nk else -1) else -1
theorem sE (k:Int)(nk:Nat):fQ k nk=nk ↔ (inB k 0 7=true/\dL k<=nk/\(nk:Int)<=eX k):=by
 unfold fQ dL eX inB;simp only[zC0,zE3]
 constructor
 .
  intro h
  split at h
  .
   rename_i h0;subst h0;simp;omega
  split at h
  .
   rename_i h0;subst h0;simp;omega
  split at h
  .
   rename_i h0;subst h0;simp;omega
  split at h
  .
   rename_i h0;subst h0;simp;omega
  split at h
  .
   rename_i h0;subst h0;simp;omega
  split at h
  .
   rename_i h0;subst h0;simp;omega
  split at h
  .
   rename_i h0;subst h0;simp;omega
  split at h
  .
   rename_i h0;subst h0
   split at h
   .
    simp;omega
   .
    omega
  .
   omega
 .
  rintro⟨⟨h1,h2⟩,h3,h4⟩
  have h8:k=0\/k=1\/k=2\/k=3\/k=4\/k=5\/k=6\/k=7:=by omega
  rcases h8 with rfl|rfl|rfl|rfl|rfl|rfl|rfl|rfl <;> simp at h3 h4 ⊢ <;> omega
theorem dD {k n:Int}{mod name:List Int}{nk:Nat}(h:inB k 0 7=false\/inB nk (dL k) (eX k)=false\/inB n (eT k) (dB k)=false\/(dK k=true/\aK name false=false)\/(dK k=false/\¬name.length=0)\/(¬mod.length=0/\¬k=6)\/(¬mod.length=0/\aK mod true=false)):gE k n mod name nk=false:=by
 unfold gE
 rcases h with h|h|h|⟨h1,h2⟩|⟨h1,h2⟩|⟨h1,h2⟩|⟨h1,h2⟩
 .
  rw[h];rfl
 .
  rw[h];simp
 .
  rw[h];simp
 .
  rw[h1,if_pos rfl,h2];simp
 .
  rw[h1,zC2 h2];simp
 .
  rw[zC2 h1,zC2 h2];simp
 .
  rw[zC2 h1,h2];simp
theorem iT {k n:Int}{mod name:List Int}{nk:Nat}(h1:inB k 0 7=true)(h2:inB nk (dL k) (eX k)=true)(h3:inB n (eT k) (dB k)=true)(h4:(if dK k then aK name false else decide (name.length=0))=true)(h5:(decide (mod.length=0) || decide (k=6) && aK mod true)=true):gE k n mod name nk=true:=by
 unfold gE;rw[h1,h2,h3,h4,h5];rfl
def cW (x:Ex)(d:Int)(arg:Bool)(left:Int):Bool:=(!kK x || arg) && gW x d left
def eR (l:List Ex)(d:Int)(arg:Bool)(left:Int):Bool:=(arg || !l.any kK) && dZ l d left
theorem fF {l:List Ex}{d left:Int}{arg:Bool}{j:Nat}{x:Ex}(h:l[j]?=some x)(hx:cW x d arg (left-(aG (l.take j):Int))=false):eR l d arg left=false:=by
 unfold cW at hx;unfold eR;rw[zI2]at hx ⊢
 rcases hx with hx|hx
 .
  left
  rw[Bool.or_eq_false_iff]at hx ⊢;refine⟨hx.2, ?_⟩
  have h1:kK x=true:=by simpa using hx.1
  have:l.any kK=true:=by rw[List.any_eq_true];exact⟨x,zA3 h,h1⟩
  rw[this];rfl
 .
  right;exact sY h hx
theorem dW {l:List Ex}{d left:Int}{arg:Bool}(h:∀j x,l[j]?=some x->cW x d arg (left-(aG (l.take j):Int))=true)(hl:0<=left):eR l d arg left=true:=by
 unfold eR;rw[zC0]
 refine⟨?_,pX (fun j x hx=>by have:=h j x hx;unfold cW at this;rw[zC0]at this;exact this.2) hl⟩
 cases arg
 .
  rw[Bool.false_or]
  have:l.any kK=false:=by
   rw[List.any_eq_false];intro x hx;obtain⟨j,hj⟩:=zI1 hx
   have:=h j x hj
   unfold cW at this;simp only[zC0,Bool.or_eq_true,Bool.not_eq_true',Bool.false_eq_true,or_false]at this
   simpa using this.1
  rw[this];rfl
 .
  rfl
theorem gD {x:Ex}{d left:Int}{arg:Bool}(h:cW x d arg left=true):(fA x:Int)<=left:=by
 unfold cW at h;rw[zC0]at h;exact wR h.2
theorem sD {x:Ex}{d left:Int}{arg:Bool}(h:left<1\/16<d):cW x d arg left=false:=by
 unfold cW;rw[pY h];simp
theorem cC {k n:Int}{mod name:List Int}{ks:List Ex}{d left:Int}{arg:Bool}(h:gE k n mod name ks.length=false):cW (.mk k n mod name ks) d arg left=false:=by
 unfold cW gW nQ;rw[h];simp
theorem aEc {n:Int}{mod name:List Int}{ks:List Ex}{d left:Int}:cW (.mk 7 n mod name ks) d false left=false:=by
 unfold cW kK Ex.kind;simp
theorem fL {k n:Int}{mod name:List Int}{ks:List Ex}{d left:Int}{arg:Bool}(h:gE k n mod name ks.length=true)(ha:¬k=7\/arg=true)(hl:1<=left)(hd:d<=16):cW (.mk k n mod name ks) d arg left=eR ks (d+1) (decide (k=6)) (left-1):=by
 have h1:(!kK (.mk k n mod name ks) || arg)=true:=by
  rcases ha with ha|ha
  .
   simp[kK,Ex.kind,ha]
  .
   rw[ha];simp
 unfold cW eR;rw[h1,Bool.true_and]
 cases hx:(decide (k=6) || !ks.any kK)
 .
  rw[Bool.false_and];refine qA ?_;rw[wT,hx];simp
 .
  rw[Bool.true_and]
  exact pZ (by rw[wT,h,hx];rfl) hl hd
theorem jT {k:Int}{ks:List Ex}(h:inB (ks.length:Int) (dL k) (eX k)=true)(hk:eX k=0):ks.length=0:=by
 unfold inB at h;rw[hk]at h;simp only[zC0,zE3]at h
 omega
theorem jH {d m:Int}{arg:Bool}(h:0<=m):eR [] d arg m=true:=by
 simp[eR,dZ,dR,aG,h]
theorem U301{p:Prop}(h:p:=by
 go_wp2
 go_ret
 exact⟨hz.out _ hv.out,y0⟩):p:=h
set_option maxHeartbeats 1000000 in
theorem aIg (k n:Int)(v2 v3:Value)(a:Option Addr)(nk c:Nat)(w:World)(hk:nk<=9223372036854775807):
  Calls Tryz.prog 213 #[.agg #[.int .i64 k,.int .i64 n,v2,v3,.slice a nk c]] w fun e w'=>e=.returned (.int .i64 (fQ k nk))/\w.grownBy w' none:=by
 have y0:=aC w (.cells #[.int .i64 k,.int .i64 n,v2,v3,.slice a nk c] 133 (0,0)) none;have q0:=aN w 133 #[.int .i64 k,.int .i64 n,v2,v3,.slice a nk c] 0 _ rfl;have q4:=aN w 133 #[.int .i64 k,.int .i64 n,v2,v3,.slice a nk c] 4 _ rfl
 have hz:Hid (∀x:Int,fQ k nk=x->Ending.returned (.int .i64 x)=.returned (.int .i64 (fQ k nk))):=fun x h=>by rw[h]
 go_enter Tryz.func213,Tryz.ntmps213;go_upto_region 1 with fail;generalize w.alloc (.cells #[.int .i64 k,.int .i64 n,v2,v3,.slice a nk c] 133 (0,0))=w1 at *
 by_cases k0:k=0
 .
  subst k0
  have hv:Hid (fQ 0 nk=0):=by show _=_;simp[fQ]
  exact U301
 have g0:(k == 0)=false:=by simpa using k0
 by_cases k1:k=1
 .
  subst k1
  have hv:Hid (fQ 1 nk=0):=by show _=_;simp[fQ]
  exact U301
 have g1:(k == 1)=false:=by simpa using k1
 by_cases k4:k=4
 .
  subst k4
  have hv:Hid (fQ 4 nk=0):=by show _=_;simp[fQ]
  exact U301
 have g4:(k == 4)=false:=by simpa using k4
 by_cases k5:k=5
 .
  subst k5
  have hv:Hid (fQ 5 nk=0):=by show _=_;simp[fQ]
  exact U301
 have g5:(k == 5)=false:=by simpa using k5
 by_cases k7:k=7
 .
  subst k7
  have hv:Hid (fQ 7 nk=0):=by show _=_;simp[fQ]
  exact U301
 have g7:(k == 7)=false:=by simpa using k7
 by_cases k2:k=2
 .
  subst k2
  have hv:Hid (fQ 2 nk=1):=by show _=_;simp[fQ]
  exact U301
 have g2:(k == 2)=false:=by simpa using k2
 by_cases k3:k=3
 .
  subst k3
  have hv:Hid (fQ 3 nk=2):=by show _=_;simp[fQ]
  exact U301
 have g3:(k == 3)=false:=by simpa using k3
 by_cases k6:k=6
 .
  subst k6
  by_cases h4:nk<=4
  .
   have Bl:(nk:Int)<=4:=by omega
   have hv:Hid (fQ 6 nk=nk):=by show _=_;simp[fQ,h4]
   exact U301
  .
   have Bl:¬(nk:Int)<=4:=by omega
   have hv:Hid (fQ 6 nk = -1):=by show _=_;simp[fQ,h4]
   exact U301
 have g6:(k == 6)=false:=by simpa using k6
 have hv:Hid (fQ k nk = -1):=by show _=_;simp[fQ,k0,k1,k2,k3,k4,k5,k6,k7]
 clear k0 k1 k2 k3 k4 k5 k6 k7;exact U301
def gH (k n:Int)(name:List Int)(nk nb ne:Nat):Bool:=
 inB k 0 7 && (inB n 0 (dA k) && inB nk (bS k) (bS k) && (if dH k then aK name false else decide (name.length=0))) && (decide (nb=0) || eV k) && (decide (ne=0) || decide (k=2))
theorem nK (k n:Int)(name:List Int)(ks:List Ex)(nb ne:Nat):mI k n name ks nb ne=(gH k n name ks.length nb ne && !ks.any kK && (!decide (k=7) || ks.any iE)):=rfl
theorem cA {k n:Int}{name:List Int}{nk nb ne:Nat}(h:inB k 0 7=false\/¬(nk:Int)=bS k\/inB n 0 (dA k)=false\/(dH k=true/\aK name false=false)\/(dH k=false/\¬name.length=0)\/(¬nb=0/\eV k=false)\/(¬ne=0/\¬k=2)):gH k n name nk nb ne=false:=by
 unfold gH
 rcases h with h|h|h|⟨h1,h2⟩|⟨h1,h2⟩|⟨h1,h2⟩|⟨h1,h2⟩
 .
  rw[h];rfl
 .
  have:inB (nk:Int) (bS k) (bS k)=false:=by simp[inB];omega
  rw[this];simp
 .
  rw[h];simp
 .
  rw[h1,if_pos rfl,h2];simp
 .
  rw[h1,zC2 h2];simp
 .
  rw[zC2 h1,h2];simp
 .
  rw[zC2 h1,zC2 h2];simp
theorem iD {k n:Int}{name:List Int}{nk nb ne:Nat}(h1:inB k 0 7=true)(h2:(nk:Int)=bS k)(h3:inB n 0 (dA k)=true)(h4:(if dH k then aK name false else decide (name.length=0))=true)(h5:(decide (nb=0) || eV k)=true)(h6:(decide (ne=0) || decide (k=2))=true):gH k n name nk nb ne=true:=by
 have:inB (nk:Int) (bS k) (bS k)=true:=by simp[inB];omega
 unfold gH;rw[h1,this,h3,h4,h5,h6];rfl
def kA (ks:List Ex)(bs es:List St)(d left:Int):Bool:=eR ks d false left && bP bs d (left-(aG ks:Int)) && bP es d (left-(aG ks:Int)-(aW bs:Int))
theorem zW {k n:Int}{name:List Int}{ks:List Ex}{bs es:List St}{d left:Int}(h:gH k n name ks.length bs.length es.length=false):bL (.mk k n name ks bs es) d left=false:=by
 refine kH ?_;rw[sC,nK,h];rfl
theorem zX {n:Int}{name:List Int}{x:Ex}{bs es:List St}{d left:Int}(h:¬x.kind=6):bL (.mk 7 n name [x] bs es) d left=false:=by
 refine kH ?_;rw[sC,nK]
 simp[iE,h]
theorem iF {k n:Int}{name:List Int}{ks:List Ex}{bs es:List St}{d left:Int}(h:gH k n name ks.length bs.length es.length=true)(hc:(!decide (k=7) || ks.any iE)=true)(hl:1<=left)(hd:d<=16):bL (.mk k n name ks bs es) d left=kA ks bs es (d+1) (left-1):=by
 unfold kA eR
 cases ha:ks.any kK
 .
  simp only[Bool.not_false,Bool.or_true,Bool.true_and]
  exact pW (by rw[sC,nK,h,ha,hc];rfl) hl hd
 .
  simp only[Bool.not_true,Bool.or_self,Bool.false_and];refine kH ?_;rw[sC,nK,ha];simp
theorem hH {l:List Ex}{d left:Int}{arg:Bool}(h:eR l d arg left=true):(aG l:Int)<=left:=by
 unfold eR at h;rw[zC0]at h;exact sZ h.2
end Go.Proofs.YtegkhlkjfeafjaaGreatDoor
