import Derived.Test.YtffphdacgblaoaaGreatDoorPackL
namespace Go.Proofs.YtffphdacgblaoaaGreatDoor
open Go.RowKit
set_option linter.unusedVariables false
set_option linter.unusedSimpArgs false
set_option maxRecDepth 100000
set_option maxHeartbeats 4000000
theorem aMk {k:Int}(h:inB k 0 7=true):k=0\/k=1\/k=2\/k=3\/k=4\/k=5\/k=6\/k=7:=by
 simp[inB]at h;omega
theorem aAm (k n:Int)(mod name:List Int)(ks:List Ex):exT k n mod name ks=(iW k n mod name ks.length && (decide (k=6) || !ks.any lP)):=by
 unfold exT iW
 cases h:inB k 0 7
 .
  rfl
 have e:(ks.any fun x=>decide (x.kind=7))=ks.any lP:=rfl
 rw[e]
 rcases aMk h with rfl|rfl|rfl|rfl|rfl|rfl|rfl|rfl
 .
  show(cG (exF 0) n name ks.length && (decide (mod.length=0) || dD (exF 0) lM && aK mod true) && _)=_
  unfold cG;rw[aDf,aF4];simp[fD,dF,dM,fJ,dP,exF]
 .
  show(cG (exF 1) n name ks.length && (decide (mod.length=0) || dD (exF 1) lM && aK mod true) && _)=_
  unfold cG;rw[aDe,aF3];simp[fD,dF,dM,fJ,dP,exF]
 .
  show(cG (exF 2) n name ks.length && (decide (mod.length=0) || dD (exF 2) lM && aK mod true) && _)=_
  unfold cG;rw[aDd,aF2];simp[fD,dF,dM,fJ,dP,exF]
 .
  show(cG (exF 3) n name ks.length && (decide (mod.length=0) || dD (exF 3) lM && aK mod true) && _)=_
  unfold cG;rw[aDc,aF1];simp[fD,dF,dM,fJ,dP,exF]
 .
  show(cG (exF 4) n name ks.length && (decide (mod.length=0) || dD (exF 4) lM && aK mod true) && _)=_
  unfold cG;rw[aDb,aF0];simp[fD,dF,dM,fJ,dP,exF]
 .
  show(cG (exF 5) n name ks.length && (decide (mod.length=0) || dD (exF 5) lM && aK mod true) && _)=_
  unfold cG;rw[aDa,aFz];simp[fD,dF,dM,fJ,dP,exF]
 .
  show(cG (exF 6) n name ks.length && (decide (mod.length=0) || dD (exF 6) lM && aK mod true) && _)=_
  unfold cG;rw[aC9,aFy];simp[fD,dF,dM,fJ,dP,exF]
 .
  show(cG (exF 7) n name ks.length && (decide (mod.length=0) || dD (exF 7) lM && aK mod true) && _)=_
  unfold cG;rw[aC8,aFx];simp[fD,dF,dM,fJ,dP,exF]
theorem uD (k n:Int)(name:List Int)(ks:List Ex)(nb ne:Nat):stT k n name ks nb ne=pK k n name ks nb ne:=by
 unfold stT pK
 cases h:inB k 0 7
 .
  rfl
 have e:(ks.any fun x=>decide (x.kind=7))=ks.any lP:=rfl
 have e':(ks.any fun x=>decide (x.kind=6))=ks.any jE:=rfl
 rw[e,e']
 rcases aMk h with rfl|rfl|rfl|rfl|rfl|rfl|rfl|rfl
 .
  show(cG (stF 0) n name ks.length && (decide (nb=0) || dD (stF 0) fM) && (decide (ne=0) || dD (stF 0) eV) && _ && (!dD (stF 0) dY || _))=_
  unfold cG;rw[aBk,aB8,aBs,aB0];simp[dE,cO,dO,fE,stF,Bool.and_assoc]
 .
  show(cG (stF 1) n name ks.length && (decide (nb=0) || dD (stF 1) fM) && (decide (ne=0) || dD (stF 1) eV) && _ && (!dD (stF 1) dY || _))=_
  unfold cG;rw[aBj,aB7,aBr,aBz];simp[dE,cO,dO,fE,stF,Bool.and_assoc]
 .
  show(cG (stF 2) n name ks.length && (decide (nb=0) || dD (stF 2) fM) && (decide (ne=0) || dD (stF 2) eV) && _ && (!dD (stF 2) dY || _))=_
  unfold cG;rw[aBi,aB6,aBq,aBy];simp[dE,cO,dO,fE,stF,Bool.and_assoc]
 .
  show(cG (stF 3) n name ks.length && (decide (nb=0) || dD (stF 3) fM) && (decide (ne=0) || dD (stF 3) eV) && _ && (!dD (stF 3) dY || _))=_
  unfold cG;rw[aBh,aB5,aBp,aBx];simp[dE,cO,dO,fE,stF,Bool.and_assoc]
 .
  show(cG (stF 4) n name ks.length && (decide (nb=0) || dD (stF 4) fM) && (decide (ne=0) || dD (stF 4) eV) && _ && (!dD (stF 4) dY || _))=_
  unfold cG;rw[aBg,aB4,aBo,aBw];simp[dE,cO,dO,fE,stF,Bool.and_assoc]
 .
  show(cG (stF 5) n name ks.length && (decide (nb=0) || dD (stF 5) fM) && (decide (ne=0) || dD (stF 5) eV) && _ && (!dD (stF 5) dY || _))=_
  unfold cG;rw[aBf,aB3,aBn,aBv];simp[dE,cO,dO,fE,stF,Bool.and_assoc]
 .
  show(cG (stF 6) n name ks.length && (decide (nb=0) || dD (stF 6) fM) && (decide (ne=0) || dD (stF 6) eV) && _ && (!dD (stF 6) dY || _))=_
  unfold cG;rw[aBe,aB2,aBm,aBu];simp[dE,cO,dO,fE,stF,Bool.and_assoc]
 .
  show(cG (stF 7) n name ks.length && (decide (nb=0) || dD (stF 7) fM) && (decide (ne=0) || dD (stF 7) eV) && _ && (!dD (stF 7) dY || _))=_
  unfold cG;rw[aBd,aB1,aBl,aBt];simp[dE,cO,dO,fE,stF,Bool.and_assoc]
theorem Q60{p:Prop}(h:p:=by rintro k ⟨rfl⟩;exact Blk.lt hc):p:=h
theorem U42{p:Prop}(h:p:=by
 go_upto_region 1 with fail
 generalize ((w.alloc (.cells #[.pointer (some ⟨g,0,none⟩)] 176 (0,0))).alloc (.cells #[.int .i64 d] 3 (0,0)))=W at *
 go_wp2_with fail
 refine HC.mono ?_
 rintro e w3 ⟨rfl,h1,h2⟩
 go_wp2
 go_ret
 exact⟨rfl,h1,h2⟩):p:=h
theorem U59{p:Prop}(h:p:=by
 rintro j w1 w2 ⟨h1,h2,h3,h4,h5⟩ Az
 have hbb:=aA Az
 exact⟨h1.trans (hbb.mono h1.size),h2,Blk.below h3 hbb (Blk.lt h3),aC h4 hbb,aC h5 hbb⟩):p:=h
theorem U82{p:Prop}(h:p:=by
 refine⟨bZ hi1 Bf hg,by omega,by rw[<-Nat.add_assoc];exact hcen h,cM hi4 Bf hne1,cM hi5 Bf hne2⟩):p:=h
theorem U97{p:Prop}(h:p:=by
 go_enter Tryz.func142,Tryz.ntmps142
 go_wp2
 go_ret
 exact⟨aE (by simp[h1]),hw,hc.out⟩):p:=h
theorem M968{p q:Prop}(k:q)(h:Kx q->p:=by
 intro kQ
 have y0:=aB w (.cells #[.pointer (some ⟨g,0,none⟩)] 176 (0,0)) none
 have x1:=aN w 176 #[.pointer (some ⟨g,0,none⟩)] 0 _ rfl
 have y1:=aB (w.alloc (.cells #[.pointer (some ⟨g,0,none⟩)] 176 (0,0))) (.cells #[.int .i64 d] 3 (0,0)) none
 have x2:=aN (w.alloc (.cells #[.pointer (some ⟨g,0,none⟩)] 176 (0,0))) 3 #[.int .i64 d] 0 _ rfl
 revert x2;revert y1;revert x1;revert y0
 exact kQ.o):p:=h ⟨k⟩
theorem mW {w:World}{g i:Nat}{v:Value}:w.grownBy (w.setCell ⟨g,i,none⟩ v) (some g):=
 ⟨rfl,rfl,rfl,by simp,fun k hk Aw=>heap_setCell_other w ⟨g,i,none⟩ k v (fun e=>Aw (by simp at e;rw[e]))⟩
theorem bZ {w0 w w':World}{g:Nat}(h:Below w0.heap.size w0 w)(hg:w.grownBy w' (some g))(hB:w0.heap.size<=g):Below w0.heap.size w0 w':=
 h.grown hg h.size (fun k hk=>by cases hk;exact hB)
theorem Blk.grown {w w':World}{g k:Nat}{T:TypeId}{vs:List Value}(h:Blk w g T vs)(hg:w.grownBy w' (some k))(Aw:g ≠ k):Blk w' g T vs:=
 (hg.block g h.lt (fun e=>Aw (by cases e;rfl))).trans h
theorem cM {w w':World}{g k i:Nat}{v:Value}(h:w.cell? ⟨g,i,none⟩=some v)(hg:w.grownBy w' (some k))(Aw:g ≠ k):w'.cell? ⟨g,i,none⟩=some v:=by
 rw[World.cell?_of_block (a:=⟨g,i,none⟩) (hg.block g (zI3 w _ h) (fun e=>Aw (by cases e;rfl)))];exact h
def Cen (w:World)(g n:Nat):Prop:=Blk w g 162 [.int .i64 n]
theorem aAf (g n:Nat)(d:Int)(w:World)(h:Cen w g n)(hn:n<=1000):
  Calls Tryz.prog 142 #[.pointer (some ⟨g,0,none⟩),.int .i64 d] w fun e w'=>e=.returned (.bool (decide (n+1<=250) && decide (d<=16)))/\w.grownBy w' (some g)/\Cen w' g (n+1):=by
 have q0:=h.k 0;have z0:=h.free 0;have hx:=h.set (i:=0) (.int .i64 ((n:Int)+1));have hw:=mW (w:=w) (g:=g) (i:=0) (v:=.int .i64 ((n:Int)+1))
 have hc:Hid (Cen (w.setCell ⟨g,0,none⟩ (.int .i64 ((n:Int)+1))) g (n+1)):=by
  show Blk _ _ _ _
  simpa using hx
 have q1:=hx.k 0;have Aj:=h.lt;clear h hx
 by_cases h1:n+1<=250
 .
  have h1':(n:Int)+1<=250:=Q0;exact U97
 .
  have h1':¬(n:Int)+1<=250:=Q0;exact U97
def aJr (x:Ex):Prop:=∀(w0 w:World) (vs:List Value) (g g1 g2 n:Nat) (d:Int),nF w0->cC w0 x.fl vs->Below w0.heap.size w0 w->w0.heap.size<=g->Cen w g n->n<=250->0<=d->d<=17 →
 w.cell? ⟨g1,0,none⟩=some (.pointer (some ⟨g,0,none⟩))->w.cell? ⟨g2,0,none⟩=some (.int .i64 d)->g1 ≠ g->g2 ≠ g →
 Calls Tryz.prog 164 #[agg vs,.pointer (some ⟨g1,0,none⟩),.pointer (some ⟨g2,0,none⟩)] w fun e w'=>e=.returned (.bool (iU x d (250-(n:Int))))/\w.grownBy w' (some g)/\(iU x d (250-(n:Int))=true->Cen w' g (n+iF x))
def aA7 (l:List Ex):Prop:=∀(w0 w:World) (a:Option Addr) (c g n:Nat) (d:Int),nF w0->bQ w0 a c 5 (exs l)->Below w0.heap.size w0 w->w0.heap.size<=g->Cen w g n->n<=250->0<=d->d<=17 →
 Calls Tryz.prog 155 #[.pointer (some ⟨g,0,none⟩),.slice a l.length c,.int .i64 d] w fun e w'=>e=.returned (.bool (eJ l d (250-(n:Int))))/\w.grownBy w' (some g)/\(eJ l d (250-(n:Int))=true->Cen w' g (n+aF l))
theorem aAk {x:Ex}{d left:Int}(h:iU x d left=true):(iF x:Int)<=left:=by
 unfold iU at h;simp only[zC0,zE3]at h;exact h.1.2
set_option maxHeartbeats 2000000 in
theorem aGg (l:List Ex)(H:∀x ∈ l,aJr x):aA7 l:=by
 intro w0 w a c g n d hT hr hb hg hc hn hd0 hd;refine M968 ?_;intro y0 x1 y1 x2
 rw[show(w.alloc (.cells #[.pointer (some ⟨g,0,none⟩)] 176 (0,0))).heap.size=w.heap.size+1 by simp]at x2
 replace x1:=aC x1 (aA y1);have yy:=aD y0 y1;have hgl:g<w.heap.size:=Blk.lt hc
 replace hc:Cen ((w.alloc (.cells #[.pointer (some ⟨g,0,none⟩)] 176 (0,0))).alloc (.cells #[.int .i64 d] 3 (0,0))) g n:=Blk.old (Blk.old hc)
 have hb2:Below w0.heap.size w0 ((w.alloc (.cells #[.pointer (some ⟨g,0,none⟩)] 176 (0,0))).alloc (.cells #[.int .i64 d] 3 (0,0))):=hb.trans ((aA yy).mono hb.size)
 clear y0 y1 hb
 have HC:Calls Tryz.prog 149 #[.slice a l.length c,.func (.func 164) #[] #[.pointer (some ⟨w.heap.size,0,none⟩),.pointer (some ⟨w.heap.size+1,0,none⟩)]] ((w.alloc (.cells #[.pointer (some ⟨g,0,none⟩)] 176 (0,0))).alloc (.cells #[.int .i64 d] 3 (0,0))) fun e w'=>e=.returned (.bool (eJ l d (250-(n:Int))))/\w.grownBy w' (some g)/\(eJ l d (250-(n:Int))=true->Cen w' g (n+aF l)):=by
  generalize ((w.alloc (.cells #[.pointer (some ⟨g,0,none⟩)] 176 (0,0))).alloc (.cells #[.int .i64 d] 3 (0,0)))=W at *
  have hne1:w.heap.size ≠ g:=Q0
  have hne2:w.heap.size+1 ≠ g:=Q0
  refine(aMy 164 _ (some g) a l.length c (exs l) (fun j=>iU (l[j]?.getD e0) d (250-(n:Int)-(aF (l.take j):Int))) (fun j wr=>Below w0.heap.size w0 wr/\(aF (l.take j):Int)<=250-(n:Int)/\Cen wr g (n+aF (l.take j))/\wr.cell? ⟨w.heap.size,0,none⟩=some (.pointer (some ⟨g,0,none⟩))/\wr.cell? ⟨w.heap.size+1,0,none⟩=some (.int .i64 d)) (fun _ _=>True) W
   ⟨cQ Tryz.func164 rfl rfl,fun j wr hi=>hr.below hi.1, ?_, ?_⟩ (by simp[aQ]) ⟨hb2,by simp[aF];omega,by simpa [aF] using hc,x1,x2⟩ ?_ Q60 (cQ Tryz.func161 rfl rfl)).mono ?_
  .
   intro r hr;rw[aQ]at hr;obtain⟨x,_,rfl⟩:=zE1.1 hr;exact cF x
  .
   intro j r wr vs hj hi Ai hca;have hj0:=hj;obtain⟨hi1,hi2,hi3,hi4,hi5⟩:=hi;rw[aQ,zA2]at hj;obtain⟨x,hx,rfl⟩:=zF0.1 hj;have hv0:=jM hr hi1 hj0 Ai.len hca;rw[hx]
   have hL:(250:Int)-(n:Int)-(aF (l.take j):Int)=250-((n+aF (l.take j):Nat):Int):=Q0
   simp only[zI1,hL];refine(H x (zA3 hx) w0 wr vs g w.heap.size (w.heap.size+1) (n+aF (l.take j)) d hT hv0 hi1 hg hi3 Q0 hd0 hd hi4 hi5 hne1 hne2).mono ?_;rintro e w' ⟨rfl,Bf,hcen⟩
   refine⟨rfl,Bf,fun h=>?_,fun _=>trivial⟩
   rw[dA hx];have hle:=aAk h;exact U82
  .
   exact U59
  .
   rintro e w' ⟨r,rfl,Bf,ht⟩
   have hg2:w.grownBy w' (some g):=aD (bU yy _) Bf
   cases r with
   | false=>
    obtain⟨j,hj,hp,_⟩:=ht.yes rfl
    have hx:l[j]?=some l[j]:=zA0 hj
    have hF:eJ l d (250-(n:Int))=false:=vQ hx (by simpa [hx] using hp)
    rw[hF]
    exact⟨rfl,hg2,by simp⟩
   | true=>
    obtain⟨h1,h2,h3,h4,_⟩:=ht.no rfl
    have hF:eJ l d (250-(n:Int))=true:=rP (fun j x hx=>by
     have:=h1 j (zC1.1 hx).1
     simpa [hx] using this) Q0
    rw[hF];rw[List.take_length]at h4
    exact⟨rfl,hg2,fun _=>h4⟩
 clear x1 x2 hc hb2 H;go_enter Tryz.func155,Tryz.ntmps155;exact U42
theorem U2{p:Prop}(h:p:=by
 go_wp2
 go_ret
 rw[he.out]
 exact⟨rfl,yy,by simp⟩):p:=h
theorem rQ {x:Ex}{d left:Int}(h:left<1\/16<d):iU x d left=false:=by
 unfold iU;simp only[zI0,zH0]
 have h1:1<=iF x:=by cases x;simp[iF]
 have h2:1<=aI4 x:=by cases x;simp[aI4]
 rcases h with h|h
 .
  left;right;omega
 .
  right;omega
theorem rS {k n:Int}{mod name:List Int}{ks:List Ex}{d left:Int}(h:exT k n mod name ks=false):iU (.mk k n mod name ks) d left=false:=by
 unfold iU
 rw[show qN (.mk k n mod name ks)=(exT k n mod name ks && eI ks) by rw[aAm,qN],h];rfl
theorem rR {k n:Int}{mod name:List Int}{ks:List Ex}{d left:Int}(h:exT k n mod name ks=true)(hl:1<=left)(hd:d<=16):iU (.mk k n mod name ks) d left=eJ ks (d+1) (left-1):=by
 unfold iU eJ
 rw[show qN (.mk k n mod name ks)=(exT k n mod name ks && eI ks) by rw[aAm,qN],h,Bool.true_and]
 have e1:decide ((iF (.mk k n mod name ks):Int)<=left)=decide ((aF ks:Int)<=left-1):=by
  rw[decide_eq_decide];simp only[iF];omega
 rw[e1]
 congr 1
 by_cases h0:ks.length=0
 .
  have:=zE0 h0
  subst this
  rw[zB3 (show d+(aI4 (.mk k n mod name []):Int)<=17 by simp only[aI4,nB];omega)];simp
 .
  rw[zC2 h0,Bool.false_or,decide_eq_decide];simp only[aI4];omega
set_option maxHeartbeats 4000000 in
theorem aPi (k n:Int)(mod name:List Int)(ks:List Ex)(hs:aL (Ex.mk k n mod name ks).fl<=1048576)(S:aA7 ks):aJr (.mk k n mod name ks):=by
 intro w0 w vs g g1 g2 cnt d hT hr hb hg hc hn hd0 hd x1 x2 hne1 hne2
 have HF:∀w1,Below w0.heap.size w0 w1->Calls Tryz.prog 165 #[agg vs] w1 fun e w'=>e=.returned (.bool (exT k n mod name ks))/\w1.grownBy w' none:=fun w1 h1=>aF5 (.mk k n mod name ks) vs w1 (hT.below h1) (hr.below h1) hs
 unfold Ex.fl at hr;obtain⟨y0,_,rfl,rfl,y1,_,rfl,rfl,y2,_,rfl,⟨a2,c2,rfl,_⟩,y3,_,rfl,⟨a3,c3,rfl,_⟩,y4,_,rfl,Be,rfl⟩:=hr;obtain⟨a4,c4,rfl,h4⟩:=Be.list;clear Be
 have An:(exs ks).length=ks.length:=by simp[aQ]
 rw[An]at HF ⊢
 have HK:∀w1,Below w0.heap.size w0 w1->Cen w1 g (cnt+1)->cnt+1<=250->d+1<=17->Calls Tryz.prog 155 #[.pointer (some ⟨g,0,none⟩),.slice a4 ks.length c4,.int .i64 (d+1)] w1 fun e w'=>e=.returned (.bool (eJ ks (d+1) (250-((cnt+1:Nat):Int))))/\w1.grownBy w' (some g)/\(eJ ks (d+1) (250-((cnt+1:Nat):Int))=true->Cen w' g (cnt+1+aF ks)):=fun w1 h1 h2 h3 h5=>S w0 w1 a4 c4 g (cnt+1) (d+1) hT h4 h1 hg h2 h3 Q0 h5
 clear h4 S hT hs;simp only[agg]at HF ⊢;have hgl:g<w.heap.size:=Blk.lt hc;have y0:=aB w (.cells #[.int .i64 k,.int .i64 n,.slice a2 mod.length c2,.slice a3 name.length c3,.slice a4 ks.length c4] 119 (0,0)) none;have x0:=Blk.new w 119 [.int .i64 k,.int .i64 n,.slice a2 mod.length c2,.slice a3 name.length c3,.slice a4 ks.length c4];have hcw:=Blk.old hc (o:=.cells #[.int .i64 k,.int .i64 n,.slice a2 mod.length c2,.slice a3 name.length c3,.slice a4 ks.length c4] 119 (0,0));replace x1:=aC x1 (aA y0);replace x2:=aC x2 (aA y0);replace hb:=hb.trans ((aA y0).mono hb.size);clear hc;go_enter Tryz.func164,Tryz.ntmps164;go_upto_region 1 with fail;generalize w.alloc (.cells #[.int .i64 k,.int .i64 n,.slice a2 mod.length c2,.slice a3 name.length c3,.slice a4 ks.length c4] 119 (0,0))=w1 at *;have yy:=bU y0 (some g);have H1:=aAf g cnt d w1 hcw Q0;obtain⟨q0,q1,q2,q3,q4⟩:=x0.c5;clear y0;go_wp2_with fail;refine H1.mono ?_;rintro e w2 ⟨rfl,hg2,hc2⟩
 have Al:w.heap.size ≠ g:=Q0
 replace x0:=x0.grown hg2 Al;replace x1:=cM x1 hg2 hne1;replace x2:=cM x2 hg2 hne2;replace hb:=bZ hb hg2 hg;replace yy:=aD yy hg2;clear H1 hcw q0 q1 q2 q3 q4 hg2;obtain⟨q0,q1,q2,q3,q4⟩:=x0.c5
 by_cases hro:cnt+1<=250/\d<=16
 .
  rw[zB3 hro.1,zB3 hro.2];have H2:=HF w2 hb;clear HF;go_wp2_with fail;refine H2.mono ?_;rintro e w3 ⟨rfl,hg3⟩;have hb3:=aA hg3;replace x0:=x0.below hb3 x0.lt;replace x1:=aC x1 hb3;replace x2:=aC x2 hb3;replace hb:=hb.trans (hb3.mono hb.size);replace yy:=aD yy (bU hg3 _)
  have hc3:Cen w3 g (cnt+1):=Blk.below hc2 hb3 (Blk.lt hc2)
  clear H2 hc2 q0 q1 q2 q3 q4 hg3 hb3;obtain⟨q0,q1,q2,q3,q4⟩:=x0.c5
  cases e1:exT k n mod name ks
  .
   have he:Hid (iU (.mk k n mod name ks) d (250-(cnt:Int))=false):=rS e1
   clear e1 HK;exact U2
  .
   have H3:=HK w3 hb hc3 hro.1 Q0
   have hE:Hid (iU (.mk k n mod name ks) d (250-(cnt:Int))=eJ ks (d+1) (250-((cnt+1:Nat):Int))):=by
    show _=_
    rw[rR e1 Q0 hro.2]
    congr 1;omega
   have hN:Hid (iF (.mk k n mod name ks)=1+aF ks):=by show _=_;simp[iF]
   clear e1 HK;generalize eJ ks (d+1) (250-((cnt+1:Nat):Int))=rr at *;go_wp2_with fail;refine H3.mono ?_;rintro e w4 ⟨rfl,Bd,hc4⟩;go_wp2;go_ret;rw[hE.out,hN.out]
   exact⟨rfl,aD yy Bd,fun h=>by have:=hc4 h;rw[show cnt+(1+aF ks)=cnt+1+aF ks by omega];exact this⟩
 .
  have hz:(decide (cnt+1<=250) && decide (d<=16))=false:=by
   simp only[zI0,zH0]
   omega
  rw[hz]
  have he:Hid (iU (.mk k n mod name ks) d (250-(cnt:Int))=false):=rQ Q0
  clear HF HK hz;exact U2
mutual
theorem aRw:∀x:Ex,aL x.fl<=1048576->aJr x
 | .mk k n m a ks,h=>aPi k n m a ks h (aGg ks (aGh ks (by
   have e:aL (Ex.mk k n m a ks).fl=m.length+a.length+((exs ks).length+aH (exs ks)):=by simp[Ex.fl,aL,Fl.len] <;> omega
   rw[e]at h;omega)))
theorem aGh:∀(l:List Ex),aH (exs l)<=1048576->∀e ∈ l,aJr e
 | [],_,e,h=>by simp at h
 | x :: l,hl,e,h=>by
  simp only[exs,aH]at hl
  rcases zG3.1 h with h|h
  .
   rw[h];exact aRw x Q0
  .
   exact aGh l Q0 e h
end
def s0:St:=.mk 0 0 [] [] [] []
def aJq (x:St):Prop:=∀(w0 w:World) (vs:List Value) (g g1 g2 n:Nat) (d:Int),nF w0->cC w0 x.fl vs->Below w0.heap.size w0 w->w0.heap.size<=g->Cen w g n->n<=250->0<=d->d<=17 →
 w.cell? ⟨g1,0,none⟩=some (.pointer (some ⟨g,0,none⟩))->w.cell? ⟨g2,0,none⟩=some (.int .i64 d)->g1 ≠ g->g2 ≠ g →
 Calls Tryz.prog 141 #[agg vs,.pointer (some ⟨g1,0,none⟩),.pointer (some ⟨g2,0,none⟩)] w fun e w'=>e=.returned (.bool (bI x d (250-(n:Int))))/\w.grownBy w' (some g)/\(bI x d (250-(n:Int))=true->Cen w' g (n+mT x))
def wI (l:List St):Prop:=∀(w0 w:World) (a:Option Addr) (c g n:Nat) (d:Int),nF w0->bQ w0 a c 6 (sts l)->Below w0.heap.size w0 w->w0.heap.size<=g->Cen w g n->n<=250->0<=d->d<=17 →
 Calls Tryz.prog 128 #[.pointer (some ⟨g,0,none⟩),.slice a l.length c,.int .i64 d] w fun e w'=>e=.returned (.bool (cI l d (250-(n:Int))))/\w.grownBy w' (some g)/\(cI l d (250-(n:Int))=true->Cen w' g (n+aU l))
theorem aAj {x:St}{d left:Int}(h:bI x d left=true):(mT x:Int)<=left:=by
 unfold bI at h;simp only[zC0,zE3]at h;exact h.1.2
theorem yD (l:List St)(H:∀x ∈ l,aJq x):wI l:=by
 intro w0 w a c g n d hT hr hb hg hc hn hd0 hd;refine M968 ?_;intro y0 x1 y1 x2
 rw[show(w.alloc (.cells #[.pointer (some ⟨g,0,none⟩)] 176 (0,0))).heap.size=w.heap.size+1 by simp]at x2
 replace x1:=aC x1 (aA y1);have yy:=aD y0 y1;have hgl:=Blk.lt hc
 replace hc:Cen ((w.alloc (.cells #[.pointer (some ⟨g,0,none⟩)] 176 (0,0))).alloc (.cells #[.int .i64 d] 3 (0,0))) g n:=Blk.old (Blk.old hc)
 have hb2:=hb.trans ((aA yy).mono hb.size);clear y0 y1 hb
 have HC:Calls Tryz.prog 135 #[.slice a l.length c,.func (.func 141) #[] #[.pointer (some ⟨w.heap.size,0,none⟩),.pointer (some ⟨w.heap.size+1,0,none⟩)]] ((w.alloc (.cells #[.pointer (some ⟨g,0,none⟩)] 176 (0,0))).alloc (.cells #[.int .i64 d] 3 (0,0))) fun e w'=>e=.returned (.bool (cI l d (250-(n:Int))))/\w.grownBy w' (some g)/\(cI l d (250-(n:Int))=true->Cen w' g (n+aU l)):=by
  generalize ((w.alloc (.cells #[.pointer (some ⟨g,0,none⟩)] 176 (0,0))).alloc (.cells #[.int .i64 d] 3 (0,0)))=W at *
  have hne1:w.heap.size ≠ g:=Q0
  have hne2:w.heap.size+1 ≠ g:=Q0
  refine(aMw 141 _ (some g) a l.length c (sts l) (fun j=>bI (l[j]?.getD s0) d (250-(n:Int)-(aU (l.take j):Int))) (fun j wr=>Below w0.heap.size w0 wr/\(aU (l.take j):Int)<=250-(n:Int)/\Cen wr g (n+aU (l.take j))/\wr.cell? ⟨w.heap.size,0,none⟩=some (.pointer (some ⟨g,0,none⟩))/\wr.cell? ⟨w.heap.size+1,0,none⟩=some (.int .i64 d)) (fun _ _=>True) W
   ⟨cQ Tryz.func141 rfl rfl,fun j wr hi=>hr.below hi.1, ?_, ?_⟩ (by simp[bL]) ⟨hb2,by simp[aU];omega,by simpa [aU] using hc,x1,x2⟩ ?_ Q60 (cQ Tryz.func148 rfl rfl)).mono ?_
  .
   intro r hr;rw[bL]at hr;obtain⟨x,_,rfl⟩:=zE1.1 hr;exact aDw x
  .
   intro j r wr vs hj hi Ai hca;have hj0:=hj;obtain⟨hi1,hi2,hi3,hi4,hi5⟩:=hi;rw[bL,zA2]at hj;obtain⟨x,hx,rfl⟩:=zF0.1 hj;have hv0:=jM hr hi1 hj0 Ai.len hca;rw[hx]
   have hL:(250:Int)-(n:Int)-(aU (l.take j):Int)=250-((n+aU (l.take j):Nat):Int):=Q0
   simp only[zI1,hL];refine(H x (zA3 hx) w0 wr vs g w.heap.size (w.heap.size+1) (n+aU (l.take j)) d hT hv0 hi1 hg hi3 Q0 hd0 hd hi4 hi5 hne1 hne2).mono ?_;rintro e w' ⟨rfl,Bf,hcen⟩
   refine⟨rfl,Bf,fun h=>?_,fun _=>trivial⟩
   rw[lG hx];have hle:=aAj h;exact U82
  .
   exact U59
  .
   rintro e w' ⟨r,rfl,Bf,ht⟩
   have hg2:w.grownBy w' (some g):=aD (bU yy _) Bf
   cases r with
   | false=>
    obtain⟨j,hj,hp,_⟩:=ht.yes rfl
    have hx:l[j]?=some l[j]:=zA0 hj
    have hF:cI l d (250-(n:Int))=false:=vP hx (by simpa [hx] using hp)
    rw[hF]
    exact⟨rfl,hg2,by simp⟩
   | true=>
    obtain⟨h1,h2,h3,h4,_⟩:=ht.no rfl
    have hF:cI l d (250-(n:Int))=true:=rN (fun j x hx=>by
     have:=h1 j (zC1.1 hx).1
     simpa [hx] using this) Q0
    rw[hF];rw[List.take_length]at h4
    exact⟨rfl,hg2,fun _=>h4⟩
 clear x1 x2 hc hb2 H;go_enter Tryz.func128,Tryz.ntmps128;exact U42
theorem nR {x:St}{d left:Int}(h:left<1\/16<d):bI x d left=false:=by
 unfold bI;simp only[zI0,zH0]
 have h1:1<=mT x:=by cases x;simp[mT]
 have h2:1<=aKk x:=by cases x;simp[aKk]
 rcases h with h|h
 .
  left;right;omega
 .
  right;omega
theorem aEx (k n:Int)(name:List Int)(ks:List Ex)(bs es:List St):xD (.mk k n name ks bs es)=(stT k n name ks bs.length es.length && eI ks && gJ bs && gJ es):=by rw[uD,xD]
theorem lK {k n:Int}{name:List Int}{ks:List Ex}{bs es:List St}{d left:Int}(h:stT k n name ks bs.length es.length=false):bI (.mk k n name ks bs es) d left=false:=by
 unfold bI;rw[aEx,h];rfl
def qX (ks:List Ex)(bs es:List St)(d left:Int):Bool:=eJ ks d left && cI bs d (left-(aF ks:Int)) && cI es d (left-(aF ks:Int)-(aU bs:Int))
theorem rV {l:List St}(h:l.length=0):nA l=0:=by rw[zE0 h];rfl
theorem aDi {l:List Ex}(h:l.length=0):nB l=0:=by rw[zE0 h];rfl
theorem rO {k n:Int}{name:List Int}{ks:List Ex}{bs es:List St}{d left:Int}(h:stT k n name ks bs.length es.length=true)(hl:1<=left)(hd:d<=16):bI (.mk k n name ks bs es) d left=qX ks bs es (d+1) (left-1):=by
 unfold bI qX eJ cI;rw[aEx,h,Bool.true_and,Bool.eq_iff_iff]
 have e1:mT (.mk k n name ks bs es)=1+(aF ks+aU bs+aU es):=by simp only[mT]
 have e2:aKk (.mk k n name ks bs es)=1+max (nB ks) (max (nA bs) (nA es)):=by simp only[aKk]
 rw[e1,e2];clear e1 e2;simp only[zC0,zE3,Bool.or_eq_true];have a1:=@aDi ks;have a2:=@rV bs;have a3:=@rV es
 constructor
 .
  rintro⟨⟨⟨⟨h1,h2⟩,h3⟩,h4⟩,h5⟩
  exact⟨⟨⟨⟨h1,by omega⟩,.inr Q0⟩,⟨h2,by omega⟩,.inr Q0⟩,⟨h3,by omega⟩,.inr Q0⟩
 .
  rintro⟨⟨⟨⟨h1,b1⟩,c1⟩,⟨h2,b2⟩,c2⟩,⟨h3,b3⟩,c3⟩
  refine⟨⟨⟨⟨h1,h2⟩,h3⟩,by omega⟩, ?_⟩
  rcases c1 with c1|c1 <;> rcases c2 with c2|c2 <;> rcases c3 with c3|c3 <;> omega
theorem eR {l:List St}{d left:Int}(h:cI l d left=true):(aU l:Int)<=left:=by
 unfold cI at h;simp only[zC0,zE3]at h;exact h.1.2
theorem vR {l:List Ex}{d left:Int}(h:eJ l d left=true):(aF l:Int)<=left:=by
 unfold eJ at h;simp only[zC0,zE3]at h;exact h.1.2
theorem aOx (k n:Int)(a2:Option Addr)(n2 c2:Nat)(a3:Option Addr)(c3:Nat)(a4:Option Addr)(c4:Nat)(a5:Option Addr)(c5:Nat)(ks:List Ex)(bs es:List St)(S3:aA7 ks)(S4:wI bs)(S5:wI es)(w0 w:World)(g cnt:Nat)(d:Int)
  (hT:nF w0) (h3:bQ w0 a3 c3 5 (exs ks)) (h4:bQ w0 a4 c4 6 (sts bs)) (h5:bQ w0 a5 c5 6 (sts es)) (hb:Below w0.heap.size w0 w) (hg:w0.heap.size<=g) (hc:Cen w g cnt) (hn:cnt<=250) (hd0:0<=d) (hd:d<=17):
  Calls Tryz.prog 144 #[.pointer (some ⟨g,0,none⟩),.agg #[.int .i64 k,.int .i64 n,.slice a2 n2 c2,.slice a3 ks.length c3,.slice a4 bs.length c4,.slice a5 es.length c5],.int .i64 d] w fun e w'=>e=.returned (.bool (qX ks bs es d (250-(cnt:Int))))/\w.grownBy w' (some g)/\(qX ks bs es d (250-(cnt:Int))=true->Cen w' g (cnt+(aF ks+aU bs+aU es))):=by
 have hgl:=Blk.lt hc
 have Al:w.heap.size ≠ g:=Q0
 have y0:=aB w (.cells #[.int .i64 k,.int .i64 n,.slice a2 n2 c2,.slice a3 ks.length c3,.slice a4 bs.length c4,.slice a5 es.length c5] 116 (0,0)) none;have x0:=Blk.new w 116 [.int .i64 k,.int .i64 n,.slice a2 n2 c2,.slice a3 ks.length c3,.slice a4 bs.length c4,.slice a5 es.length c5];have hcw:=Blk.old hc (o:=.cells #[.int .i64 k,.int .i64 n,.slice a2 n2 c2,.slice a3 ks.length c3,.slice a4 bs.length c4,.slice a5 es.length c5] 116 (0,0));replace hb:=hb.trans ((aA y0).mono hb.size);have yy:=bU y0 (some g);clear hc y0
 have hfe:Hid (qX ks bs es d (250-(cnt:Int))=(eJ ks d (250-(cnt:Int)) && cI bs d (250-(cnt:Int)-(aF ks:Int)) && cI es d (250-(cnt:Int)-(aF ks:Int)-(aU bs:Int)))):=rfl
 generalize qX ks bs es d (250-(cnt:Int))=TG at *;go_enter Tryz.func144,Tryz.ntmps144;go_upto_region 1 with fail;generalize w.alloc (.cells #[.int .i64 k,.int .i64 n,.slice a2 n2 c2,.slice a3 ks.length c3,.slice a4 bs.length c4,.slice a5 es.length c5] 116 (0,0))=w1 at *;have q3:=x0.k 3;have q4:=x0.k 4;have q5:=x0.k 5;have H1:=S3 w0 w1 a3 c3 g cnt d hT h3 hb hg hcw hn hd0 hd;clear S3 h3;generalize e3:eJ ks d (250-(cnt:Int))=r3 at *;go_wp2_with fail;refine H1.mono ?_;rintro e w2 ⟨rfl,hg2,hc2⟩;replace x0:=x0.grown hg2 Al;replace hb:=bZ hb hg2 hg;replace yy:=aD yy hg2;clear H1 hcw q3 q4 q5 hg2;cases r3
 .
  have he:Hid (TG=false):=by show _=_;rw[hfe.out];rfl
  go_wp2;go_ret
  exact⟨aE he.out.symm,yy,fun h=>by rw[he.out]at h;cases h⟩
 have hl3:=vR e3;have hc2':=hc2 rfl;clear hc2 e3;have q4:=x0.k 4;have q5:=x0.k 5;have H2:=S4 w0 w2 a4 c4 g (cnt+aF ks) d hT h4 hb hg hc2' Q0 hd0 hd
 have eL:(250:Int)-((cnt+aF ks:Nat):Int)=250-(cnt:Int)-(aF ks:Int):=Q0
 rw[eL]at H2;clear S4 h4 eL;generalize e4:cI bs d (250-(cnt:Int)-(aF ks:Int))=r4 at *;go_wp2_with fail;refine H2.mono ?_;rintro e w3 ⟨rfl,hg3,hc3⟩;replace x0:=x0.grown hg3 Al;replace hb:=bZ hb hg3 hg;replace yy:=aD yy hg3;clear H2 hc2' q4 q5 hg3;cases r4
 .
  have he:Hid (TG=false):=by show _=_;rw[hfe.out];simp
  go_wp2;go_ret
  exact⟨aE he.out.symm,yy,fun h=>by rw[he.out]at h;cases h⟩
 have hl4:=eR e4;have hc3':=hc3 rfl;clear hc3 e4;have q5:=x0.k 5;have H3:=S5 w0 w3 a5 c5 g (cnt+aF ks+aU bs) d hT h5 hb hg hc3' Q0 hd0 hd
 have eL:(250:Int)-((cnt+aF ks+aU bs:Nat):Int)=250-(cnt:Int)-(aF ks:Int)-(aU bs:Int):=Q0
 rw[eL]at H3;clear S5 h5 eL;generalize e5:cI es d (250-(cnt:Int)-(aF ks:Int)-(aU bs:Int))=r5 at *;go_wp2_with fail;refine H3.mono ?_;rintro e w4 ⟨rfl,Bd,hc4⟩
 have he:Hid (TG=r5):=by show _=_;rw[hfe.out];simp
 go_wp2;go_ret
 exact⟨aE he.out.symm,aD yy Bd,fun h=>by
  have:=hc4 (he.out ▸ h)
  rw[show cnt+(aF ks+aU bs+aU es)=cnt+aF ks+aU bs+aU es by omega];exact this⟩
set_option maxHeartbeats 4000000 in
theorem aPh (k n:Int)(name:List Int)(ks:List Ex)(bs es:List St)(hs:aL (St.mk k n name ks bs es).fl<=1048576)(S3:aA7 ks)(S4:wI bs)(S5:wI es):aJq (.mk k n name ks bs es):=by
 intro w0 w vs g g1 g2 cnt d hT hr hb hg hc hn hd0 hd x1 x2 hne1 hne2
 have HF:∀w1,Below w0.heap.size w0 w1->Calls Tryz.prog 143 #[agg vs] w1 fun e w'=>e=.returned (.bool (stT k n name ks bs.length es.length))/\w1.grownBy w' none:=fun w1 h1=>aDz k n name ks bs es vs w1 (hT.below h1) (hr.below h1) hs
 unfold St.fl at hr;obtain⟨y0,_,rfl,rfl,y1,_,rfl,rfl,y2,_,rfl,⟨a2,c2,rfl,_⟩,y3,_,rfl,h3',y4,_,rfl,Be,y5,_,rfl,h5',rfl⟩:=hr;obtain⟨a3,c3,rfl,h3⟩:=h3'.list;obtain⟨a4,c4,rfl,h4⟩:=Be.list;obtain⟨a5,c5,rfl,h5⟩:=h5'.list;clear h3' Be h5'
 have An:(exs ks).length=ks.length:=by simp[aQ]
 refine M925 ?_;intro hbl hel;rw[An,hbl,hel]at HF ⊢
 have HK:∀w1,Below w0.heap.size w0 w1->Cen w1 g (cnt+1)->cnt+1<=250->d+1<=17->Calls Tryz.prog 144 #[.pointer (some ⟨g,0,none⟩),.agg #[.int .i64 k,.int .i64 n,.slice a2 name.length c2,.slice a3 ks.length c3,.slice a4 bs.length c4,.slice a5 es.length c5],.int .i64 (d+1)] w1 fun e w'=>e=.returned (.bool (qX ks bs es (d+1) (250-((cnt+1:Nat):Int))))/\w1.grownBy w' (some g)/\(qX ks bs es (d+1) (250-((cnt+1:Nat):Int))=true->Cen w' g (cnt+1+(aF ks+aU bs+aU es))):=fun w1 h1 h2 h7 h8=>aOx k n a2 name.length c2 a3 c3 a4 c4 a5 c5 ks bs es S3 S4 S5 w0 w1 g (cnt+1) (d+1) hT h3 h4 h5 h1 hg h2 h7 Q0 h8
 clear h3 h4 h5 S3 S4 S5 hT hs;simp only[agg]at HF ⊢;have hgl:g<w.heap.size:=Blk.lt hc;have y0:=aB w (.cells #[.int .i64 k,.int .i64 n,.slice a2 name.length c2,.slice a3 ks.length c3,.slice a4 bs.length c4,.slice a5 es.length c5] 116 (0,0)) none;have x0:=Blk.new w 116 [.int .i64 k,.int .i64 n,.slice a2 name.length c2,.slice a3 ks.length c3,.slice a4 bs.length c4,.slice a5 es.length c5];have hcw:=Blk.old hc (o:=.cells #[.int .i64 k,.int .i64 n,.slice a2 name.length c2,.slice a3 ks.length c3,.slice a4 bs.length c4,.slice a5 es.length c5] 116 (0,0));replace x1:=aC x1 (aA y0);replace x2:=aC x2 (aA y0);replace hb:=hb.trans ((aA y0).mono hb.size);clear hc;go_enter Tryz.func141,Tryz.ntmps141;go_upto_region 1 with fail;generalize w.alloc (.cells #[.int .i64 k,.int .i64 n,.slice a2 name.length c2,.slice a3 ks.length c3,.slice a4 bs.length c4,.slice a5 es.length c5] 116 (0,0))=w1 at *;have yy:=bU y0 (some g);have H1:=aAf g cnt d w1 hcw Q0;obtain⟨q0,q1,q2,q3,q4,q5⟩:=x0.c6;clear y0;go_wp2_with fail;refine H1.mono ?_;rintro e w2 ⟨rfl,hg2,hc2⟩
 have Al:w.heap.size ≠ g:=Q0
 replace x0:=x0.grown hg2 Al;replace x1:=cM x1 hg2 hne1;replace x2:=cM x2 hg2 hne2;replace hb:=bZ hb hg2 hg;replace yy:=aD yy hg2;clear H1 hcw q0 q1 q2 q3 q4 q5 hg2;obtain⟨q0,q1,q2,q3,q4,q5⟩:=x0.c6
 by_cases hro:cnt+1<=250/\d<=16
 .
  rw[zB3 hro.1,zB3 hro.2];have H2:=HF w2 hb;clear HF;go_wp2_with fail;refine H2.mono ?_;rintro e w3 ⟨rfl,hg3⟩;have hb3:=aA hg3;replace x0:=x0.below hb3 x0.lt;replace x1:=aC x1 hb3;replace x2:=aC x2 hb3;replace hb:=hb.trans (hb3.mono hb.size);replace yy:=aD yy (bU hg3 _)
  have hc3:Cen w3 g (cnt+1):=Blk.below hc2 hb3 (Blk.lt hc2)
  clear H2 hc2 q0 q1 q2 q3 q4 q5 hg3 hb3;obtain⟨q0,q1,q2,q3,q4,q5⟩:=x0.c6
  cases e1:stT k n name ks bs.length es.length
  .
   have he:Hid (bI (.mk k n name ks bs es) d (250-(cnt:Int))=false):=lK e1
   clear e1 HK;exact U2
  .
   have H3:=HK w3 hb hc3 hro.1 Q0
   have hE:Hid (bI (.mk k n name ks bs es) d (250-(cnt:Int))=qX ks bs es (d+1) (250-((cnt+1:Nat):Int))):=by
    show _=_
    rw[rO e1 Q0 hro.2]
    congr 1;omega
   have hN:Hid (mT (.mk k n name ks bs es)=1+(aF ks+aU bs+aU es)):=by show _=_;simp[mT]
   clear e1 HK;generalize qX ks bs es (d+1) (250-((cnt+1:Nat):Int))=rr at *;go_wp2_with fail;refine H3.mono ?_;rintro e w4 ⟨rfl,Bd,hc4⟩;go_wp2;go_ret;rw[hE.out,hN.out]
   exact⟨rfl,aD yy Bd,fun h=>by have:=hc4 h;rw[show cnt+(1+(aF ks+aU bs+aU es))=cnt+1+(aF ks+aU bs+aU es) by omega];exact this⟩
 .
  have hz:(decide (cnt+1<=250) && decide (d<=16))=false:=by
   simp only[zI0,zH0]
   omega
  rw[hz]
  have he:Hid (bI (.mk k n name ks bs es) d (250-(cnt:Int))=false):=nR Q0
  clear HF HK hz;exact U2
mutual
theorem aRv:∀x:St,aL x.fl<=1048576->aJq x
 | .mk k n a ks bs es,h=>by
  have e:aL (St.mk k n a ks bs es).fl=a.length+((exs ks).length+aH (exs ks))+((sts bs).length+aH (sts bs))+((sts es).length+aH (sts es)):=by simp[St.fl,aL,Fl.len] <;> omega
  exact aPh k n a ks bs es h (aGg ks (aGh ks (by rw[e]at h;omega))) (yD bs (aAv bs (by rw[e]at h;omega))) (yD es (aAv es (by rw[e]at h;omega)))
theorem aAv:∀(l:List St),aH (sts l)<=1048576->∀e ∈ l,aJq e
 | [],_,e,h=>by simp at h
 | x :: l,hl,e,h=>by
  simp only[sts,aH]at hl
  rcases zG3.1 h with h|h
  .
   rw[h];exact aRv x Q0
  .
   exact aAv l Q0 e h
end
theorem U23{p:Prop}(h:p:=by
 intro r hr
 obtain⟨x,_,rfl⟩:=zE1.1 hr
 rfl):p:=h
def mD (v:Va):Bool:=aK v.name false && inB v.size 0 20
def aDl (a:Pa):Bool:=aK a.name false
def jU (x:List Int):Bool:=aK x false
def jJ (x:List Int):Bool:=aK x true
def kH (q:Pr):Bool:=aK q.name false && decide (q.params.length<=4) && q.params.all aDl && decide (q.locals.length<=8) && q.locals.all jU
def p0:Pr:=⟨[],false,[],[],[]⟩
def gE:List Pr->Nat
 | []=>0
 | q :: l=>aU q.body+gE l
def kW (l:List Pr)(left:Int):Bool:=(List.range l.length).all fun j=>cI (l[j]?.getD p0).body 1 (left-(gE (l.take j):Int))
def cH (m:Mo):Bool:=aK m.name true && decide (m.uses.length<=6) && m.uses.all jJ && decide (m.vars.length<=8) && m.vars.all mD && decide (m.procs.length<=8) && m.procs.all kH && kW m.procs 250
theorem aE2 (l m:List Pr):gE (l++m)=gE l+gE m:=by
 induction l with
 | nil=>simp[gE]
 | cons x l ih=>simp[gE,ih];omega
theorem rJ {l:List Pr}{j:Nat}{x:Pr}(h:l[j]?=some x):gE (l.take (j+1))=gE (l.take j)+aU x.body:=by
 obtain⟨hk,rfl⟩:=zC1.1 h;rw[zF1 hk,aE2];simp[gE]
theorem aO3 (x:List Int)(a:Option Addr)(c:Nat)(w:World)(h:eG w a x.length x)(hn:x.length<=1073741824)(hc:x.length<=c):
  Calls Tryz.prog 100 #[.slice a x.length c] w fun e w'=>e=.returned (.bool (jJ x))/\w'=w:=by
 have H:=eH a x.length c x true w h hn hc;go_enter Tryz.func100,Tryz.ntmps100;go_wp2_with fail;refine H.mono ?_;rintro e w2 ⟨rfl,rfl⟩;exact U45
theorem aNq (x:List Int)(a:Option Addr)(c:Nat)(w:World)(h:eG w a x.length x)(hn:x.length<=1073741824)(hc:x.length<=c):
  Calls Tryz.prog 126 #[.slice a x.length c] w fun e w'=>e=.returned (.bool (jU x))/\w'=w:=by
 have H:=eH a x.length c x false w h hn hc;go_enter Tryz.func126,Tryz.ntmps126;go_wp2_with fail;refine H.mono ?_;rintro e w2 ⟨rfl,rfl⟩;exact U45
theorem aGo (G:Nat)(p:List Int->Bool)(hE:Ent G)(HG:∀(x:List Int) (a:Option Addr) (c:Nat) (w:World),eG w a x.length x->x.length<=1073741824->x.length<=c->Calls Tryz.prog G #[.slice a x.length c] w fun e w'=>e=.returned (.bool (p x))/\w'=w)
  (a:Option Addr) (c:Nat) (l:List (List Int)) (w:World) (h:bQ w a c 1 (dC l)) (hs:∀x ∈ l,x.length<=1073741824):
  Calls Tryz.prog 84 #[.slice a l.length c,.func (.func G) #[] #[]] w fun e w'=>e=.returned (.bool (l.all p))/\w.grownBy w' none:=by
 refine(aKp G #[] none a l.length c (dC l) (fun j=>p (l[j]?.getD [])) (fun _ wr=>w.grownBy wr none) (fun _ _=>True) w ⟨hE,fun j wr hi=>h.below (aA hi), ?_, ?_⟩ (by simp[dC]) (aR _ _) (fun j w1 w2 h1 h2=>aD h1 h2) Q9 (cQ Tryz.func112 rfl rfl)).mono ?_
 .
  exact U23
 .
  intro j r wr vs hr hi Ai _;unfold dC at hr;rw[zA2]at hr;obtain⟨x,hx,rfl⟩:=zF0.1 hr;rw[hx];have hxs:=hs x (zA3 hx);obtain⟨y0,us,rfl,⟨a0,c0,rfl,hb0,hc0,_⟩,rfl⟩:=Ai;refine(HG x a0 c0 wr hb0 hxs hc0).mono ?_;rintro e w' ⟨rfl,rfl⟩
  exact⟨rfl,aR _ _,fun _=>hi,fun _=>trivial⟩
 .
  rintro e w' ⟨r,rfl,hg,ht⟩;refine⟨aE ?_,hg⟩;rw[gU ht];exact hZ l [] p
theorem aSi (v:Va)(vs:List Value)(w:World)(h:cC w v.fl vs)(hn:v.name.length<=1073741824):
  Calls Tryz.prog 101 #[agg vs] w fun e w'=>e=.returned (.bool (mD v))/\w.grownBy w' none:=by
 obtain⟨y0,us,rfl,⟨a0,c0,rfl,hb0,hc0,_⟩,y1,us2,rfl,rfl,rfl⟩:=h;have yy:=aB w (.cells #[.slice a0 v.name.length c0,.int .i64 v.size] 82 (0,0)) none;have x0:=Blk.new w 82 [.slice a0 v.name.length c0,.int .i64 v.size];have H:=eH a0 v.name.length c0 v.name false _ (hb0.below (aA yy)) hn hc0;have H2:=iM v.size 0 20 (w.alloc (.cells #[.slice a0 v.name.length c0,.int .i64 v.size] 82 (0,0)))
 have he:Hid (mD v=(aK v.name false && (decide (0<=v.size) && decide (v.size<=20)))):=rfl
 simp only[agg];go_enter Tryz.func101,Tryz.ntmps101;go_upto_region 1 with fail;generalize w.alloc (.cells #[.slice a0 v.name.length c0,.int .i64 v.size] 82 (0,0))=w1 at *;obtain⟨q0,q1⟩:=x0.c2;go_wp2_with fail;refine H.mono ?_;rintro e w1 ⟨rfl,rfl⟩
 cases e1:aK v.name false
 .
  go_wp2;go_ret
  exact⟨aE (by rw[he.out,e1];rfl),yy⟩
 .
  generalize (decide (0<=v.size) && decide (v.size<=20))=r2 at *;go_wp2_with fail;refine H2.mono ?_;rintro e w1 ⟨rfl,rfl⟩;go_wp2;go_ret
  exact⟨aE (by rw[he.out,e1];simp),yy⟩
theorem aOg (v:Pa)(vs:List Value)(w:World)(h:cC w v.fl vs)(hn:v.name.length<=1073741824):
  Calls Tryz.prog 125 #[agg vs] w fun e w'=>e=.returned (.bool (aDl v))/\w.grownBy w' none:=by
 obtain⟨y0,us,rfl,⟨a0,c0,rfl,hb0,hc0,_⟩,y1,us2,rfl,rfl,rfl⟩:=h;have yy:=aB w (.cells #[.slice a0 v.name.length c0,.bool v.arr] 98 (0,0)) none;have x0:=Blk.new w 98 [.slice a0 v.name.length c0,.bool v.arr];have H:=eH a0 v.name.length c0 v.name false _ (hb0.below (aA yy)) hn hc0;simp only[agg];go_enter Tryz.func125,Tryz.ntmps125;go_upto_region 1 with fail;generalize w.alloc (.cells #[.slice a0 v.name.length c0,.bool v.arr] 98 (0,0))=w1 at *;have q0:=x0.k 0;go_wp2_with fail;refine H.mono ?_;rintro e w1 ⟨rfl,rfl⟩;go_wp2;go_ret;exact⟨rfl,yy⟩
theorem aMv (a:Option Addr)(c:Nat)(l:List Va)(w:World)(h:bQ w a c 2 (l.map Va.fl))(hs:∀x ∈ l,x.name.length<=1073741824):
  Calls Tryz.prog 38 #[.slice a l.length c,.func (.func 101) #[] #[]] w fun e w'=>e=.returned (.bool (l.all mD))/\w.grownBy w' none:=by
 refine(aKo 101 #[] none a l.length c (l.map Va.fl) (fun j=>mD (l[j]?.getD ⟨[],0⟩)) (fun _ wr=>w.grownBy wr none) (fun _ _=>True) w ⟨cQ Tryz.func101 rfl rfl,fun j wr hi=>h.below (aA hi), ?_, ?_⟩ Q9 (aR _ _) (fun j w1 w2 h1 h2=>aD h1 h2) Q9 (cQ Tryz.func78 rfl rfl)).mono ?_
 .
  exact U23
 .
  intro j r wr vs hr hi Ai _;rw[zA2]at hr;obtain⟨x,hx,rfl⟩:=zF0.1 hr;rw[hx];refine(aSi x vs wr Ai (hs x (zA3 hx))).mono ?_;exact U27
 .
  rintro e w' ⟨r,rfl,hg,ht⟩;refine⟨aE ?_,hg⟩;rw[gU ht];exact hZ l ⟨[],0⟩ mD
theorem aGp (a:Option Addr)(c:Nat)(l:List Pa)(w:World)(h:bQ w a c 2 (l.map Pa.fl))(hs:∀x ∈ l,x.name.length<=1073741824):
  Calls Tryz.prog 81 #[.slice a l.length c,.func (.func 125) #[] #[]] w fun e w'=>e=.returned (.bool (l.all aDl))/\w.grownBy w' none:=by
 refine(aA4 125 #[] none a l.length c (l.map Pa.fl) (fun j=>aDl (l[j]?.getD ⟨[],false⟩)) (fun _ wr=>w.grownBy wr none) (fun _ _=>True) w ⟨cQ Tryz.func125 rfl rfl,fun j wr hi=>h.below (aA hi), ?_, ?_⟩ Q9 (aR _ _) (fun j w1 w2 h1 h2=>aD h1 h2) Q9 (cQ Tryz.func111 rfl rfl)).mono ?_
 .
  exact U23
 .
  intro j r wr vs hr hi Ai _;rw[zA2]at hr;obtain⟨x,hx,rfl⟩:=zF0.1 hr;rw[hx];refine(aOg x vs wr Ai (hs x (zA3 hx))).mono ?_;exact U27
 .
  rintro e w' ⟨r,rfl,hg,ht⟩;refine⟨aE ?_,hg⟩;rw[gU ht];exact hZ l ⟨[],false⟩ aDl
def gG (k:Int)(nk:Nat):Int:=if k=0 then 0 else if k=1 then 0 else if k=4 then 0 else if k=5 then 0 else if k=7 then 0 else if k=2 then 1 else if k=3 then 2 else if k=6 then (if nk<=4 then nk else -1) else -1
theorem uF (k:Int)(nk:Nat):gG k nk=nk ↔ (inB k 0 7=true/\dM k<=nk/\(nk:Int)<=fJ k):=by
 unfold gG dM fJ inB;simp only[zC0,zE3]
 constructor
 .
  intro h
  split at h
  .
   rename_i h0;subst h0;simp;omega
  split at h
  .
   rename_i h0;subst h0;simp;omega
  split at h
  .
   rename_i h0;subst h0;simp;omega
  split at h
  .
   rename_i h0;subst h0;simp;omega
  split at h
  .
   rename_i h0;subst h0;simp;omega
  split at h
  .
   rename_i h0;subst h0;simp;omega
  split at h
  .
   rename_i h0;subst h0;simp;omega
  split at h
  .
   rename_i h0;subst h0
   split at h
   .
    simp;omega
   .
    omega
  .
   omega
 .
  rintro⟨⟨h1,h2⟩,h3,h4⟩
  have h8:k=0\/k=1\/k=2\/k=3\/k=4\/k=5\/k=6\/k=7:=by omega
  rcases h8 with rfl|rfl|rfl|rfl|rfl|rfl|rfl|rfl <;> simp at h3 h4 ⊢ <;> omega
theorem dH {k n:Int}{mod name:List Int}{nk:Nat}(h:inB k 0 7=false\/inB nk (dM k) (fJ k)=false\/inB n (fD k) (dF k)=false\/(dP k=true/\aK name false=false)\/(dP k=false/\¬name.length=0)\/(¬mod.length=0/\¬k=6)\/(¬mod.length=0/\aK mod true=false)):iW k n mod name nk=false:=by
 unfold iW
 rcases h with h|h|h|⟨h1,h2⟩|⟨h1,h2⟩|⟨h1,h2⟩|⟨h1,h2⟩
 .
  rw[h];rfl
 .
  rw[h];simp
 .
  rw[h];simp
 .
  rw[h1,if_pos rfl,h2];simp
 .
  rw[h1,zC2 h2];simp
 .
  rw[zC2 h1,zC2 h2];simp
 .
  rw[zC2 h1,h2];simp
theorem jX {k n:Int}{mod name:List Int}{nk:Nat}(h1:inB k 0 7=true)(h2:inB nk (dM k) (fJ k)=true)(h3:inB n (fD k) (dF k)=true)(h4:(if dP k then aK name false else decide (name.length=0))=true)(h5:(decide (mod.length=0) || decide (k=6) && aK mod true)=true):iW k n mod name nk=true:=by
 unfold iW;rw[h1,h2,h3,h4,h5];rfl
def dJ (x:Ex)(d:Int)(arg:Bool)(left:Int):Bool:=(!lP x || arg) && iU x d left
def eY (l:List Ex)(d:Int)(arg:Bool)(left:Int):Bool:=(arg || !l.any lP) && eJ l d left
theorem fV {l:List Ex}{d left:Int}{arg:Bool}{j:Nat}{x:Ex}(h:l[j]?=some x)(hx:dJ x d arg (left-(aF (l.take j):Int))=false):eY l d arg left=false:=by
 unfold dJ at hx;unfold eY;rw[zI0]at hx ⊢
 rcases hx with hx|hx
 .
  left
  rw[Bool.or_eq_false_iff]at hx ⊢;refine⟨hx.2, ?_⟩
  have h1:lP x=true:=by simpa using hx.1
  have:l.any lP=true:=by rw[List.any_eq_true];exact⟨x,zA3 h,h1⟩
  rw[this];rfl
 .
  right;exact vQ h hx
theorem dZ {l:List Ex}{d left:Int}{arg:Bool}(h:∀j x,l[j]?=some x->dJ x d arg (left-(aF (l.take j):Int))=true)(hl:0<=left):eY l d arg left=true:=by
 unfold eY;rw[zC0]
 refine⟨?_,rP (fun j x hx=>by have:=h j x hx;unfold dJ at this;rw[zC0]at this;exact this.2) hl⟩
 cases arg
 .
  rw[Bool.false_or]
  have:l.any lP=false:=by
   rw[List.any_eq_false];intro x hx;obtain⟨j,hj⟩:=zH3 hx
   have:=h j x hj
   unfold dJ at this;simp only[zC0,Bool.or_eq_true,Bool.not_eq_true',Bool.false_eq_true,or_false]at this
   simpa using this.1
  rw[this];rfl
 .
  rfl
theorem iE {x:Ex}{d left:Int}{arg:Bool}(h:dJ x d arg left=true):(iF x:Int)<=left:=by
 unfold dJ at h;rw[zC0]at h;exact aAk h.2
theorem uE {x:Ex}{d left:Int}{arg:Bool}(h:left<1\/16<d):dJ x d arg left=false:=by
 unfold dJ;rw[rQ h];simp
theorem cD {k n:Int}{mod name:List Int}{ks:List Ex}{d left:Int}{arg:Bool}(h:iW k n mod name ks.length=false):dJ (.mk k n mod name ks) d arg left=false:=by
 unfold dJ iU qN;rw[h];simp
theorem aHo {n:Int}{mod name:List Int}{ks:List Ex}{d left:Int}:dJ (.mk 7 n mod name ks) d false left=false:=by
 unfold dJ lP Ex.kind;simp
theorem gA {k n:Int}{mod name:List Int}{ks:List Ex}{d left:Int}{arg:Bool}(h:iW k n mod name ks.length=true)(ha:¬k=7\/arg=true)(hl:1<=left)(hd:d<=16):dJ (.mk k n mod name ks) d arg left=eY ks (d+1) (decide (k=6)) (left-1):=by
 have h1:(!lP (.mk k n mod name ks) || arg)=true:=by
  rcases ha with ha|ha
  .
   simp[lP,Ex.kind,ha]
  .
   rw[ha];simp
 unfold dJ eY;rw[h1,Bool.true_and]
 cases hx:(decide (k=6) || !ks.any lP)
 .
  rw[Bool.false_and];refine rS ?_;rw[aAm,hx];simp
 .
  rw[Bool.true_and]
  exact rR (by rw[aAm,h,hx];rfl) hl hd
theorem aTn {k:Int}{ks:List Ex}(h:inB (ks.length:Int) (dM k) (fJ k)=true)(hk:fJ k=0):ks.length=0:=by
 unfold inB at h;rw[hk]at h;simp only[zC0,zE3]at h
 omega
theorem kL {d m:Int}{arg:Bool}(h:0<=m):eY [] d arg m=true:=by
 simp[eY,eJ,eI,aF,h]
theorem U26{p:Prop}(h:p:=by
 go_wp2
 go_ret
 exact⟨hz.out _ hv.out,y0⟩):p:=h
set_option maxHeartbeats 1000000 in
theorem aL1 (k n:Int)(v2 v3:Value)(a:Option Addr)(nk c:Nat)(w:World)(hk:nk<=9223372036854775807):
  Calls Tryz.prog 138 #[.agg #[.int .i64 k,.int .i64 n,v2,v3,.slice a nk c]] w fun e w'=>e=.returned (.int .i64 (gG k nk))/\w.grownBy w' none:=by
 have y0:=aB w (.cells #[.int .i64 k,.int .i64 n,v2,v3,.slice a nk c] 119 (0,0)) none;have q0:=aN w 119 #[.int .i64 k,.int .i64 n,v2,v3,.slice a nk c] 0 _ rfl;have q4:=aN w 119 #[.int .i64 k,.int .i64 n,v2,v3,.slice a nk c] 4 _ rfl
 have hz:Hid (∀x:Int,gG k nk=x->Ending.returned (.int .i64 x)=.returned (.int .i64 (gG k nk))):=fun x h=>by rw[h]
 go_enter Tryz.func138,Tryz.ntmps138;go_upto_region 1 with fail;generalize w.alloc (.cells #[.int .i64 k,.int .i64 n,v2,v3,.slice a nk c] 119 (0,0))=w1 at *
 by_cases k0:k=0
 .
  subst k0
  have hv:Hid (gG 0 nk=0):=by show _=_;simp[gG]
  exact U26
 have g0:(k == 0)=false:=by simpa using k0
 by_cases k1:k=1
 .
  subst k1
  have hv:Hid (gG 1 nk=0):=by show _=_;simp[gG]
  exact U26
 have g1:(k == 1)=false:=by simpa using k1
 by_cases k4:k=4
 .
  subst k4
  have hv:Hid (gG 4 nk=0):=by show _=_;simp[gG]
  exact U26
 have g4:(k == 4)=false:=by simpa using k4
 by_cases k5:k=5
 .
  subst k5
  have hv:Hid (gG 5 nk=0):=by show _=_;simp[gG]
  exact U26
 have g5:(k == 5)=false:=by simpa using k5
 by_cases k7:k=7
 .
  subst k7
  have hv:Hid (gG 7 nk=0):=by show _=_;simp[gG]
  exact U26
 have g7:(k == 7)=false:=by simpa using k7
 by_cases k2:k=2
 .
  subst k2
  have hv:Hid (gG 2 nk=1):=by show _=_;simp[gG]
  exact U26
 have g2:(k == 2)=false:=by simpa using k2
 by_cases k3:k=3
 .
  subst k3
  have hv:Hid (gG 3 nk=2):=by show _=_;simp[gG]
  exact U26
 have g3:(k == 3)=false:=by simpa using k3
 by_cases k6:k=6
 .
  subst k6
  by_cases h4:nk<=4
  .
   have Be:(nk:Int)<=4:=by omega
   have hv:Hid (gG 6 nk=nk):=by show _=_;simp[gG,h4]
   exact U26
  .
   have Be:¬(nk:Int)<=4:=by omega
   have hv:Hid (gG 6 nk = -1):=by show _=_;simp[gG,h4]
   exact U26
 have g6:(k == 6)=false:=by simpa using k6
 have hv:Hid (gG k nk = -1):=by show _=_;simp[gG,k0,k1,k2,k3,k4,k5,k6,k7]
 clear k0 k1 k2 k3 k4 k5 k6 k7;exact U26
def iI (k n:Int)(name:List Int)(nk nb ne:Nat):Bool:=
 inB k 0 7 && (inB n 0 (dE k) && inB nk (cO k) (cO k) && (if dO k then aK name false else decide (name.length=0))) && (decide (nb=0) || fE k) && (decide (ne=0) || decide (k=2))
theorem oS (k n:Int)(name:List Int)(ks:List Ex)(nb ne:Nat):pK k n name ks nb ne=(iI k n name ks.length nb ne && !ks.any lP && (!decide (k=7) || ks.any jE)):=rfl
theorem cA {k n:Int}{name:List Int}{nk nb ne:Nat}(h:inB k 0 7=false\/¬(nk:Int)=cO k\/inB n 0 (dE k)=false\/(dO k=true/\aK name false=false)\/(dO k=false/\¬name.length=0)\/(¬nb=0/\fE k=false)\/(¬ne=0/\¬k=2)):iI k n name nk nb ne=false:=by
 unfold iI
 rcases h with h|h|h|⟨h1,h2⟩|⟨h1,h2⟩|⟨h1,h2⟩|⟨h1,h2⟩
 .
  rw[h];rfl
 .
  have:inB (nk:Int) (cO k) (cO k)=false:=by simp[inB];omega
  rw[this];simp
 .
  rw[h];simp
 .
  rw[h1,if_pos rfl,h2];simp
 .
  rw[h1,zC2 h2];simp
 .
  rw[zC2 h1,h2];simp
 .
  rw[zC2 h1,zC2 h2];simp
theorem jD {k n:Int}{name:List Int}{nk nb ne:Nat}(h1:inB k 0 7=true)(h2:(nk:Int)=cO k)(h3:inB n 0 (dE k)=true)(h4:(if dO k then aK name false else decide (name.length=0))=true)(h5:(decide (nb=0) || fE k)=true)(h6:(decide (ne=0) || decide (k=2))=true):iI k n name nk nb ne=true:=by
 have:inB (nk:Int) (cO k) (cO k)=true:=by simp[inB];omega
 unfold iI;rw[h1,this,h3,h4,h5,h6];rfl
def lB (ks:List Ex)(bs es:List St)(d left:Int):Bool:=eY ks d false left && cI bs d (left-(aF ks:Int)) && cI es d (left-(aF ks:Int)-(aU bs:Int))
theorem aC5 {k n:Int}{name:List Int}{ks:List Ex}{bs es:List St}{d left:Int}(h:iI k n name ks.length bs.length es.length=false):bI (.mk k n name ks bs es) d left=false:=by
 refine lK ?_;rw[uD,oS,h];rfl
theorem aC6 {n:Int}{name:List Int}{x:Ex}{bs es:List St}{d left:Int}(h:¬x.kind=6):bI (.mk 7 n name [x] bs es) d left=false:=by
 refine lK ?_;rw[uD,oS]
 simp[jE,h]
theorem jF {k n:Int}{name:List Int}{ks:List Ex}{bs es:List St}{d left:Int}(h:iI k n name ks.length bs.length es.length=true)(hc:(!decide (k=7) || ks.any jE)=true)(hl:1<=left)(hd:d<=16):bI (.mk k n name ks bs es) d left=lB ks bs es (d+1) (left-1):=by
 unfold lB eY
 cases ha:ks.any lP
 .
  simp only[Bool.not_false,Bool.or_true,Bool.true_and]
  exact rO (by rw[uD,oS,h,ha,hc];rfl) hl hd
 .
  simp only[Bool.not_true,Bool.or_self,Bool.false_and];refine lK ?_;rw[uD,oS,ha];simp
theorem iZ {l:List Ex}{d left:Int}{arg:Bool}(h:eY l d arg left=true):(aF l:Int)<=left:=by
 unfold eY at h;rw[zC0]at h;exact vR h.2
end Go.Proofs.YtffphdacgblaoaaGreatDoor
