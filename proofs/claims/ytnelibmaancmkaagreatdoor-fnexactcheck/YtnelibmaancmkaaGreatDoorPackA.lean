import Derived.Test.YtnelibmaancmkaaGreatDoorPackW
namespace Go.Proofs.YtnelibmaancmkaaGreatDoor
open Go.RowKit
set_option linter.unusedVariables false
set_option linter.unusedSimpArgs false
set_option maxRecDepth 100000
set_option maxHeartbeats 4000000
theorem V74{p:Prop}(h:p:=by rintro k ⟨rfl⟩;exact Blk.lt hc):p:=h
theorem U76{p:Prop}(h:p:=by
 go_upto_region 1 with fail
 generalize ((w.alloc (.cells #[.pointer (some ⟨g,0,none⟩)] 272 (0,0))).alloc (.cells #[.int .i64 d] 3 (0,0)))=W at *
 go_wp2_with fail
 refine HC.mono ?_
 rintro e w3 ⟨rfl,h1,h2⟩
 go_wp2_with fail
 go_ret
 exact⟨rfl,h1,h2⟩):p:=h
theorem U106{p:Prop}(h:p:=by
 rintro j w1 w2 ⟨h1,h2,h3,h4,h5⟩ Bk
 have hbb:=aA Bk
 exact⟨h1.trans (hbb.mono h1.size),h2,Blk.below h3 hbb (Blk.lt h3),aB h4 hbb,aB h5 hbb⟩):p:=h
theorem U141{p:Prop}(h:p:=by
 refine⟨bZ hi1 Aq hg,by omega,by rw[<-Nat.add_assoc];exact hcen h,cH hi4 Aq hne1,cH hi5 Aq hne2⟩):p:=h
theorem U144{p:Prop}(h:p:=by
 go_enter Tryz.func232,Tryz.ntmps232
 go_wp2_with fail
 go_ret
 exact⟨aE (by simp[h1]),hw,hc.out⟩):p:=h
theorem lX {w:World}{g i:Nat}{v:Value}:w.grownBy (w.setCell ⟨g,i,none⟩ v) (some g):=
 ⟨rfl,rfl,rfl,by simp,fun k hk hne=>heap_setCell_other w ⟨g,i,none⟩ k v (fun e=>hne (by simp at e;rw[e]))⟩
theorem bZ {w0 w w':World}{g:Nat}(h:Below w0.heap.size w0 w)(hg:w.grownBy w' (some g))(hB:w0.heap.size<=g):Below w0.heap.size w0 w':=
 h.grown hg h.size (fun k hk=>by cases hk;exact hB)
theorem Blk.grown {w w':World}{g k:Nat}{T:TypeId}{vs:List Value}(h:Blk w g T vs)(hg:w.grownBy w' (some k))(hne:g ≠ k):Blk w' g T vs:=
 (hg.block g h.lt (fun e=>hne (by cases e;rfl))).trans h
theorem cH {w w':World}{g k i:Nat}{v:Value}(h:w.cell? ⟨g,i,none⟩=some v)(hg:w.grownBy w' (some k))(hne:g ≠ k):w'.cell? ⟨g,i,none⟩=some v:=by
 rw[World.cell?_of_block (a:=⟨g,i,none⟩) (hg.block g (World.block_lt_of_cell? w _ h) (fun e=>hne (by cases e;rfl)))];exact h
def Cen (w:World)(g n:Nat):Prop:=Blk w g 254 [.int .i64 n]
theorem wM (g n:Nat)(d:Int)(w:World)(h:Cen w g n)(hn:n<=1000):
  Calls Tryz.prog 232 #[.pointer (some ⟨g,0,none⟩),.int .i64 d] w fun e w'=>e=.returned (.bool (decide (n+1<=250) && decide (d<=16)))/\w.grownBy w' (some g)/\Cen w' g (n+1):=by
 have q0:=h.cell (i:=0) rfl;have z0:=h.free 0;have hx:=h.set (i:=0) (.int .i64 ((n:Int)+1));have hw:=lX (w:=w) (g:=g) (i:=0) (v:=.int .i64 ((n:Int)+1))
 have hc:Hid (Cen (w.setCell ⟨g,0,none⟩ (.int .i64 ((n:Int)+1))) g (n+1)):=by
  show Blk _ _ _ _
  simpa using hx
 have q1:=hx.cell (i:=0) rfl;have Ai:=h.lt;clear h hx
 by_cases h1:n+1<=250
 .
  have h1':(n:Int)+1<=250:=V6;exact U144
 .
  have h1':¬(n:Int)+1<=250:=V6;exact U144
def aFz (x:Ex):Prop:=∀(w0 w:World) (vs:List Value) (g g1 g2 n:Nat) (d:Int),kQ w0->aO w0 x.fl vs->Below w0.heap.size w0 w->w0.heap.size<=g->Cen w g n->n<=250->0<=d->d<=17 →
 w.cell? ⟨g1,0,none⟩=some (.pointer (some ⟨g,0,none⟩))->w.cell? ⟨g2,0,none⟩=some (.int .i64 d)->g1 ≠ g->g2 ≠ g →
 Calls Tryz.prog 256 #[agg vs,.pointer (some ⟨g1,0,none⟩),.pointer (some ⟨g2,0,none⟩)] w fun e w'=>e=.returned (.bool (gW x d (250-(n:Int))))/\w.grownBy w' (some g)/\(gW x d (250-(n:Int))=true->Cen w' g (n+fA x))
def xG (l:List Ex):Prop:=∀(w0 w:World) (a:Option Addr) (c g n:Nat) (d:Int),kQ w0->aS w0 a c 5 (exs l)->Below w0.heap.size w0 w->w0.heap.size<=g->Cen w g n->n<=250->0<=d->d<=17 →
 Calls Tryz.prog 247 #[.pointer (some ⟨g,0,none⟩),.slice a l.length c,.int .i64 d] w fun e w'=>e=.returned (.bool (dZ l d (250-(n:Int))))/\w.grownBy w' (some g)/\(dZ l d (250-(n:Int))=true->Cen w' g (n+aG l))
theorem wR {x:Ex}{d left:Int}(h:gW x d left=true):(fA x:Int)<=left:=by
 unfold gW at h;simp only[Bool.and_eq_true,decide_eq_true_eq]at h;exact h.1.2
set_option maxHeartbeats 2000000 in
theorem aDf (l:List Ex)(H:∀x ∈ l,aFz x):xG l:=by
 intro w0 w a c g n d hT hr hb hg hc hn hd0 hd;have y0:=aC w (.cells #[.pointer (some ⟨g,0,none⟩)] 272 (0,0)) none;have x1:=aN w 272 #[.pointer (some ⟨g,0,none⟩)] 0 _ rfl;have y1:=aC (w.alloc (.cells #[.pointer (some ⟨g,0,none⟩)] 272 (0,0))) (.cells #[.int .i64 d] 3 (0,0)) none;have x2:=aN (w.alloc (.cells #[.pointer (some ⟨g,0,none⟩)] 272 (0,0))) 3 #[.int .i64 d] 0 _ rfl
 rw[show(w.alloc (.cells #[.pointer (some ⟨g,0,none⟩)] 272 (0,0))).heap.size=w.heap.size+1 by simp]at x2
 replace x1:=aB x1 (aA y1);have yy:=aD y0 y1;have hgl:g<w.heap.size:=Blk.lt hc
 replace hc:Cen ((w.alloc (.cells #[.pointer (some ⟨g,0,none⟩)] 272 (0,0))).alloc (.cells #[.int .i64 d] 3 (0,0))) g n:=Blk.old (Blk.old hc)
 have Ae:Below w0.heap.size w0 ((w.alloc (.cells #[.pointer (some ⟨g,0,none⟩)] 272 (0,0))).alloc (.cells #[.int .i64 d] 3 (0,0))):=hb.trans ((aA yy).mono hb.size)
 clear y0 y1 hb
 have HC:Calls Tryz.prog 240 #[.slice a l.length c,.func (.func 256) #[] #[.pointer (some ⟨w.heap.size,0,none⟩),.pointer (some ⟨w.heap.size+1,0,none⟩)]] ((w.alloc (.cells #[.pointer (some ⟨g,0,none⟩)] 272 (0,0))).alloc (.cells #[.int .i64 d] 3 (0,0))) fun e w'=>e=.returned (.bool (dZ l d (250-(n:Int))))/\w.grownBy w' (some g)/\(dZ l d (250-(n:Int))=true->Cen w' g (n+aG l)):=by
  generalize ((w.alloc (.cells #[.pointer (some ⟨g,0,none⟩)] 272 (0,0))).alloc (.cells #[.int .i64 d] 3 (0,0)))=W at *
  have hne1:w.heap.size ≠ g:=V6
  have hne2:w.heap.size+1 ≠ g:=V6
  refine(aJe 256 _ (some g) a l.length c (exs l) (fun j=>gW (l[j]?.getD e0) d (250-(n:Int)-(aG (l.take j):Int))) (fun j wr=>Below w0.heap.size w0 wr/\(aG (l.take j):Int)<=250-(n:Int)/\Cen wr g (n+aG (l.take j))/\wr.cell? ⟨w.heap.size,0,none⟩=some (.pointer (some ⟨g,0,none⟩))/\wr.cell? ⟨w.heap.size+1,0,none⟩=some (.int .i64 d)) (fun _ _=>True) W
   ⟨cK Tryz.func256 rfl rfl,fun j wr hi=>hr.below hi.1, ?_, ?_⟩ (by simp[aJ]) ⟨Ae,by simp[aG];omega,by simpa [aG] using hc,x1,x2⟩ ?_ V74 (cK Tryz.func253 rfl rfl)).mono ?_
  .
   intro r hr;rw[aJ]at hr;obtain⟨x,_,rfl⟩:=List.mem_map.1 hr;exact cE x
  .
   intro j r wr vs hj hi Ad hca;have hj0:=hj;obtain⟨hi1,hi2,hi3,hi4,hi5⟩:=hi;rw[aJ,List.getElem?_map]at hj;obtain⟨x,hx,rfl⟩:=Option.map_eq_some_iff.1 hj;have hv0:=iM hr hi1 hj0 Ad.len hca;rw[hx]
   have hL:(250:Int)-(n:Int)-(aG (l.take j):Int)=250-((n+aG (l.take j):Nat):Int):=V6
   simp only[Option.getD_some,hL];refine(H x (List.mem_of_getElem? hx) w0 wr vs g w.heap.size (w.heap.size+1) (n+aG (l.take j)) d hT hv0 hi1 hg hi3 V6 hd0 hd hi4 hi5 hne1 hne2).mono ?_;rintro e w' ⟨rfl,Aq,hcen⟩
   refine⟨rfl,Aq,fun h=>?_,fun _=>trivial⟩
   rw[cQ hx];have hle:=wR h;exact U141
  .
   exact U106
  .
   rintro e w' ⟨r,rfl,Aq,ht⟩
   have Be:w.grownBy w' (some g):=aD (bU yy _) Aq
   cases r with
   | false=>
    obtain⟨j,hj,hp,_⟩:=ht.yes rfl
    have hx:l[j]?=some l[j]:=List.getElem?_eq_getElem hj
    have hF:dZ l d (250-(n:Int))=false:=sY hx (by simpa [hx] using hp)
    rw[hF]
    exact⟨rfl,Be,by simp⟩
   | true=>
    obtain⟨h1,h2,h3,h4,_⟩:=ht.no rfl
    have hF:dZ l d (250-(n:Int))=true:=pX (fun j x hx=>by
     have:=h1 j (List.getElem?_eq_some_iff.1 hx).1
     simpa [hx] using this) V6
    rw[hF];rw[List.take_length]at h4
    exact⟨rfl,Be,fun _=>h4⟩
 clear x1 x2 hc Ae H;go_enter Tryz.func247,Tryz.ntmps247;exact U76
theorem U2{p:Prop}(h:p:=by
 go_wp2_with fail
 go_ret
 rw[he.out]
 exact⟨rfl,yy,by simp⟩):p:=h
theorem pY {x:Ex}{d left:Int}(h:left<1\/16<d):gW x d left=false:=by
 unfold gW;simp only[Bool.and_eq_false_iff,decide_eq_false_iff_not]
 have h1:1<=fA x:=by cases x;simp[fA]
 have h2:1<=aFi x:=by cases x;simp[aFi]
 rcases h with h|h
 .
  left;right;omega
 .
  right;omega
theorem qA {k n:Int}{mod name:List Int}{ks:List Ex}{d left:Int}(h:exT k n mod name ks=false):gW (.mk k n mod name ks) d left=false:=by
 unfold gW
 rw[show nQ (.mk k n mod name ks)=(exT k n mod name ks && dR ks) by rw[wT,nQ],h];rfl
theorem pZ {k n:Int}{mod name:List Int}{ks:List Ex}{d left:Int}(h:exT k n mod name ks=true)(hl:1<=left)(hd:d<=16):gW (.mk k n mod name ks) d left=dZ ks (d+1) (left-1):=by
 unfold gW dZ
 rw[show nQ (.mk k n mod name ks)=(exT k n mod name ks && dR ks) by rw[wT,nQ],h,Bool.true_and]
 have e1:decide ((fA (.mk k n mod name ks):Int)<=left)=decide ((aG ks:Int)<=left-1):=by
  rw[decide_eq_decide];simp only[fA];omega
 rw[e1]
 congr 1
 by_cases h0:ks.length=0
 .
  have:=List.eq_nil_of_length_eq_zero h0
  subst this
  rw[decide_eq_true (show d+(aFi (.mk k n mod name []):Int)<=17 by simp only[aFi,mA];omega)];simp
 .
  rw[decide_eq_false h0,Bool.false_or,decide_eq_decide];simp only[aFi];omega
set_option maxHeartbeats 4000000 in
theorem aLb (k n:Int)(mod name:List Int)(ks:List Ex)(hs:aH (Ex.mk k n mod name ks).fl<=1048576)(S:xG ks):aFz (.mk k n mod name ks):=by
 intro w0 w vs g g1 g2 cnt d hT hr hb hg hc hn hd0 hd x1 x2 hne1 hne2
 have HF:∀w1,Below w0.heap.size w0 w1->Calls Tryz.prog 257 #[agg vs] w1 fun e w'=>e=.returned (.bool (exT k n mod name ks))/\w1.grownBy w' none:=fun w1 h1=>aC3 (.mk k n mod name ks) vs w1 (hT.below h1) (hr.below h1) hs
 unfold Ex.fl at hr;obtain⟨y0,_,rfl,rfl,y1,_,rfl,rfl,y2,_,rfl,⟨a2,c2,rfl,_⟩,y3,_,rfl,⟨a3,c3,rfl,_⟩,y4,_,rfl,Bl,rfl⟩:=hr;obtain⟨a4,c4,rfl,h4⟩:=Bl.list;clear Bl
 have As:(exs ks).length=ks.length:=by simp[aJ]
 rw[As]at HF ⊢
 have HK:∀w1,Below w0.heap.size w0 w1->Cen w1 g (cnt+1)->cnt+1<=250->d+1<=17->Calls Tryz.prog 247 #[.pointer (some ⟨g,0,none⟩),.slice a4 ks.length c4,.int .i64 (d+1)] w1 fun e w'=>e=.returned (.bool (dZ ks (d+1) (250-((cnt+1:Nat):Int))))/\w1.grownBy w' (some g)/\(dZ ks (d+1) (250-((cnt+1:Nat):Int))=true->Cen w' g (cnt+1+aG ks)):=fun w1 h1 h2 h3 h5=>S w0 w1 a4 c4 g (cnt+1) (d+1) hT h4 h1 hg h2 h3 V6 h5
 clear h4 S hT hs;simp only[agg]at HF ⊢;have hgl:g<w.heap.size:=Blk.lt hc;have y0:=aC w (.cells #[.int .i64 k,.int .i64 n,.slice a2 mod.length c2,.slice a3 name.length c3,.slice a4 ks.length c4] 135 (0,0)) none;have x0:=Blk.new w 135 [.int .i64 k,.int .i64 n,.slice a2 mod.length c2,.slice a3 name.length c3,.slice a4 ks.length c4];have hcw:=Blk.old hc (o:=.cells #[.int .i64 k,.int .i64 n,.slice a2 mod.length c2,.slice a3 name.length c3,.slice a4 ks.length c4] 135 (0,0));replace x1:=aB x1 (aA y0);replace x2:=aB x2 (aA y0);replace hb:=hb.trans ((aA y0).mono hb.size);clear hc;go_enter Tryz.func256,Tryz.ntmps256;go_upto_region 1 with fail;generalize w.alloc (.cells #[.int .i64 k,.int .i64 n,.slice a2 mod.length c2,.slice a3 name.length c3,.slice a4 ks.length c4] 135 (0,0))=w1 at *;have yy:=bU y0 (some g);have H1:=wM g cnt d w1 hcw V6;obtain⟨q0,q1,q2,q3,q4⟩:=x0.c5;clear y0;go_wp2_with fail;refine H1.mono ?_;rintro e w2 ⟨rfl,Be,hc2⟩
 have An:w.heap.size ≠ g:=V6
 replace x0:=x0.grown Be An;replace x1:=cH x1 Be hne1;replace x2:=cH x2 Be hne2;replace hb:=bZ hb Be hg;replace yy:=aD yy Be;clear H1 hcw q0 q1 q2 q3 q4 Be;obtain⟨q0,q1,q2,q3,q4⟩:=x0.c5
 by_cases hro:cnt+1<=250/\d<=16
 .
  rw[decide_eq_true hro.1,decide_eq_true hro.2];have H2:=HF w2 hb;clear HF;go_wp2_with fail;refine H2.mono ?_;rintro e w3 ⟨rfl,hg3⟩;have Bj:=aA hg3;replace x0:=x0.below Bj x0.lt;replace x1:=aB x1 Bj;replace x2:=aB x2 Bj;replace hb:=hb.trans (Bj.mono hb.size);replace yy:=aD yy (bU hg3 _)
  have hc3:Cen w3 g (cnt+1):=Blk.below hc2 Bj (Blk.lt hc2)
  clear H2 hc2 q0 q1 q2 q3 q4 hg3 Bj;obtain⟨q0,q1,q2,q3,q4⟩:=x0.c5
  cases e1:exT k n mod name ks
  .
   have he:Hid (gW (.mk k n mod name ks) d (250-(cnt:Int))=false):=qA e1
   clear e1 HK;exact U2
  .
   have H3:=HK w3 hb hc3 hro.1 V6
   have hE:Hid (gW (.mk k n mod name ks) d (250-(cnt:Int))=dZ ks (d+1) (250-((cnt+1:Nat):Int))):=by
    show _=_
    rw[pZ e1 V6 hro.2]
    congr 1;omega
   have hN:Hid (fA (.mk k n mod name ks)=1+aG ks):=by show _=_;simp[fA]
   clear e1 HK;generalize dZ ks (d+1) (250-((cnt+1:Nat):Int))=rr at *;go_wp2_with fail;refine H3.mono ?_;rintro e w4 ⟨rfl,Bg,hc4⟩;go_wp2_with fail;go_ret;rw[hE.out,hN.out]
   exact⟨rfl,aD yy Bg,fun h=>by have:=hc4 h;rw[show cnt+(1+aG ks)=cnt+1+aG ks by omega];exact this⟩
 .
  have hz:(decide (cnt+1<=250) && decide (d<=16))=false:=by
   simp only[Bool.and_eq_false_iff,decide_eq_false_iff_not]
   omega
  rw[hz]
  have he:Hid (gW (.mk k n mod name ks) d (250-(cnt:Int))=false):=pY V6
  clear HF HK hz;exact U2
mutual
theorem aMl:∀x:Ex,aH x.fl<=1048576->aFz x
 | .mk k n m a ks,h=>aLb k n m a ks h (aDf ks (aDg ks (by
   have e:aH (Ex.mk k n m a ks).fl=m.length+a.length+((exs ks).length+aF (exs ks)):=by simp[Ex.fl,aH,Fl.len] <;> omega
   rw[e]at h;omega)))
theorem aDg:∀(l:List Ex),aF (exs l)<=1048576->∀e ∈ l,aFz e
 | [],_,e,h=>by simp at h
 | x :: l,hl,e,h=>by
  simp only[exs,aF]at hl
  rcases List.mem_cons.1 h with h|h
  .
   rw[h];exact aMl x V6
  .
   exact aDg l V6 e h
end
theorem U155{p:Prop}(h:p:=by
 go_wp2_with fail
 go_ret
 exact⟨aE he.out.symm,yy,fun h=>by rw[he.out]at h;cases h⟩):p:=h
def s0:St:=.mk 0 0 [] [] [] []
def aFy (x:St):Prop:=∀(w0 w:World) (vs:List Value) (g g1 g2 n:Nat) (d:Int),kQ w0->aO w0 x.fl vs->Below w0.heap.size w0 w->w0.heap.size<=g->Cen w g n->n<=250->0<=d->d<=17 →
 w.cell? ⟨g1,0,none⟩=some (.pointer (some ⟨g,0,none⟩))->w.cell? ⟨g2,0,none⟩=some (.int .i64 d)->g1 ≠ g->g2 ≠ g →
 Calls Tryz.prog 231 #[agg vs,.pointer (some ⟨g1,0,none⟩),.pointer (some ⟨g2,0,none⟩)] w fun e w'=>e=.returned (.bool (bL x d (250-(n:Int))))/\w.grownBy w' (some g)/\(bL x d (250-(n:Int))=true->Cen w' g (n+kX x))
def tM (l:List St):Prop:=∀(w0 w:World) (a:Option Addr) (c g n:Nat) (d:Int),kQ w0->aS w0 a c 6 (sts l)->Below w0.heap.size w0 w->w0.heap.size<=g->Cen w g n->n<=250->0<=d->d<=17 →
 Calls Tryz.prog 215 #[.pointer (some ⟨g,0,none⟩),.slice a l.length c,.int .i64 d] w fun e w'=>e=.returned (.bool (bP l d (250-(n:Int))))/\w.grownBy w' (some g)/\(bP l d (250-(n:Int))=true->Cen w' g (n+aW l))
theorem wQ {x:St}{d left:Int}(h:bL x d left=true):(kX x:Int)<=left:=by
 unfold bL at h;simp only[Bool.and_eq_true,decide_eq_true_eq]at h;exact h.1.2
theorem vF (l:List St)(H:∀x ∈ l,aFy x):tM l:=by
 intro w0 w a c g n d hT hr hb hg hc hn hd0 hd;have y0:=aC w (.cells #[.pointer (some ⟨g,0,none⟩)] 272 (0,0)) none;have x1:=aN w 272 #[.pointer (some ⟨g,0,none⟩)] 0 _ rfl;have y1:=aC (w.alloc (.cells #[.pointer (some ⟨g,0,none⟩)] 272 (0,0))) (.cells #[.int .i64 d] 3 (0,0)) none;have x2:=aN (w.alloc (.cells #[.pointer (some ⟨g,0,none⟩)] 272 (0,0))) 3 #[.int .i64 d] 0 _ rfl
 rw[show(w.alloc (.cells #[.pointer (some ⟨g,0,none⟩)] 272 (0,0))).heap.size=w.heap.size+1 by simp]at x2
 replace x1:=aB x1 (aA y1);have yy:=aD y0 y1;have hgl:g<w.heap.size:=Blk.lt hc
 replace hc:Cen ((w.alloc (.cells #[.pointer (some ⟨g,0,none⟩)] 272 (0,0))).alloc (.cells #[.int .i64 d] 3 (0,0))) g n:=Blk.old (Blk.old hc)
 have Ae:Below w0.heap.size w0 ((w.alloc (.cells #[.pointer (some ⟨g,0,none⟩)] 272 (0,0))).alloc (.cells #[.int .i64 d] 3 (0,0))):=hb.trans ((aA yy).mono hb.size)
 clear y0 y1 hb
 have HC:Calls Tryz.prog 224 #[.slice a l.length c,.func (.func 231) #[] #[.pointer (some ⟨w.heap.size,0,none⟩),.pointer (some ⟨w.heap.size+1,0,none⟩)]] ((w.alloc (.cells #[.pointer (some ⟨g,0,none⟩)] 272 (0,0))).alloc (.cells #[.int .i64 d] 3 (0,0))) fun e w'=>e=.returned (.bool (bP l d (250-(n:Int))))/\w.grownBy w' (some g)/\(bP l d (250-(n:Int))=true->Cen w' g (n+aW l)):=by
  generalize ((w.alloc (.cells #[.pointer (some ⟨g,0,none⟩)] 272 (0,0))).alloc (.cells #[.int .i64 d] 3 (0,0)))=W at *
  have hne1:w.heap.size ≠ g:=V6
  have hne2:w.heap.size+1 ≠ g:=V6
  refine(aJc 231 _ (some g) a l.length c (sts l) (fun j=>bL (l[j]?.getD s0) d (250-(n:Int)-(aW (l.take j):Int))) (fun j wr=>Below w0.heap.size w0 wr/\(aW (l.take j):Int)<=250-(n:Int)/\Cen wr g (n+aW (l.take j))/\wr.cell? ⟨w.heap.size,0,none⟩=some (.pointer (some ⟨g,0,none⟩))/\wr.cell? ⟨w.heap.size+1,0,none⟩=some (.int .i64 d)) (fun _ _=>True) W
   ⟨cK Tryz.func231 rfl rfl,fun j wr hi=>hr.below hi.1, ?_, ?_⟩ (by simp[aM]) ⟨Ae,by simp[aW];omega,by simpa [aW] using hc,x1,x2⟩ ?_ V74 (cK Tryz.func239 rfl rfl)).mono ?_
  .
   intro r hr;rw[aM]at hr;obtain⟨x,_,rfl⟩:=List.mem_map.1 hr;exact aA1 x
  .
   intro j r wr vs hj hi Ad hca;have hj0:=hj;obtain⟨hi1,hi2,hi3,hi4,hi5⟩:=hi;rw[aM,List.getElem?_map]at hj;obtain⟨x,hx,rfl⟩:=Option.map_eq_some_iff.1 hj;have hv0:=iM hr hi1 hj0 Ad.len hca;rw[hx]
   have hL:(250:Int)-(n:Int)-(aW (l.take j):Int)=250-((n+aW (l.take j):Nat):Int):=V6
   simp only[Option.getD_some,hL];refine(H x (List.mem_of_getElem? hx) w0 wr vs g w.heap.size (w.heap.size+1) (n+aW (l.take j)) d hT hv0 hi1 hg hi3 V6 hd0 hd hi4 hi5 hne1 hne2).mono ?_;rintro e w' ⟨rfl,Aq,hcen⟩
   refine⟨rfl,Aq,fun h=>?_,fun _=>trivial⟩
   rw[kD hx];have hle:=wQ h;exact U141
  .
   exact U106
  .
   rintro e w' ⟨r,rfl,Aq,ht⟩
   have Be:w.grownBy w' (some g):=aD (bU yy _) Aq
   cases r with
   | false=>
    obtain⟨j,hj,hp,_⟩:=ht.yes rfl
    have hx:l[j]?=some l[j]:=List.getElem?_eq_getElem hj
    have hF:bP l d (250-(n:Int))=false:=sX hx (by simpa [hx] using hp)
    rw[hF]
    exact⟨rfl,Be,by simp⟩
   | true=>
    obtain⟨h1,h2,h3,h4,_⟩:=ht.no rfl
    have hF:bP l d (250-(n:Int))=true:=pV (fun j x hx=>by
     have:=h1 j (List.getElem?_eq_some_iff.1 hx).1
     simpa [hx] using this) V6
    rw[hF];rw[List.take_length]at h4
    exact⟨rfl,Be,fun _=>h4⟩
 clear x1 x2 hc Ae H;go_enter Tryz.func215,Tryz.ntmps215;exact U76
theorem mQ {x:St}{d left:Int}(h:left<1\/16<d):bL x d left=false:=by
 unfold bL;simp only[Bool.and_eq_false_iff,decide_eq_false_iff_not]
 have h1:1<=kX x:=by cases x;simp[kX]
 have h2:1<=aGm x:=by cases x;simp[aGm]
 rcases h with h|h
 .
  left;right;omega
 .
  right;omega
theorem aBy (k n:Int)(name:List Int)(ks:List Ex)(bs es:List St):sM (.mk k n name ks bs es)=(stT k n name ks bs.length es.length && dR ks && fC bs && fC es):=by rw[sC,sM]
theorem kH {k n:Int}{name:List Int}{ks:List Ex}{bs es:List St}{d left:Int}(h:stT k n name ks bs.length es.length=false):bL (.mk k n name ks bs es) d left=false:=by
 unfold bL;rw[aBy,h];rfl
def pG (ks:List Ex)(bs es:List St)(d left:Int):Bool:=dZ ks d left && bP bs d (left-(aG ks:Int)) && bP es d (left-(aG ks:Int)-(aW bs:Int))
theorem qC {l:List St}(h:l.length=0):lZ l=0:=by rw[List.eq_nil_of_length_eq_zero h];rfl
theorem aAg {l:List Ex}(h:l.length=0):mA l=0:=by rw[List.eq_nil_of_length_eq_zero h];rfl
theorem pW {k n:Int}{name:List Int}{ks:List Ex}{bs es:List St}{d left:Int}(h:stT k n name ks bs.length es.length=true)(hl:1<=left)(hd:d<=16):bL (.mk k n name ks bs es) d left=pG ks bs es (d+1) (left-1):=by
 unfold bL pG dZ bP;rw[aBy,h,Bool.true_and,Bool.eq_iff_iff]
 have e1:kX (.mk k n name ks bs es)=1+(aG ks+aW bs+aW es):=by simp only[kX]
 have e2:aGm (.mk k n name ks bs es)=1+max (mA ks) (max (lZ bs) (lZ es)):=by simp only[aGm]
 rw[e1,e2];clear e1 e2;simp only[Bool.and_eq_true,decide_eq_true_eq,Bool.or_eq_true];have a1:=@aAg ks;have a2:=@qC bs;have a3:=@qC es
 constructor
 .
  rintro⟨⟨⟨⟨h1,h2⟩,h3⟩,h4⟩,h5⟩
  exact⟨⟨⟨⟨h1,by omega⟩,.inr V6⟩,⟨h2,by omega⟩,.inr V6⟩,⟨h3,by omega⟩,.inr V6⟩
 .
  rintro⟨⟨⟨⟨h1,b1⟩,c1⟩,⟨h2,b2⟩,c2⟩,⟨h3,b3⟩,c3⟩
  refine⟨⟨⟨⟨h1,h2⟩,h3⟩,by omega⟩, ?_⟩
  rcases c1 with c1|c1 <;> rcases c2 with c2|c2 <;> rcases c3 with c3|c3 <;> omega
theorem eP {l:List St}{d left:Int}(h:bP l d left=true):(aW l:Int)<=left:=by
 unfold bP at h;simp only[Bool.and_eq_true,decide_eq_true_eq]at h;exact h.1.2
theorem sZ {l:List Ex}{d left:Int}(h:dZ l d left=true):(aG l:Int)<=left:=by
 unfold dZ at h;simp only[Bool.and_eq_true,decide_eq_true_eq]at h;exact h.1.2
theorem aKw (k n:Int)(a2:Option Addr)(n2 c2:Nat)(a3:Option Addr)(c3:Nat)(a4:Option Addr)(c4:Nat)(a5:Option Addr)(c5:Nat)(ks:List Ex)(bs es:List St)(S3:xG ks)(S4:tM bs)(S5:tM es)(w0 w:World)(g cnt:Nat)(d:Int)
  (hT:kQ w0) (h3:aS w0 a3 c3 5 (exs ks)) (h4:aS w0 a4 c4 6 (sts bs)) (h5:aS w0 a5 c5 6 (sts es)) (hb:Below w0.heap.size w0 w) (hg:w0.heap.size<=g) (hc:Cen w g cnt) (hn:cnt<=250) (hd0:0<=d) (hd:d<=17):
  Calls Tryz.prog 234 #[.pointer (some ⟨g,0,none⟩),.agg #[.int .i64 k,.int .i64 n,.slice a2 n2 c2,.slice a3 ks.length c3,.slice a4 bs.length c4,.slice a5 es.length c5],.int .i64 d] w fun e w'=>e=.returned (.bool (pG ks bs es d (250-(cnt:Int))))/\w.grownBy w' (some g)/\(pG ks bs es d (250-(cnt:Int))=true->Cen w' g (cnt+(aG ks+aW bs+aW es))):=by
 have hgl:g<w.heap.size:=Blk.lt hc
 have An:w.heap.size ≠ g:=V6
 have y0:=aC w (.cells #[.int .i64 k,.int .i64 n,.slice a2 n2 c2,.slice a3 ks.length c3,.slice a4 bs.length c4,.slice a5 es.length c5] 131 (0,0)) none;have x0:=Blk.new w 131 [.int .i64 k,.int .i64 n,.slice a2 n2 c2,.slice a3 ks.length c3,.slice a4 bs.length c4,.slice a5 es.length c5]
 have hcw:Cen _ g cnt:=Blk.old hc (o:=.cells #[.int .i64 k,.int .i64 n,.slice a2 n2 c2,.slice a3 ks.length c3,.slice a4 bs.length c4,.slice a5 es.length c5] 131 (0,0))
 replace hb:=hb.trans ((aA y0).mono hb.size);have yy:=bU y0 (some g);clear hc y0
 have hfe:Hid (pG ks bs es d (250-(cnt:Int))=(dZ ks d (250-(cnt:Int)) && bP bs d (250-(cnt:Int)-(aG ks:Int)) && bP es d (250-(cnt:Int)-(aG ks:Int)-(aW bs:Int)))):=rfl
 generalize pG ks bs es d (250-(cnt:Int))=TG at *;go_enter Tryz.func234,Tryz.ntmps234;go_upto_region 1 with fail;generalize w.alloc (.cells #[.int .i64 k,.int .i64 n,.slice a2 n2 c2,.slice a3 ks.length c3,.slice a4 bs.length c4,.slice a5 es.length c5] 131 (0,0))=w1 at *;have q3:=x0.cell (i:=3) rfl;have q4:=x0.cell (i:=4) rfl;have q5:=x0.cell (i:=5) rfl;have H1:=S3 w0 w1 a3 c3 g cnt d hT h3 hb hg hcw hn hd0 hd;clear S3 h3;generalize e3:dZ ks d (250-(cnt:Int))=r3 at *;go_wp2_with fail;refine H1.mono ?_;rintro e w2 ⟨rfl,Be,hc2⟩;replace x0:=x0.grown Be An;replace hb:=bZ hb Be hg;replace yy:=aD yy Be;clear H1 hcw q3 q4 q5 Be;cases r3
 .
  have he:Hid (TG=false):=by show _=_;rw[hfe.out];rfl
  exact U155
 have hl3:=sZ e3;have hc2':=hc2 rfl;clear hc2 e3;have q4:=x0.cell (i:=4) rfl;have q5:=x0.cell (i:=5) rfl;have H2:=S4 w0 w2 a4 c4 g (cnt+aG ks) d hT h4 hb hg hc2' V6 hd0 hd
 have eL:(250:Int)-((cnt+aG ks:Nat):Int)=250-(cnt:Int)-(aG ks:Int):=V6
 rw[eL]at H2;clear S4 h4 eL;generalize e4:bP bs d (250-(cnt:Int)-(aG ks:Int))=r4 at *;go_wp2_with fail;refine H2.mono ?_;rintro e w3 ⟨rfl,hg3,hc3⟩;replace x0:=x0.grown hg3 An;replace hb:=bZ hb hg3 hg;replace yy:=aD yy hg3;clear H2 hc2' q4 q5 hg3;cases r4
 .
  have he:Hid (TG=false):=by show _=_;rw[hfe.out];simp
  exact U155
 have hl4:=eP e4;have hc3':=hc3 rfl;clear hc3 e4;have q5:=x0.cell (i:=5) rfl;have H3:=S5 w0 w3 a5 c5 g (cnt+aG ks+aW bs) d hT h5 hb hg hc3' V6 hd0 hd
 have eL:(250:Int)-((cnt+aG ks+aW bs:Nat):Int)=250-(cnt:Int)-(aG ks:Int)-(aW bs:Int):=V6
 rw[eL]at H3;clear S5 h5 eL;generalize e5:bP es d (250-(cnt:Int)-(aG ks:Int)-(aW bs:Int))=r5 at *;go_wp2_with fail;refine H3.mono ?_;rintro e w4 ⟨rfl,Bg,hc4⟩
 have he:Hid (TG=r5):=by show _=_;rw[hfe.out];simp
 go_wp2_with fail;go_ret
 exact⟨aE he.out.symm,aD yy Bg,fun h=>by
  have:=hc4 (he.out ▸ h)
  rw[show cnt+(aG ks+aW bs+aW es)=cnt+aG ks+aW bs+aW es by omega];exact this⟩
set_option maxHeartbeats 4000000 in
theorem aLa (k n:Int)(name:List Int)(ks:List Ex)(bs es:List St)(hs:aH (St.mk k n name ks bs es).fl<=1048576)(S3:xG ks)(S4:tM bs)(S5:tM es):aFy (.mk k n name ks bs es):=by
 intro w0 w vs g g1 g2 cnt d hT hr hb hg hc hn hd0 hd x1 x2 hne1 hne2
 have HF:∀w1,Below w0.heap.size w0 w1->Calls Tryz.prog 233 #[agg vs] w1 fun e w'=>e=.returned (.bool (stT k n name ks bs.length es.length))/\w1.grownBy w' none:=fun w1 h1=>aA4 k n name ks bs es vs w1 (hT.below h1) (hr.below h1) hs
 unfold St.fl at hr;obtain⟨y0,_,rfl,rfl,y1,_,rfl,rfl,y2,_,rfl,⟨a2,c2,rfl,_⟩,y3,_,rfl,h3',y4,_,rfl,Bl,y5,_,rfl,h5',rfl⟩:=hr;obtain⟨a3,c3,rfl,h3⟩:=h3'.list;obtain⟨a4,c4,rfl,h4⟩:=Bl.list;obtain⟨a5,c5,rfl,h5⟩:=h5'.list;clear h3' Bl h5'
 have As:(exs ks).length=ks.length:=by simp[aJ]
 have hbl:(sts bs).length=bs.length:=by simp[aM]
 have hel:(sts es).length=es.length:=by simp[aM]
 rw[As,hbl,hel]at HF ⊢
 have HK:∀w1,Below w0.heap.size w0 w1->Cen w1 g (cnt+1)->cnt+1<=250->d+1<=17->Calls Tryz.prog 234 #[.pointer (some ⟨g,0,none⟩),.agg #[.int .i64 k,.int .i64 n,.slice a2 name.length c2,.slice a3 ks.length c3,.slice a4 bs.length c4,.slice a5 es.length c5],.int .i64 (d+1)] w1 fun e w'=>e=.returned (.bool (pG ks bs es (d+1) (250-((cnt+1:Nat):Int))))/\w1.grownBy w' (some g)/\(pG ks bs es (d+1) (250-((cnt+1:Nat):Int))=true->Cen w' g (cnt+1+(aG ks+aW bs+aW es))):=fun w1 h1 h2 h7 h8=>aKw k n a2 name.length c2 a3 c3 a4 c4 a5 c5 ks bs es S3 S4 S5 w0 w1 g (cnt+1) (d+1) hT h3 h4 h5 h1 hg h2 h7 V6 h8
 clear h3 h4 h5 S3 S4 S5 hT hs;simp only[agg]at HF ⊢;have hgl:g<w.heap.size:=Blk.lt hc;have y0:=aC w (.cells #[.int .i64 k,.int .i64 n,.slice a2 name.length c2,.slice a3 ks.length c3,.slice a4 bs.length c4,.slice a5 es.length c5] 131 (0,0)) none;have x0:=Blk.new w 131 [.int .i64 k,.int .i64 n,.slice a2 name.length c2,.slice a3 ks.length c3,.slice a4 bs.length c4,.slice a5 es.length c5];have hcw:=Blk.old hc (o:=.cells #[.int .i64 k,.int .i64 n,.slice a2 name.length c2,.slice a3 ks.length c3,.slice a4 bs.length c4,.slice a5 es.length c5] 131 (0,0));replace x1:=aB x1 (aA y0);replace x2:=aB x2 (aA y0);replace hb:=hb.trans ((aA y0).mono hb.size);clear hc;go_enter Tryz.func231,Tryz.ntmps231;go_upto_region 1 with fail;generalize w.alloc (.cells #[.int .i64 k,.int .i64 n,.slice a2 name.length c2,.slice a3 ks.length c3,.slice a4 bs.length c4,.slice a5 es.length c5] 131 (0,0))=w1 at *;have yy:=bU y0 (some g);have H1:=wM g cnt d w1 hcw V6;obtain⟨q0,q1,q2,q3,q4,q5⟩:=x0.c6;clear y0;go_wp2_with fail;refine H1.mono ?_;rintro e w2 ⟨rfl,Be,hc2⟩
 have An:w.heap.size ≠ g:=V6
 replace x0:=x0.grown Be An;replace x1:=cH x1 Be hne1;replace x2:=cH x2 Be hne2;replace hb:=bZ hb Be hg;replace yy:=aD yy Be;clear H1 hcw q0 q1 q2 q3 q4 q5 Be;obtain⟨q0,q1,q2,q3,q4,q5⟩:=x0.c6
 by_cases hro:cnt+1<=250/\d<=16
 .
  rw[decide_eq_true hro.1,decide_eq_true hro.2];have H2:=HF w2 hb;clear HF;go_wp2_with fail;refine H2.mono ?_;rintro e w3 ⟨rfl,hg3⟩;have Bj:=aA hg3;replace x0:=x0.below Bj x0.lt;replace x1:=aB x1 Bj;replace x2:=aB x2 Bj;replace hb:=hb.trans (Bj.mono hb.size);replace yy:=aD yy (bU hg3 _)
  have hc3:Cen w3 g (cnt+1):=Blk.below hc2 Bj (Blk.lt hc2)
  clear H2 hc2 q0 q1 q2 q3 q4 q5 hg3 Bj;obtain⟨q0,q1,q2,q3,q4,q5⟩:=x0.c6
  cases e1:stT k n name ks bs.length es.length
  .
   have he:Hid (bL (.mk k n name ks bs es) d (250-(cnt:Int))=false):=kH e1
   clear e1 HK;exact U2
  .
   have H3:=HK w3 hb hc3 hro.1 V6
   have hE:Hid (bL (.mk k n name ks bs es) d (250-(cnt:Int))=pG ks bs es (d+1) (250-((cnt+1:Nat):Int))):=by
    show _=_
    rw[pW e1 V6 hro.2]
    congr 1;omega
   have hN:Hid (kX (.mk k n name ks bs es)=1+(aG ks+aW bs+aW es)):=by show _=_;simp[kX]
   clear e1 HK;generalize pG ks bs es (d+1) (250-((cnt+1:Nat):Int))=rr at *;go_wp2_with fail;refine H3.mono ?_;rintro e w4 ⟨rfl,Bg,hc4⟩;go_wp2_with fail;go_ret;rw[hE.out,hN.out]
   exact⟨rfl,aD yy Bg,fun h=>by have:=hc4 h;rw[show cnt+(1+(aG ks+aW bs+aW es))=cnt+1+(aG ks+aW bs+aW es) by omega];exact this⟩
 .
  have hz:(decide (cnt+1<=250) && decide (d<=16))=false:=by
   simp only[Bool.and_eq_false_iff,decide_eq_false_iff_not]
   omega
  rw[hz]
  have he:Hid (bL (.mk k n name ks bs es) d (250-(cnt:Int))=false):=mQ V6
  clear HF HK hz;exact U2
mutual
theorem aMk:∀x:St,aH x.fl<=1048576->aFy x
 | .mk k n a ks bs es,h=>by
  have e:aH (St.mk k n a ks bs es).fl=a.length+((exs ks).length+aF (exs ks))+((sts bs).length+aF (sts bs))+((sts es).length+aF (sts es)):=by simp[St.fl,aH,Fl.len] <;> omega
  exact aLa k n a ks bs es h (aDf ks (aDg ks (by rw[e]at h;omega))) (vF bs (wW bs (by rw[e]at h;omega))) (vF es (wW es (by rw[e]at h;omega)))
theorem wW:∀(l:List St),aF (sts l)<=1048576->∀e ∈ l,aFy e
 | [],_,e,h=>by simp at h
 | x :: l,hl,e,h=>by
  simp only[sts,aF]at hl
  rcases List.mem_cons.1 h with h|h
  .
   rw[h];exact aMk x V6
  .
   exact wW l V6 e h
end
end Go.Proofs.YtnelibmaancmkaaGreatDoor
