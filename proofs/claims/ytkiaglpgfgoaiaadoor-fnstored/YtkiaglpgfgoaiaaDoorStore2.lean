/- Store, by the specification and by the program. -/
import Derived.Test.YtkiaglpgfgoaiaaDoorStoreImpl
import Derived.Deep.Cut
namespace Go.Proofs.YtkiaglpgfgoaiaaDoor
open Go.RowKit
set_option linter.unusedVariables false
set_option linter.unusedSimpArgs false

theorem perm_of (yt : Bool) (yn yl yh ya yp ys : Int) (h : okB yt yn yl yh ya yp ys = true) (ht : yt = true) : 0 ≤ yp ∧ yp ≤ 31 := by
  subst ht
  rw [okB, Bool.or_eq_true, Bool.or_eq_true] at h
  rcases h with h | h | h
  · simp [isIntB] at h
  · simp [entryB] at h; omega
  · simp [wayB, inR] at h; omega

theorem storeJ_range (n : Nat) (xt : Bool) (xn xl xh xa xp xs : Int) (by_ : Int) (yt : Bool) (yp : Int) : storeJ n xt xn xl xh xa xp xs by_ yt yp = 0 ∨ storeJ n xt xn xl xh xa xp xs by_ yt yp = 1 ∨ storeJ n xt xn xl xh xa xp xs by_ yt yp = 2 ∨ storeJ n xt xn xl xh xa xp xs by_ yt yp = 3 := by
  rw [storeJ]
  have := trapJ_range n xt xn xl xh xa xp xs by_ 2
  cases (trapJ n xt xn xl xh xa xp xs by_ 2 == 0)
  · exact this
  · cases barB xp yt yp <;> simp

theorem store_same (l : List Wd) (xt : Bool) (xn xl xh xa xp xs : Int) (by_ : Int) (y : Wd) (h : okB xt xn xl xh xa xp xs = true) : storeJ l.length xt xn xl xh xa xp xs by_ y.t y.p = storeT l.length xt xn xl xh xa xp xs by_ y.t y.p ∧ storeK l xt xn xl xh xa xp xs by_ y = storeL l xt xn xl xh xa xp xs by_ y := by
  have e : trapJ l.length xt xn xl xh xa xp xs by_ 2 = trapV l.length xt xn xl xh xa xp xs by_ 2 := by
    rw [trapJ]
    cases hd : (xt && (xs == 0))
    · have hw : wayB xt xn xl xh xa xp xs = false := by rw [← way_iff, h, hd]; rfl
      rw [hw, trapV, hd]; rfl
    · rw [way_ok xt xn xl xh xa xp xs h hd]; rfl
  have e1 : storeJ l.length xt xn xl xh xa xp xs by_ y.t y.p = storeT l.length xt xn xl xh xa xp xs by_ y.t y.p := by rw [storeJ, storeT, e]
  exact ⟨e1, by rw [storeK, storeL, e1]⟩

set_option maxRecDepth 100000 in
set_option maxHeartbeats 4000000 in
theorem implStoreNo (a : Option Addr) (n c : Nat) (l : List Wd) (xt : Bool) (xn xl xh xa xp xs : Int) (by_ : Int) (yt : Bool) (yn yl yh ya yp ys : Int) (w : World) (h : WRow w a n l) (hn : n ≤ 1048576) (h64 : ∀ x ∈ l, In64 x.s) (hxs : In64 xs) (hys : In64 ys) (hc : (memB l && (okB xt xn xl xh xa xp xs && okB yt yn yl yh ya yp ys)) = false) :
    Calls Tryd.prog 5 #[.agg #[.slice a n c], .agg #[.bool xt, .int .i64 xn, .int .i64 xl, .int .i64 xh, .int .i64 xa, .int .i64 xp, .int .i64 xs], .int .i64 by_, .agg #[.bool yt, .int .i64 yn, .int .i64 yl, .int .i64 yh, .int .i64 ya, .int .i64 yp, .int .i64 ys]] w fun e w' => e = .returned (.tuple #[.agg #[.slice none 0 0], .int .i64 1]) ∧ Below w.heap.size w w' := by
  have hB0 : Below w.heap.size w ((((w.alloc (.cells #[.slice a n c] 25)).alloc (.cells #[.bool xt, .int .i64 xn, .int .i64 xl, .int .i64 xh, .int .i64 xa, .int .i64 xp, .int .i64 xs] 27)).alloc (.cells #[.bool yt, .int .i64 yn, .int .i64 yl, .int .i64 yh, .int .i64 ya, .int .i64 yp, .int .i64 ys] 27)).alloc (.cells #[.slice none 0 0] 25)) := ((((Below.refl _ _).alloc (Nat.le_refl _) _).alloc (by simp) _).alloc (by simp; omega) _).alloc (by simp; omega) _
  obtain ⟨hm0, _, _, _, _, _⟩ := four_kept (w := w) (m := .slice a n c) (x0 := .bool xt) (x1 := .int .i64 xn) (x2 := .int .i64 xl) (x3 := .int .i64 xh) (x4 := .int .i64 xa) (x5 := .int .i64 xp) (x6 := .int .i64 xs) (y0 := .bool yt) (y1 := .int .i64 yn) (y2 := .int .i64 yl) (y3 := .int .i64 yh) (y4 := .int .i64 ya) (y5 := .int .i64 yp) (y6 := .int .i64 ys) (z := .slice none 0 0) rfl (Below.refl _ _)
  have HM := isOkM w.heap.size a n c l ((((w.alloc (.cells #[.slice a n c] 25)).alloc (.cells #[.bool xt, .int .i64 xn, .int .i64 xl, .int .i64 xh, .int .i64 xa, .int .i64 xp, .int .i64 xs] 27)).alloc (.cells #[.bool yt, .int .i64 yn, .int .i64 yl, .int .i64 yh, .int .i64 ya, .int .i64 yp, .int .i64 ys] 27)).alloc (.cells #[.slice none 0 0] 25)) hm0 (h.below hB0) h64 hn
  have HX := implOkM xt xn xl xh xa xp xs hxs
  have HY := implOkM yt yn yl yh ya yp ys hys
  cases hmb : memB l
  · rw [hmb] at HM
    clear h hB0 hc hmb HX HY h64 hxs hys hm0
    go_enter Tryd.func5, Tryd.ntmps5
    go_wp2_with fail
    refine HM.mono ?_
    rintro e w1 ⟨rfl, hb1⟩
    obtain ⟨hm, hx, hy, hr, hb, hs1⟩ := four_kept rfl hb1
    clear hb1 HM
    obtain ⟨z0, f0⟩ := one_facts hr
    have hbW := heap_setCell_same w1 (w.heap.size + 3) 0 _ _ (.slice none 0 0) hr
    have hdW : Below w.heap.size w (w1.setCell ⟨w.heap.size + 3, 0, none⟩ (.slice none 0 0)) := hb.setCell (show w.heap.size ≤ w.heap.size + 3 by omega) _
    have HbW : Hid _ := hbW
    have HdW : Hid _ := hdW
    clear hbW hdW hm hx hy hr hb
    go_wp2_with fail
    have hbW := HbW.out
    have hdW := HdW.out
    generalize w1.setCell ⟨w.heap.size + 3, 0, none⟩ (.slice none 0 0) = W at hbW hdW ⊢
    obtain ⟨d, _⟩ := one_facts (show _ = some (Obj.cells #[.slice none 0 0] 25 (0, 0)) from hbW)
    refine bodyPost_ret (v := .tuple #[.agg #[.slice none 0 0], .int .i64 1]) (by simp [results, Tryd.results5, go_sem, d]) rfl ⟨rfl, hdW⟩
  · rw [hmb] at HM
    cases hxb : okB xt xn xl xh xa xp xs
    · rw [hxb] at HX
      clear h hB0 hc hmb hxb HY h64 hxs hys hm0
      go_enter Tryd.func5, Tryd.ntmps5
      go_wp2_with fail
      refine HM.mono ?_
      rintro e w1 ⟨rfl, hb1⟩
      obtain ⟨hm, hx, hy, hr, hb, hs1⟩ := four_kept rfl hb1
      clear hb1 HM
      obtain ⟨m0, _⟩ := one_facts hm
      obtain ⟨x0, x1, x2, x3, x4, x5, x6, _⟩ := row_facts hx
      obtain ⟨y0, y1, y2, y3, y4, y5, y6, _⟩ := row_facts hy
      have Hm : Hid _ := hm
      have Hx : Hid _ := hx
      have Hy : Hid _ := hy
      have Hr : Hid _ := hr
      have Hb : Hid _ := hb
      clear hm hx hy hr hb
      go_wp2_with fail
      refine (HX _).mono ?_
      rintro e w2 ⟨rfl, hb2⟩
      have hm := Hm.out
      have hx := Hx.out
      have hy := Hy.out
      have hr := Hr.out
      have hb := Hb.out
      clear Hm Hx Hy Hr Hb m0 x0 x1 x2 x3 x4 x5 x6 y0 y1 y2 y3 y4 y5 y6
      replace hm := (hb2.block _ (Array.getElem?_eq_some_iff.1 hm).1).trans hm
      replace hx := (hb2.block _ (Array.getElem?_eq_some_iff.1 hx).1).trans hx
      replace hy := (hb2.block _ (Array.getElem?_eq_some_iff.1 hy).1).trans hy
      replace hr := (hb2.block _ (Array.getElem?_eq_some_iff.1 hr).1).trans hr
      replace hs1 := Nat.le_trans hs1 hb2.size
      replace hb := hb.trans (hb2.mono hb.size)
      clear hb2
      clear HX
      obtain ⟨z0, f0⟩ := one_facts hr
      have hbW := heap_setCell_same w2 (w.heap.size + 3) 0 _ _ (.slice none 0 0) hr
      have hdW : Below w.heap.size w (w2.setCell ⟨w.heap.size + 3, 0, none⟩ (.slice none 0 0)) := hb.setCell (show w.heap.size ≤ w.heap.size + 3 by omega) _
      have HbW : Hid _ := hbW
      have HdW : Hid _ := hdW
      clear hbW hdW hm hx hy hr hb
      go_wp2_with fail
      have hbW := HbW.out
      have hdW := HdW.out
      generalize w2.setCell ⟨w.heap.size + 3, 0, none⟩ (.slice none 0 0) = W at hbW hdW ⊢
      obtain ⟨d, _⟩ := one_facts (show _ = some (Obj.cells #[.slice none 0 0] 25 (0, 0)) from hbW)
      refine bodyPost_ret (v := .tuple #[.agg #[.slice none 0 0], .int .i64 1]) (by simp [results, Tryd.results5, go_sem, d]) rfl ⟨rfl, hdW⟩
    · have hyb : okB yt yn yl yh ya yp ys = false := by rw [hmb, hxb] at hc; simpa using hc
      rw [hxb] at HX
      rw [hyb] at HY
      clear h hB0 hc hmb hxb hyb h64 hxs hys hm0
      go_enter Tryd.func5, Tryd.ntmps5
      go_wp2_with fail
      refine HM.mono ?_
      rintro e w1 ⟨rfl, hb1⟩
      obtain ⟨hm, hx, hy, hr, hb, hs1⟩ := four_kept rfl hb1
      clear hb1 HM
      obtain ⟨m0, _⟩ := one_facts hm
      obtain ⟨x0, x1, x2, x3, x4, x5, x6, _⟩ := row_facts hx
      obtain ⟨y0, y1, y2, y3, y4, y5, y6, _⟩ := row_facts hy
      have Hm : Hid _ := hm
      have Hx : Hid _ := hx
      have Hy : Hid _ := hy
      have Hr : Hid _ := hr
      have Hb : Hid _ := hb
      clear hm hx hy hr hb
      go_wp2_with fail
      refine (HX _).mono ?_
      rintro e w2 ⟨rfl, hb2⟩
      have hm := Hm.out
      have hx := Hx.out
      have hy := Hy.out
      have hr := Hr.out
      have hb := Hb.out
      clear Hm Hx Hy Hr Hb m0 x0 x1 x2 x3 x4 x5 x6 y0 y1 y2 y3 y4 y5 y6
      replace hm := (hb2.block _ (Array.getElem?_eq_some_iff.1 hm).1).trans hm
      replace hx := (hb2.block _ (Array.getElem?_eq_some_iff.1 hx).1).trans hx
      replace hy := (hb2.block _ (Array.getElem?_eq_some_iff.1 hy).1).trans hy
      replace hr := (hb2.block _ (Array.getElem?_eq_some_iff.1 hr).1).trans hr
      replace hs1 := Nat.le_trans hs1 hb2.size
      replace hb := hb.trans (hb2.mono hb.size)
      clear hb2
      obtain ⟨m0, _⟩ := one_facts hm
      obtain ⟨x0, x1, x2, x3, x4, x5, x6, _⟩ := row_facts hx
      obtain ⟨y0, y1, y2, y3, y4, y5, y6, _⟩ := row_facts hy
      have Hm : Hid _ := hm
      have Hx : Hid _ := hx
      have Hy : Hid _ := hy
      have Hr : Hid _ := hr
      have Hb : Hid _ := hb
      clear hm hx hy hr hb
      go_wp2_with fail
      refine (HY _).mono ?_
      rintro e w3 ⟨rfl, hb3⟩
      have hm := Hm.out
      have hx := Hx.out
      have hy := Hy.out
      have hr := Hr.out
      have hb := Hb.out
      clear Hm Hx Hy Hr Hb m0 x0 x1 x2 x3 x4 x5 x6 y0 y1 y2 y3 y4 y5 y6
      replace hm := (hb3.block _ (Array.getElem?_eq_some_iff.1 hm).1).trans hm
      replace hx := (hb3.block _ (Array.getElem?_eq_some_iff.1 hx).1).trans hx
      replace hy := (hb3.block _ (Array.getElem?_eq_some_iff.1 hy).1).trans hy
      replace hr := (hb3.block _ (Array.getElem?_eq_some_iff.1 hr).1).trans hr
      replace hs1 := Nat.le_trans hs1 hb3.size
      replace hb := hb.trans (hb3.mono hb.size)
      clear hb3
      clear HX HY
      obtain ⟨z0, f0⟩ := one_facts hr
      have hbW := heap_setCell_same w3 (w.heap.size + 3) 0 _ _ (.slice none 0 0) hr
      have hdW : Below w.heap.size w (w3.setCell ⟨w.heap.size + 3, 0, none⟩ (.slice none 0 0)) := hb.setCell (show w.heap.size ≤ w.heap.size + 3 by omega) _
      have HbW : Hid _ := hbW
      have HdW : Hid _ := hdW
      clear hbW hdW hm hx hy hr hb
      go_wp2_with fail
      have hbW := HbW.out
      have hdW := HdW.out
      generalize w3.setCell ⟨w.heap.size + 3, 0, none⟩ (.slice none 0 0) = W at hbW hdW ⊢
      obtain ⟨d, _⟩ := one_facts (show _ = some (Obj.cells #[.slice none 0 0] 25 (0, 0)) from hbW)
      refine bodyPost_ret (v := .tuple #[.agg #[.slice none 0 0], .int .i64 1]) (by simp [results, Tryd.results5, go_sem, d]) rfl ⟨rfl, hdW⟩

set_option maxRecDepth 100000 in
set_option maxHeartbeats 4000000 in
theorem implStoreYes (a : Option Addr) (n c : Nat) (l : List Wd) (xt : Bool) (xn xl xh xa xp xs : Int) (by_ : Int) (yt : Bool) (yn yl yh ya yp ys : Int) (w : World) (h : WRow w a n l) (hn : n ≤ 1048576) (h64 : ∀ x ∈ l, In64 x.s) (hxs : In64 xs) (hys : In64 ys) (p t b : Addr) (hs : Sents w p t b) (hmb : memB l = true) (hxb : okB xt xn xl xh xa xp xs = true) (hyb : okB yt yn yl yh ya yp ys = true) :
    Calls Tryd.prog 5 #[.agg #[.slice a n c], .agg #[.bool xt, .int .i64 xn, .int .i64 xl, .int .i64 xh, .int .i64 xa, .int .i64 xp, .int .i64 xs], .int .i64 by_, .agg #[.bool yt, .int .i64 yn, .int .i64 yl, .int .i64 yh, .int .i64 ya, .int .i64 yp, .int .i64 ys]] w fun e w' => ∃ g', e = .returned (.tuple #[.agg #[.slice (some ⟨g', 0, none⟩) n n], .int .i64 (storeJ n xt xn xl xh xa xp xs by_ yt yp)]) ∧ w.heap.size ≤ g' ∧ WB w' g' (storeK l xt xn xl xh xa xp xs by_ ⟨yt, yn, yl, yh, ya, yp, ys⟩) ∧ Below w.heap.size w w' := by
  have hB0 : Below w.heap.size w ((((w.alloc (.cells #[.slice a n c] 25)).alloc (.cells #[.bool xt, .int .i64 xn, .int .i64 xl, .int .i64 xh, .int .i64 xa, .int .i64 xp, .int .i64 xs] 27)).alloc (.cells #[.bool yt, .int .i64 yn, .int .i64 yl, .int .i64 yh, .int .i64 ya, .int .i64 yp, .int .i64 ys] 27)).alloc (.cells #[.slice none 0 0] 25)) := ((((Below.refl _ _).alloc (Nat.le_refl _) _).alloc (by simp) _).alloc (by simp; omega) _).alloc (by simp; omega) _
  have hn4 := memB_len hmb
  rw [h.1] at hn4
  obtain ⟨hm0, _, _, _, _, _⟩ := four_kept (w := w) (m := .slice a n c) (x0 := .bool xt) (x1 := .int .i64 xn) (x2 := .int .i64 xl) (x3 := .int .i64 xh) (x4 := .int .i64 xa) (x5 := .int .i64 xp) (x6 := .int .i64 xs) (y0 := .bool yt) (y1 := .int .i64 yn) (y2 := .int .i64 yl) (y3 := .int .i64 yh) (y4 := .int .i64 ya) (y5 := .int .i64 yp) (y6 := .int .i64 ys) (z := .slice none 0 0) rfl (Below.refl _ _)
  have HM := isOkM w.heap.size a n c l ((((w.alloc (.cells #[.slice a n c] 25)).alloc (.cells #[.bool xt, .int .i64 xn, .int .i64 xl, .int .i64 xh, .int .i64 xa, .int .i64 xp, .int .i64 xs] 27)).alloc (.cells #[.bool yt, .int .i64 yn, .int .i64 yl, .int .i64 yh, .int .i64 ya, .int .i64 yp, .int .i64 ys] 27)).alloc (.cells #[.slice none 0 0] 25)) hm0 (h.below hB0) h64 hn
  have HX := implOkM xt xn xl xh xa xp xs hxs
  have HY := implOkM yt yn yl yh ya yp ys hys
  have hyp : yt = true → 0 ≤ yp ∧ yp ≤ 31 := perm_of yt yn yl yh ya yp ys hyb
  have Hl0 : l.length = n := h.1
  have HT := fun g0 g w cg h hs hgg => istoreM g0 g n l xt xn xl xh xa xp xs by_ yt yn yl yh ya yp ys p t b w cg h Hl0 hs hn4 hyp hgg
  have HC := fun g w cg h => copiedM g a n c l w cg h (by omega)
  have Hh : Hid (WRow w a n l) := h
  have HS : Hid (Sents w p t b) := hs
  have Hj : Hid _ := storeJ_range n xt xn xl xh xa xp xs by_ yt yp
  rw [hmb] at HM
  rw [hxb] at HX
  rw [hyb] at HY
  generalize storeJ n xt xn xl xh xa xp xs by_ yt yp = tr at *
  generalize storeK l xt xn xl xh xa xp xs by_ ⟨yt, yn, yl, yh, ya, yp, ys⟩ = lk at *
  clear hmb hxb hyb hxs hys h hs h64 hB0 hm0 hyp Hl0
  go_enter Tryd.func5, Tryd.ntmps5
  go_wp2_with fail
  refine HM.mono ?_
  rintro e w1 ⟨rfl, hb1⟩
  obtain ⟨hm, hx, hy, hr, hb, hs1⟩ := four_kept rfl hb1
  clear hb1 HM
  obtain ⟨m0, _⟩ := one_facts hm
  obtain ⟨x0, x1, x2, x3, x4, x5, x6, _⟩ := row_facts hx
  obtain ⟨y0, y1, y2, y3, y4, y5, y6, _⟩ := row_facts hy
  have Hm : Hid _ := hm
  have Hx : Hid _ := hx
  have Hy : Hid _ := hy
  have Hr : Hid _ := hr
  have Hb : Hid _ := hb
  clear hm hx hy hr hb
  go_wp2_with fail
  refine (HX _).mono ?_
  rintro e w2 ⟨rfl, hb2⟩
  have hm := Hm.out
  have hx := Hx.out
  have hy := Hy.out
  have hr := Hr.out
  have hb := Hb.out
  clear Hm Hx Hy Hr Hb m0 x0 x1 x2 x3 x4 x5 x6 y0 y1 y2 y3 y4 y5 y6
  replace hm := (hb2.block _ (Array.getElem?_eq_some_iff.1 hm).1).trans hm
  replace hx := (hb2.block _ (Array.getElem?_eq_some_iff.1 hx).1).trans hx
  replace hy := (hb2.block _ (Array.getElem?_eq_some_iff.1 hy).1).trans hy
  replace hr := (hb2.block _ (Array.getElem?_eq_some_iff.1 hr).1).trans hr
  replace hs1 := Nat.le_trans hs1 hb2.size
  replace hb := hb.trans (hb2.mono hb.size)
  clear hb2
  obtain ⟨m0, _⟩ := one_facts hm
  obtain ⟨x0, x1, x2, x3, x4, x5, x6, _⟩ := row_facts hx
  obtain ⟨y0, y1, y2, y3, y4, y5, y6, _⟩ := row_facts hy
  have Hm : Hid _ := hm
  have Hx : Hid _ := hx
  have Hy : Hid _ := hy
  have Hr : Hid _ := hr
  have Hb : Hid _ := hb
  clear hm hx hy hr hb
  go_wp2_with fail
  refine (HY _).mono ?_
  rintro e w3 ⟨rfl, hb3⟩
  have hm := Hm.out
  have hx := Hx.out
  have hy := Hy.out
  have hr := Hr.out
  have hb := Hb.out
  clear Hm Hx Hy Hr Hb m0 x0 x1 x2 x3 x4 x5 x6 y0 y1 y2 y3 y4 y5 y6
  replace hm := (hb3.block _ (Array.getElem?_eq_some_iff.1 hm).1).trans hm
  replace hx := (hb3.block _ (Array.getElem?_eq_some_iff.1 hx).1).trans hx
  replace hy := (hb3.block _ (Array.getElem?_eq_some_iff.1 hy).1).trans hy
  replace hr := (hb3.block _ (Array.getElem?_eq_some_iff.1 hr).1).trans hr
  replace hs1 := Nat.le_trans hs1 hb3.size
  replace hb := hb.trans (hb3.mono hb.size)
  clear hb3
  obtain ⟨m0, _⟩ := one_facts hm
  obtain ⟨x0, x1, x2, x3, x4, x5, x6, _⟩ := row_facts hx
  obtain ⟨y0, y1, y2, y3, y4, y5, y6, _⟩ := row_facts hy
  have Hm : Hid _ := hm
  have Hx : Hid _ := hx
  have Hy : Hid _ := hy
  have Hr : Hid _ := hr
  have Hb : Hid _ := hb
  clear hm hx hy hr hb
  go_wp2_with fail
  refine (HC _ w3 m0 (Hh.out.below Hb.out)).mono ?_
  rintro e w4 ⟨g', rfl, hg', hW4, hb4⟩
  have hs3 := hs1
  have hm := Hm.out
  have hx := Hx.out
  have hy := Hy.out
  have hr := Hr.out
  have hb := Hb.out
  clear Hm Hx Hy Hr Hb m0 x0 x1 x2 x3 x4 x5 x6 y0 y1 y2 y3 y4 y5 y6
  replace hm := (hb4.block _ (Array.getElem?_eq_some_iff.1 hm).1).trans hm
  replace hx := (hb4.block _ (Array.getElem?_eq_some_iff.1 hx).1).trans hx
  replace hy := (hb4.block _ (Array.getElem?_eq_some_iff.1 hy).1).trans hy
  replace hr := (hb4.block _ (Array.getElem?_eq_some_iff.1 hr).1).trans hr
  replace hs1 := Nat.le_trans hs1 hb4.size
  replace hb := hb.trans (hb4.mono hb.size)
  clear hb4
  clear HC HX HY Hh
  have Hx : Hid _ := hx
  have Hy : Hid _ := hy
  have Hr : Hid _ := hr
  have Hb : Hid _ := hb
  have HW4 : Hid (WB w4 g' l) := hW4
  clear hm hx hy hr hb hW4
  go_upto_region 4 with fail
  obtain ⟨w5, e5⟩ : ∃ w5, w5 = w4.alloc (.cells #[.slice (some ⟨g', 0, none⟩) n n] 25) := ⟨_, rfl⟩
  have hb45 : Below w4.heap.size w4 w5 := by rw [e5]; exact (Below.refl _ _).alloc (Nat.le_refl _) _
  have hz := heap_alloc_new w4 (.cells #[.slice (some ⟨g', 0, none⟩) n n] 25)
  have hx := (hb45.block _ (Array.getElem?_eq_some_iff.1 Hx.out).1).trans Hx.out
  have hy := (hb45.block _ (Array.getElem?_eq_some_iff.1 Hy.out).1).trans Hy.out
  have hr := (hb45.block _ (Array.getElem?_eq_some_iff.1 Hr.out).1).trans Hr.out
  have hb := Hb.out.trans (hb45.mono Hb.out.size)
  have hgz : w.heap.size + 3 < w4.heap.size := (Array.getElem?_eq_some_iff.1 Hr.out).1
  have hgl : g' < w4.heap.size := (Array.getElem?_eq_some_iff.1 HW4.out).1
  have hgs : w.heap.size + 4 ≤ g' := Nat.le_trans hs3 hg'
  have hW5 : WB w5 g' l := WB.below HW4.out hb45 (Array.getElem?_eq_some_iff.1 HW4.out).1
  rw [← e5] at hz ⊢
  clear e5 hb45 Hx Hy Hr Hb HW4
  generalize w4.heap.size = gz at *
  obtain ⟨z0, _⟩ := one_facts hz
  obtain ⟨x0, x1, x2, x3, x4, x5, x6, _⟩ := row_facts hx
  obtain ⟨y0, y1, y2, y3, y4, y5, y6, _⟩ := row_facts hy
  have Hz : Hid _ := hz
  have Hr : Hid _ := hr
  have Hb : Hid _ := hb
  have HW5 : Hid (WB w5 g' l) := hW5
  clear hx hy hz hr hb hW5
  go_wp2_with fail
  refine (HT gz g' w5 z0 HW5.out (HS.out.below Hb.out) (by omega)).mono ?_
  rintro e w6 ⟨rfl, hW6, hbut⟩
  have hz := (hbut.rest gz (Array.getElem?_eq_some_iff.1 Hz.out).1 (by omega)).trans Hz.out
  have hr := (hbut.rest (w.heap.size + 3) (Array.getElem?_eq_some_iff.1 Hr.out).1 (by omega)).trans Hr.out
  have hb := Hb.out.trans (hbut.below.mono (show w.heap.size ≤ g' by omega))
  clear Hz Hr Hb z0 x0 x1 x2 x3 x4 x5 x6 y0 y1 y2 y3 y4 y5 y6 HT hbut HW5
  obtain ⟨z0, _⟩ := one_facts hz
  obtain ⟨r0, f0⟩ := one_facts hr
  generalize hgb : w.heap.size = gb at *
  have Hg : Hid (w.heap.size = gb) := hgb
  have Hsn : Hid (Sents w6.drew p t b) := (HS.out.below (by rw [hgb]; exact hb)).drew
  clear hgb HS
  have hbW := heap_drew (heap_setCell_same w6 (gb + 3) 0 _ _ (.slice (some ⟨g', 0, none⟩) n n) hr)
  have hdW : Below gb w (w6.setCell ⟨gb + 3, 0, none⟩ (.slice (some ⟨g', 0, none⟩) n n)).drew := (hb.setCell (show gb ≤ gb + 3 by omega) _).drew
  have hWW : WB (w6.setCell ⟨gb + 3, 0, none⟩ (.slice (some ⟨g', 0, none⟩) n n)).drew g' lk := WB.drew' (WB.other hW6 (show g' ≠ gb + 3 by omega))
  have HSW : (w6.setCell ⟨gb + 3, 0, none⟩ (.slice (some ⟨g', 0, none⟩) n n)).drew.cell? ⟨gz, 0, none⟩ = some (.slice (some ⟨g', 0, none⟩) n n) := (one_facts (heap_drew ((heap_setCell_other w6 ⟨gb + 3, 0, none⟩ gz _ (by show gz ≠ gb + 3; omega)).trans hz))).1
  have HbW : Hid _ := hbW
  have HdW : Hid _ := hdW
  have HcW : Hid _ := HSW
  have HWW : Hid (WB (w6.setCell ⟨gb + 3, 0, none⟩ (.slice (some ⟨g', 0, none⟩) n n)).drew g' lk) := hWW
  clear hbW hdW HSW hz hr hb hWW hW6
  go_wp2_with fail
  refine wp_region_held_drew (S := fun wx => wx.cell? ⟨gz, 0, none⟩ = some (.slice (some ⟨g', 0, none⟩) n n)) (by kernel_rfl) z0 (fun hHeld => ?_)
  refine wpAnyH_take (i := 0) (oi := ?o510) (v := ?v510) ?i510 (by kernel_rfl) (by kernel_rfl) (by kernel_rfl) ?q510 ?y510 (hHeld) ?r510
  case i510 => exact rfl
  case q510 => exact (fun _ _ _ h => h)
  case y510 =>
    refine Or.inl ⟨by rfl, ?_⟩
    intro w hSw
    (try dsimp only at hSw)
    go_simp
    first | done | rfl
  try simp only [Act.put, List.getElem_toArray, List.getElem_cons_zero, List.getElem_cons_succ, List.setIfInBounds_toArray, List.set_cons_zero, List.set_cons_succ]
  refine wpAnyH_take (i := 1) (oi := ?o511) (v := ?v511) ?i511 (by kernel_rfl) (by kernel_rfl) (by kernel_rfl) ?q511 ?y511 (hHeld) ?r511
  case i511 => exact rfl
  case q511 => exact (fun _ _ _ h => h)
  case y511 =>
    refine Or.inl ⟨by rfl, ?_⟩
    intro w hSw
    (try dsimp only at hSw)
    go_simp
    first | done | rfl
  try simp only [Act.put, List.getElem_toArray, List.getElem_cons_zero, List.getElem_cons_succ, List.setIfInBounds_toArray, List.set_cons_zero, List.set_cons_succ]
  refine wpAnyH_ready (rs := [2]) (by kernel_rfl) (by simp) ?_
  refine AllReadyH.cons (i := 2) (o := ?o512) ?i512 (fun K hK => ?_) AllReadyH.nil
  case i512 => exact rfl
  go_simp
  (with_reducible refine (trapM p t b tr w6.drew Hsn.out Hj.out).mono ?_)
  rintro e wq ⟨rfl, rfl⟩
  go_wp2_with fail
  refine hK.out _ _ (z0) (fun hHeld => ?_)
  clear hK K
  try simp only [Act.put, List.getElem_toArray, List.getElem_cons_zero, List.getElem_cons_succ, List.setIfInBounds_toArray, List.set_cons_zero, List.set_cons_succ]
  refine wpAnyH_ready (rs := [3]) (by kernel_rfl) (by simp) ?_
  refine AllReadyH.cons (i := 3) (o := ?o513) ?i513 (fun K hK => ?_) AllReadyH.nil
  case i513 => exact rfl
  go_simp
  refine hK.out _ _ (HcW.out) (fun hHeld => ?_)
  clear hK K
  try simp only [Act.put, List.getElem_toArray, List.getElem_cons_zero, List.getElem_cons_succ, List.setIfInBounds_toArray, List.set_cons_zero, List.set_cons_succ]
  refine wpAnyH_take (i := 4) (oi := ?o514) (v := ?v514) ?i514 (by kernel_rfl) (by kernel_rfl) (by kernel_rfl) ?q514 ?y514 (hHeld) ?r514
  case i514 => exact rfl
  case q514 => exact (fun _ _ _ h => h)
  case y514 =>
    refine Or.inl ⟨by rfl, ?_⟩
    intro w hSw
    (try dsimp only at hSw)
    go_simp
    first | done | rfl
  try simp only [Act.put, List.getElem_toArray, List.getElem_cons_zero, List.getElem_cons_succ, List.setIfInBounds_toArray, List.set_cons_zero, List.set_cons_succ]
  refine wpAnyH_done (by kernel_rfl) ?_ _
  go_wp2_with fail
  have hbW := HbW.out
  have hdW := HdW.out
  have hWW := HWW.out
  generalize (w6.setCell ⟨gb + 3, 0, none⟩ (.slice (some ⟨g', 0, none⟩) n n)).drew = W at hbW hdW hWW ⊢
  obtain ⟨d, _⟩ := one_facts (show _ = some (Obj.cells #[.slice (some ⟨g', 0, none⟩) n n] 25 (0, 0)) from hbW)
  refine bodyPost_ret (v := .tuple #[.agg #[.slice (some ⟨g', 0, none⟩) n n], .int .i64 tr]) (by simp [results, Tryd.results5, go_sem, d]) rfl ⟨g', rfl, by rw [Hg.out]; omega, hWW, by rw [Hg.out]; exact hdW⟩
end Go.Proofs.YtkiaglpgfgoaiaaDoor
