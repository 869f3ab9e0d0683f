/- A store that is refused: the memory as it was, in new memory, and the trap. -/
import Derived.Test.YtkiaglpgfgoaiaaDoorMemLoad2
import Derived.Test.YtkiaglpgfgoaiaaDoorCopyW
import Derived.Deep.Cut
namespace Go.Proofs.YtkiaglpgfgoaiaaDoor
open Go.RowKit
set_option linter.unusedVariables false
set_option linter.unusedSimpArgs false

set_option maxRecDepth 100000 in
set_option maxHeartbeats 4000000 in
theorem istoreTrap (g : Nat) (a : Option Addr) (n c : Nat) (xt : Bool) (xn xl xh xa xp xs : Int) (by_ : Int) (yt : Bool) (yn yl yh ya yp ys : Int) (p t b : Addr) (w : World) (cg : w.cell? ⟨g, 0, none⟩ = some (.slice a n c)) (hs : Sents w p t b) (hn : n ≤ 4000) (ht : trapJ n xt xn xl xh xa xp xs by_ 2 ≠ 0) :
    Calls Tryd.prog 13 #[.pointer (some ⟨g, 0, none⟩), .agg #[.bool xt, .int .i64 xn, .int .i64 xl, .int .i64 xh, .int .i64 xa, .int .i64 xp, .int .i64 xs], .int .i64 by_, .agg #[.bool yt, .int .i64 yn, .int .i64 yl, .int .i64 yh, .int .i64 ya, .int .i64 yp, .int .i64 ys]] w fun e w' => e = .returned (errV p t b (trapJ n xt xn xl xh xa xp xs by_ 2)) ∧ Below w.heap.size w w' := by
  have H := fun w h1 h2 => iplaceM g a n c xt xn xl xh xa xp xs by_ 2 p t b w h1 h2 (Or.inr rfl) hn
  have HCG : Hid _ := cg
  have HS : Hid (Sents w p t b) := hs
  have HB0 : Hid (Below w.heap.size w ((w.alloc (.cells #[.bool xt, .int .i64 xn, .int .i64 xl, .int .i64 xh, .int .i64 xa, .int .i64 xp, .int .i64 xs] 27)).alloc (.cells #[.bool yt, .int .i64 yn, .int .i64 yl, .int .i64 yh, .int .i64 ya, .int .i64 yp, .int .i64 ys] 27))) := ((Below.refl _ _).alloc (Nat.le_refl _) _).alloc (by simp) _
  obtain ⟨q, hq⟩ := errV_some p t b (k := trapJ n xt xn xl xh xa xp xs by_ 2) (by have := trapJ_range n xt xn xl xh xa xp xs by_ 2; omega)
  rw [hq]
  simp only [hq] at H
  clear hq ht cg hs
  generalize placeJ n xt xn xl xh xa xp xs by_ 2 = pl at *
  go_enter Tryd.func13, Tryd.ntmps13
  go_wp2_with fail
  refine (H _ (show ((w.alloc (.cells #[.bool xt, .int .i64 xn, .int .i64 xl, .int .i64 xh, .int .i64 xa, .int .i64 xp, .int .i64 xs] 27)).alloc (.cells #[.bool yt, .int .i64 yn, .int .i64 yl, .int .i64 yh, .int .i64 ya, .int .i64 yp, .int .i64 ys] 27)).cell? ⟨g, 0, none⟩ = _ from (HB0.out.cell (World.block_lt_of_cell? w _ HCG.out)).trans HCG.out) (HS.out.below HB0.out)).mono ?_
  rintro e w1 ⟨rfl, hb1⟩
  have hbw : Below w.heap.size w w1 := HB0.out.trans (hb1.mono HB0.out.size)
  clear H HB0 hb1
  go_wp2_with fail
  go_ret
  exact ⟨rfl, hbw⟩

/-- Four blocks behind a call: a memory's box, two words' boxes, the result. -/
theorem four_kept {w w1 wA : World} {m x0 x1 x2 x3 x4 x5 x6 y0 y1 y2 y3 y4 y5 y6 z : Value} (e : wA = (((w.alloc (.cells #[m] 25)).alloc (.cells #[x0, x1, x2, x3, x4, x5, x6] 27)).alloc (.cells #[y0, y1, y2, y3, y4, y5, y6] 27)).alloc (.cells #[z] 25)) (hb : Below wA.heap.size wA w1) :
    w1.heap[w.heap.size]? = some (.cells #[m] 25 (0, 0)) ∧ w1.heap[w.heap.size + 1]? = some (.cells #[x0, x1, x2, x3, x4, x5, x6] 27 (0, 0)) ∧ w1.heap[w.heap.size + 2]? = some (.cells #[y0, y1, y2, y3, y4, y5, y6] 27 (0, 0)) ∧ w1.heap[w.heap.size + 3]? = some (.cells #[z] 25 (0, 0)) ∧ Below w.heap.size w w1 ∧ w.heap.size + 4 ≤ w1.heap.size := by
  have hb' := hb
  rw [e] at hb'
  obtain ⟨h0, h1, h2, h3, h4⟩ := three_kept rfl (((Below.refl _ _).alloc (Nat.le_refl _) (.cells #[z] 25)).trans (hb'.mono (by simp)))
  have hs := hb.size
  have hsz : wA.heap.size = w.heap.size + 4 := by rw [e]; simp
  have h5 : wA.heap[w.heap.size + 3]? = some (.cells #[z] 25 (0, 0)) := by
    rw [e]
    have := heap_alloc_new (((w.alloc (.cells #[m] 25)).alloc (.cells #[x0, x1, x2, x3, x4, x5, x6] 27)).alloc (.cells #[y0, y1, y2, y3, y4, y5, y6] 27)) (.cells #[z] 25)
    simpa using this
  exact ⟨h0, h1, h2, (hb.block _ (by omega)).trans h5, h3, by omega⟩

set_option maxRecDepth 100000 in
set_option maxHeartbeats 4000000 in
theorem implStoreTrap (a : Option Addr) (n c : Nat) (l : List Wd) (xt : Bool) (xn xl xh xa xp xs : Int) (by_ : Int) (yt : Bool) (yn yl yh ya yp ys : Int) (p t b : Addr) (w : World) (h : WRow w a n l) (h64 : ∀ x ∈ l, In64 x.s) (hs : Sents w p t b) (hm : memB l = true) (hx : okB xt xn xl xh xa xp xs = true) (hxs : In64 xs) (hy : okB yt yn yl yh ya yp ys = true) (hys : In64 ys) (ht : trapJ n xt xn xl xh xa xp xs by_ 2 ≠ 0) :
    Calls Tryd.prog 5 #[.agg #[.slice a n c], .agg #[.bool xt, .int .i64 xn, .int .i64 xl, .int .i64 xh, .int .i64 xa, .int .i64 xp, .int .i64 xs], .int .i64 by_, .agg #[.bool yt, .int .i64 yn, .int .i64 yl, .int .i64 yh, .int .i64 ya, .int .i64 yp, .int .i64 ys]] w fun e w' => ∃ g', e = .returned (.tuple #[.agg #[.slice (some ⟨g', 0, none⟩) n n], .int .i64 (trapJ n xt xn xl xh xa xp xs by_ 2)]) ∧ Below w.heap.size w w' := by
  have hn4 := memB_len hm
  rw [h.1] at hn4
  have hB0 : Below w.heap.size w ((((w.alloc (.cells #[.slice a n c] 25)).alloc (.cells #[.bool xt, .int .i64 xn, .int .i64 xl, .int .i64 xh, .int .i64 xa, .int .i64 xp, .int .i64 xs] 27)).alloc (.cells #[.bool yt, .int .i64 yn, .int .i64 yl, .int .i64 yh, .int .i64 ya, .int .i64 yp, .int .i64 ys] 27)).alloc (.cells #[.slice none 0 0] 25)) := ((((Below.refl _ _).alloc (Nat.le_refl _) _).alloc (by simp) _).alloc (by simp; omega) _).alloc (by simp; omega) _
  obtain ⟨hm0, _, _, _, _, _⟩ := four_kept (w := w) (m := .slice a n c) (x0 := .bool xt) (x1 := .int .i64 xn) (x2 := .int .i64 xl) (x3 := .int .i64 xh) (x4 := .int .i64 xa) (x5 := .int .i64 xp) (x6 := .int .i64 xs) (y0 := .bool yt) (y1 := .int .i64 yn) (y2 := .int .i64 yl) (y3 := .int .i64 yh) (y4 := .int .i64 ya) (y5 := .int .i64 yp) (y6 := .int .i64 ys) (z := .slice none 0 0) rfl (Below.refl _ _)
  have HM := isOkM w.heap.size a n c l ((((w.alloc (.cells #[.slice a n c] 25)).alloc (.cells #[.bool xt, .int .i64 xn, .int .i64 xl, .int .i64 xh, .int .i64 xa, .int .i64 xp, .int .i64 xs] 27)).alloc (.cells #[.bool yt, .int .i64 yn, .int .i64 yl, .int .i64 yh, .int .i64 ya, .int .i64 yp, .int .i64 ys] 27)).alloc (.cells #[.slice none 0 0] 25)) hm0 (h.below hB0) h64 (by omega)
  have HX := implOkM xt xn xl xh xa xp xs hxs
  have HY := implOkM yt yn yl yh ya yp ys hys
  have HT := fun g a c w cg hs => istoreTrap g a n c xt xn xl xh xa xp xs by_ yt yn yl yh ya yp ys p t b w cg hs hn4 ht
  have HC := fun g w cg h => copiedM g a n c l w cg h (by omega)
  have Hh : Hid (WRow w a n l) := h
  have HS : Hid (Sents w p t b) := hs
  have Hj : Hid _ := trapJ_range n xt xn xl xh xa xp xs by_ 2
  rw [hm] at HM
  rw [hx] at HX
  rw [hy] at HY
  generalize trapJ n xt xn xl xh xa xp xs by_ 2 = tr at *
  clear hm hx hy hxs hys ht h hs h64 hB0 hm0
  go_enter Tryd.func5, Tryd.ntmps5
  go_wp2_with fail
  refine HM.mono ?_
  rintro e w1 ⟨rfl, hb1⟩
  obtain ⟨hm, hx, hy, hr, hb, hs1⟩ := four_kept rfl hb1
  clear hb1 HM
  obtain ⟨m0, _⟩ := one_facts hm
  obtain ⟨x0, x1, x2, x3, x4, x5, x6, _⟩ := row_facts hx
  obtain ⟨y0, y1, y2, y3, y4, y5, y6, _⟩ := row_facts hy
  have Hm : Hid _ := hm
  have Hx : Hid _ := hx
  have Hy : Hid _ := hy
  have Hr : Hid _ := hr
  have Hb : Hid _ := hb
  clear hm hx hy hr hb
  go_wp2_with fail
  refine (HX _).mono ?_
  rintro e w2 ⟨rfl, hb2⟩
  have hm := Hm.out
  have hx := Hx.out
  have hy := Hy.out
  have hr := Hr.out
  have hb := Hb.out
  clear Hm Hx Hy Hr Hb m0 x0 x1 x2 x3 x4 x5 x6 y0 y1 y2 y3 y4 y5 y6
  replace hm := (hb2.block _ (Array.getElem?_eq_some_iff.1 hm).1).trans hm
  replace hx := (hb2.block _ (Array.getElem?_eq_some_iff.1 hx).1).trans hx
  replace hy := (hb2.block _ (Array.getElem?_eq_some_iff.1 hy).1).trans hy
  replace hr := (hb2.block _ (Array.getElem?_eq_some_iff.1 hr).1).trans hr
  replace hs1 := Nat.le_trans hs1 hb2.size
  replace hb := hb.trans (hb2.mono hb.size)
  clear hb2
  obtain ⟨m0, _⟩ := one_facts hm
  obtain ⟨x0, x1, x2, x3, x4, x5, x6, _⟩ := row_facts hx
  obtain ⟨y0, y1, y2, y3, y4, y5, y6, _⟩ := row_facts hy
  have Hm : Hid _ := hm
  have Hx : Hid _ := hx
  have Hy : Hid _ := hy
  have Hr : Hid _ := hr
  have Hb : Hid _ := hb
  clear hm hx hy hr hb
  go_wp2_with fail
  refine (HY _).mono ?_
  rintro e w3 ⟨rfl, hb3⟩
  have hm := Hm.out
  have hx := Hx.out
  have hy := Hy.out
  have hr := Hr.out
  have hb := Hb.out
  clear Hm Hx Hy Hr Hb m0 x0 x1 x2 x3 x4 x5 x6 y0 y1 y2 y3 y4 y5 y6
  replace hm := (hb3.block _ (Array.getElem?_eq_some_iff.1 hm).1).trans hm
  replace hx := (hb3.block _ (Array.getElem?_eq_some_iff.1 hx).1).trans hx
  replace hy := (hb3.block _ (Array.getElem?_eq_some_iff.1 hy).1).trans hy
  replace hr := (hb3.block _ (Array.getElem?_eq_some_iff.1 hr).1).trans hr
  replace hs1 := Nat.le_trans hs1 hb3.size
  replace hb := hb.trans (hb3.mono hb.size)
  clear hb3
  obtain ⟨m0, _⟩ := one_facts hm
  obtain ⟨x0, x1, x2, x3, x4, x5, x6, _⟩ := row_facts hx
  obtain ⟨y0, y1, y2, y3, y4, y5, y6, _⟩ := row_facts hy
  have Hm : Hid _ := hm
  have Hx : Hid _ := hx
  have Hy : Hid _ := hy
  have Hr : Hid _ := hr
  have Hb : Hid _ := hb
  clear hm hx hy hr hb
  go_wp2_with fail
  refine (HC _ w3 m0 (Hh.out.below Hb.out)).mono ?_
  rintro e w4 ⟨g', rfl, hg', hW4, hb4⟩
  have hm := Hm.out
  have hx := Hx.out
  have hy := Hy.out
  have hr := Hr.out
  have hb := Hb.out
  clear Hm Hx Hy Hr Hb m0 x0 x1 x2 x3 x4 x5 x6 y0 y1 y2 y3 y4 y5 y6
  replace hm := (hb4.block _ (Array.getElem?_eq_some_iff.1 hm).1).trans hm
  replace hx := (hb4.block _ (Array.getElem?_eq_some_iff.1 hx).1).trans hx
  replace hy := (hb4.block _ (Array.getElem?_eq_some_iff.1 hy).1).trans hy
  replace hr := (hb4.block _ (Array.getElem?_eq_some_iff.1 hr).1).trans hr
  replace hs1 := Nat.le_trans hs1 hb4.size
  replace hb := hb.trans (hb4.mono hb.size)
  clear hb4
  clear HC HX HY Hh
  have Hx : Hid _ := hx
  have Hy : Hid _ := hy
  have Hr : Hid _ := hr
  have Hb : Hid _ := hb
  clear hm hx hy hr hb hW4 hg'
  go_upto_region 4 with fail
  obtain ⟨w5, e5⟩ : ∃ w5, w5 = w4.alloc (.cells #[.slice (some ⟨g', 0, none⟩) n n] 25) := ⟨_, rfl⟩
  have hb45 : Below w4.heap.size w4 w5 := by rw [e5]; exact (Below.refl _ _).alloc (Nat.le_refl _) _
  have hz := heap_alloc_new w4 (.cells #[.slice (some ⟨g', 0, none⟩) n n] 25)
  have hx := (hb45.block _ (Array.getElem?_eq_some_iff.1 Hx.out).1).trans Hx.out
  have hy := (hb45.block _ (Array.getElem?_eq_some_iff.1 Hy.out).1).trans Hy.out
  have hr := (hb45.block _ (Array.getElem?_eq_some_iff.1 Hr.out).1).trans Hr.out
  have hb := Hb.out.trans (hb45.mono Hb.out.size)
  have hgz : w.heap.size + 3 < w4.heap.size := (Array.getElem?_eq_some_iff.1 Hr.out).1
  rw [← e5] at hz ⊢
  clear e5 hb45 Hx Hy Hr Hb
  generalize w4.heap.size = gz at *
  obtain ⟨z0, _⟩ := one_facts hz
  obtain ⟨x0, x1, x2, x3, x4, x5, x6, _⟩ := row_facts hx
  obtain ⟨y0, y1, y2, y3, y4, y5, y6, _⟩ := row_facts hy
  have Hz : Hid _ := hz
  have Hr : Hid _ := hr
  have Hb : Hid _ := hb
  clear hx hy hz hr hb
  go_wp2_with fail
  refine (HT gz (some ⟨g', 0, none⟩) n w5 z0 (HS.out.below Hb.out)).mono ?_
  rintro e w6 ⟨rfl, hb6⟩
  have hz := (hb6.block _ (Array.getElem?_eq_some_iff.1 Hz.out).1).trans Hz.out
  have hr := (hb6.block _ (Array.getElem?_eq_some_iff.1 Hr.out).1).trans Hr.out
  have hb := Hb.out.trans (hb6.mono Hb.out.size)
  clear Hz Hr Hb z0 x0 x1 x2 x3 x4 x5 x6 y0 y1 y2 y3 y4 y5 y6 HT hb6
  obtain ⟨z0, _⟩ := one_facts hz
  obtain ⟨r0, f0⟩ := one_facts hr
  generalize hgb : w.heap.size = gb at *
  have Hg : Hid (w.heap.size = gb) := hgb
  have Hsn : Hid (Sents w6.drew p t b) := (HS.out.below (by rw [hgb]; exact hb)).drew
  clear hgb HS
  have hbW := heap_drew (heap_setCell_same w6 (gb + 3) 0 _ _ (.slice (some ⟨g', 0, none⟩) n n) hr)
  have hdW : Below gb w (w6.setCell ⟨gb + 3, 0, none⟩ (.slice (some ⟨g', 0, none⟩) n n)).drew := (hb.setCell (show gb ≤ gb + 3 by omega) _).drew
  have HSW : (w6.setCell ⟨gb + 3, 0, none⟩ (.slice (some ⟨g', 0, none⟩) n n)).drew.cell? ⟨gz, 0, none⟩ = some (.slice (some ⟨g', 0, none⟩) n n) := (one_facts (heap_drew ((heap_setCell_other w6 ⟨gb + 3, 0, none⟩ gz _ (by show gz ≠ gb + 3; omega)).trans hz))).1
  have HbW : Hid _ := hbW
  have HdW : Hid _ := hdW
  have HcW : Hid _ := HSW
  clear hbW hdW HSW hz hr hb
  go_wp2_with fail
  refine wp_region_held_drew (S := fun wx => wx.cell? ⟨gz, 0, none⟩ = some (.slice (some ⟨g', 0, none⟩) n n)) (by kernel_rfl) z0 (fun hHeld => ?_)
  refine wpAnyH_take (i := 0) (oi := ?o501) (v := ?v501) ?i501 (by kernel_rfl) (by kernel_rfl) (by kernel_rfl) ?q501 ?y501 (hHeld) ?r501
  case i501 => exact rfl
  case q501 => exact (fun _ _ _ h => h)
  case y501 =>
    refine Or.inl ⟨by rfl, ?_⟩
    intro w hSw
    (try dsimp only at hSw)
    go_simp
    first | done | rfl
  try simp only [Act.put, List.getElem_toArray, List.getElem_cons_zero, List.getElem_cons_succ, List.setIfInBounds_toArray, List.set_cons_zero, List.set_cons_succ]
  refine wpAnyH_take (i := 1) (oi := ?o502) (v := ?v502) ?i502 (by kernel_rfl) (by kernel_rfl) (by kernel_rfl) ?q502 ?y502 (hHeld) ?r502
  case i502 => exact rfl
  case q502 => exact (fun _ _ _ h => h)
  case y502 =>
    refine Or.inl ⟨by rfl, ?_⟩
    intro w hSw
    (try dsimp only at hSw)
    go_simp
    first | done | rfl
  try simp only [Act.put, List.getElem_toArray, List.getElem_cons_zero, List.getElem_cons_succ, List.setIfInBounds_toArray, List.set_cons_zero, List.set_cons_succ]
  refine wpAnyH_ready (rs := [2]) (by kernel_rfl) (by simp) ?_
  refine AllReadyH.cons (i := 2) (o := ?o503) ?i503 (fun K hK => ?_) AllReadyH.nil
  case i503 => exact rfl
  go_simp
  (with_reducible refine (trapM p t b tr w6.drew Hsn.out Hj.out).mono ?_)
  rintro e wq ⟨rfl, rfl⟩
  go_wp2_with fail
  refine hK.out _ _ (z0) (fun hHeld => ?_)
  clear hK K
  try simp only [Act.put, List.getElem_toArray, List.getElem_cons_zero, List.getElem_cons_succ, List.setIfInBounds_toArray, List.set_cons_zero, List.set_cons_succ]
  refine wpAnyH_ready (rs := [3]) (by kernel_rfl) (by simp) ?_
  refine AllReadyH.cons (i := 3) (o := ?o504) ?i504 (fun K hK => ?_) AllReadyH.nil
  case i504 => exact rfl
  go_simp
  refine hK.out _ _ (HcW.out) (fun hHeld => ?_)
  clear hK K
  try simp only [Act.put, List.getElem_toArray, List.getElem_cons_zero, List.getElem_cons_succ, List.setIfInBounds_toArray, List.set_cons_zero, List.set_cons_succ]
  refine wpAnyH_take (i := 4) (oi := ?o505) (v := ?v505) ?i505 (by kernel_rfl) (by kernel_rfl) (by kernel_rfl) ?q505 ?y505 (hHeld) ?r505
  case i505 => exact rfl
  case q505 => exact (fun _ _ _ h => h)
  case y505 =>
    refine Or.inl ⟨by rfl, ?_⟩
    intro w hSw
    (try dsimp only at hSw)
    go_simp
    first | done | rfl
  try simp only [Act.put, List.getElem_toArray, List.getElem_cons_zero, List.getElem_cons_succ, List.setIfInBounds_toArray, List.set_cons_zero, List.set_cons_succ]
  refine wpAnyH_done (by kernel_rfl) ?_ _
  go_wp2_with fail
  have hbW := HbW.out
  have hdW := HdW.out
  generalize (w6.setCell ⟨gb + 3, 0, none⟩ (.slice (some ⟨g', 0, none⟩) n n)).drew = W at hbW hdW ⊢
  obtain ⟨d, _⟩ := one_facts (show _ = some (Obj.cells #[.slice (some ⟨g', 0, none⟩) n n] 25 (0, 0)) from hbW)
  refine bodyPost_ret (v := .tuple #[.agg #[.slice (some ⟨g', 0, none⟩) n n], .int .i64 tr]) (by simp [results, Tryd.results5, go_sem, d]) rfl ⟨g', rfl, by rw [Hg.out]; exact hdW⟩
end Go.Proofs.YtkiaglpgfgoaiaaDoor
