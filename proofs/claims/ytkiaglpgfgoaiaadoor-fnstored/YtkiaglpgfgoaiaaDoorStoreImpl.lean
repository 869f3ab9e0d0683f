/- A store, by the program. -/
import Derived.Test.YtkiaglpgfgoaiaaDoorStoreSpec
import Derived.Test.YtkiaglpgfgoaiaaDoorStoreTrap
import Derived.Deep.Cut
namespace Go.Proofs.YtkiaglpgfgoaiaaDoor
open Go.RowKit
set_option linter.unusedVariables false
set_option linter.unusedSimpArgs false

theorem But.of_below {w w1 : World} {g : Nat} (hb : Below w.heap.size w w1) (hg : g ≤ w.heap.size) : But w w1 g := ⟨hb.mono hg, fun k hk _ => hb.block k hk⟩
theorem But.next {w w1 w2 : World} {g : Nat} (h : But w w1 g) (hb : Below w1.heap.size w1 w2) (hg : g ≤ w1.heap.size := by omega) : But w w2 g :=
  ⟨h.below.trans (hb.mono hg), fun k hk hne => (hb.block k (Nat.lt_of_lt_of_le hk h.below.size)).trans (h.rest k hk hne)⟩
theorem But.drew {w w1 : World} {g : Nat} (h : But w w1 g) : But w w1.drew g := ⟨h.below.drew, h.rest⟩
theorem WB.drew' {w : World} {g : Nat} {l : List Wd} (h : WB w g l) : WB w.drew g l := heap_drew h
theorem cell_same {w w' : World} {k : Nat} (h : w'.heap[k]? = w.heap[k]?) (j : Nat) : w'.cell? ⟨k, j, none⟩ = w.cell? ⟨k, j, none⟩ := by simp [World.cell?, h]
theorem and7 {p0 p1 p2 p3 p4 p5 p6 q : Prop} (h : p0 ∧ p1 ∧ p2 ∧ p3 ∧ p4 ∧ p5 ∧ p6) (hq : q) : p0 ∧ p1 ∧ p2 ∧ p3 ∧ p4 ∧ p5 ∧ p6 ∧ q := ⟨h.1, h.2.1, h.2.2.1, h.2.2.2.1, h.2.2.2.2.1, h.2.2.2.2.2.1, h.2.2.2.2.2.2, hq⟩

theorem may12 (p : Int) (h0 : 0 ≤ p) (h1 : p ≤ 31) : (bits .andNot .i64 12 p == 0) = (!(bits .and .i64 p 4 == 0) && !(bits .and .i64 p 8 == 0)) := by
  obtain ⟨k, rfl⟩ := Int.eq_ofNat_of_zero_le h0
  have hk : k < 32 := by omega
  clear h0 h1
  have hall : ∀ k : Fin 32, (bits .andNot .i64 12 ((k.val : Nat) : Int) == 0) = (!(bits .and .i64 ((k.val : Nat) : Int) 4 == 0) && !(bits .and .i64 ((k.val : Nat) : Int) 8 == 0)) := by decide
  exact hall ⟨k, hk⟩
theorem may16 (p : Int) (h0 : 0 ≤ p) (h1 : p ≤ 31) : (bits .andNot .i64 16 p == 0) = !(bits .and .i64 p 16 == 0) := by
  obtain ⟨k, rfl⟩ := Int.eq_ofNat_of_zero_le h0
  have hk : k < 32 := by omega
  clear h0 h1
  have hall : ∀ k : Fin 32, (bits .andNot .i64 16 ((k.val : Nat) : Int) == 0) = !(bits .and .i64 ((k.val : Nat) : Int) 16 == 0) := by decide
  exact hall ⟨k, hk⟩

def askV (yp : Int) : Int := bif (bits .andNot .i64 16 yp == 0) then 4 else 12

theorem ask_bar (xp yp : Int) (h0 : 0 ≤ xp) (h1 : xp ≤ 31) (k0 : 0 ≤ yp) (k1 : yp ≤ 31) : (bits .andNot .i64 (askV yp) xp == 0) = !barB xp true yp := by
  rw [askV, barB, may16 yp k0 k1]
  cases (bits .and .i64 yp 16 == 0)
  · rw [Bool.not_false, cond_true, may4 xp h0 h1]; simp
  · rw [Bool.not_true, cond_false, may12 xp h0 h1]; simp

theorem askM (yt : Bool) (yn yl yh ya yp ys : Int) (w : World) :
    Calls Tryd.prog 29 #[.agg #[.bool yt, .int .i64 yn, .int .i64 yl, .int .i64 yh, .int .i64 ya, .int .i64 yp, .int .i64 ys]] w fun e w' => e = .returned (.int .i64 (askV yp)) ∧ Below w.heap.size w w' := by
  have H := mayM yt yn yl yh ya yp ys 16
  rw [askV]
  cases hb : (bits .andNot .i64 16 yp == 0)
  · rw [hb] at H
    go_enter Tryd.func29, Tryd.ntmps29
    go_wp2_with fail
    refine (H _).mono ?_
    rintro e w1 ⟨rfl, rfl⟩
    go_wp2_with fail
    go_ret
    exact ⟨rfl, ((Below.refl _ _).alloc (Nat.le_refl _) _).alloc (by simp) _⟩
  · rw [hb] at H
    go_enter Tryd.func29, Tryd.ntmps29
    go_wp2_with fail
    refine (H _).mono ?_
    rintro e w1 ⟨rfl, rfl⟩
    go_wp2_with fail
    go_ret
    exact ⟨rfl, ((Below.refl _ _).alloc (Nat.le_refl _) _).alloc (by simp) _⟩

def storeJ (n : Nat) (xt : Bool) (xn xl xh xa xp xs : Int) (by_ : Int) (yt : Bool) (yp : Int) : Int := bif trapJ n xt xn xl xh xa xp xs by_ 2 == 0 then (bif barB xp yt yp then 3 else 0) else trapJ n xt xn xl xh xa xp xs by_ 2
def storeK (l : List Wd) (xt : Bool) (xn xl xh xa xp xs : Int) (by_ : Int) (y : Wd) : List Wd := bif storeJ l.length xt xn xl xh xa xp xs by_ y.t y.p == 0 then l.set (xa + by_).toNat y else l

set_option maxRecDepth 100000 in
set_option maxHeartbeats 4000000 in
theorem istoreM (g0 g n : Nat) (l : List Wd) (xt : Bool) (xn xl xh xa xp xs : Int) (by_ : Int) (yt : Bool) (yn yl yh ya yp ys : Int) (p t b : Addr) (w : World) (cg : w.cell? ⟨g0, 0, none⟩ = some (.slice (some ⟨g, 0, none⟩) n n)) (h : WB w g l) (hl : l.length = n) (hs : Sents w p t b) (hn : n ≤ 4000) (hyp : yt = true → 0 ≤ yp ∧ yp ≤ 31) (hgg : g ≠ g0) :
    Calls Tryd.prog 13 #[.pointer (some ⟨g0, 0, none⟩), .agg #[.bool xt, .int .i64 xn, .int .i64 xl, .int .i64 xh, .int .i64 xa, .int .i64 xp, .int .i64 xs], .int .i64 by_, .agg #[.bool yt, .int .i64 yn, .int .i64 yl, .int .i64 yh, .int .i64 ya, .int .i64 yp, .int .i64 ys]] w fun e w' => e = .returned (errV p t b (storeJ n xt xn xl xh xa xp xs by_ yt yp)) ∧ WB w' g (storeK l xt xn xl xh xa xp xs by_ ⟨yt, yn, yl, yh, ya, yp, ys⟩) ∧ But w w' g := by
  have H := fun w h1 h2 => iplaceM g0 (some ⟨g, 0, none⟩) n n xt xn xl xh xa xp xs by_ 2 p t b w h1 h2 (Or.inr rfl) hn
  have HCG : Hid _ := cg
  have HS : Hid (Sents w p t b) := hs
  have Hh : Hid (WB w g l) := h
  have Hl : Hid (l.length = n) := hl
  have hgl : g < w.heap.size := (Array.getElem?_eq_some_iff.1 h).1
  have HB0 : Hid (Below w.heap.size w ((w.alloc (.cells #[.bool xt, .int .i64 xn, .int .i64 xl, .int .i64 xh, .int .i64 xa, .int .i64 xp, .int .i64 xs] 27)).alloc (.cells #[.bool yt, .int .i64 yn, .int .i64 yl, .int .i64 yh, .int .i64 ya, .int .i64 yp, .int .i64 ys] 27))) := ((Below.refl _ _).alloc (Nat.le_refl _) _).alloc (by simp) _
  clear cg hs h
  by_cases ht : trapJ n xt xn xl xh xa xp xs by_ 2 = 0
  · have hw : wayB xt xn xl xh xa xp xs = true := by
      cases hw : wayB xt xn xl xh xa xp xs
      · rw [trapJ, hw] at ht; simp at ht
      · rfl
    have htv : trapV n xt xn xl xh xa xp xs by_ 2 = 0 := by rw [trapJ, hw] at ht; exact ht
    obtain ⟨hd, h1, h2, h3⟩ := hit_of xt xn xl xh xa xp xs htv
    obtain ⟨y0, y1, y2, ⟨q0, q1⟩, l0, l1, l2, a0, a1⟩ := way_parts _ _ _ _ _ _ _ hw
    have e2 : placeJ n xt xn xl xh xa xp xs by_ 2 = xa + by_ := by rw [placeJ, ht]; rfl
    obtain ⟨k, hk⟩ := Int.eq_ofNat_of_zero_le (show 0 ≤ xa + by_ by omega)
    have hkn : k < n := by omega
    have eT : storeJ n xt xn xl xh xa xp xs by_ yt yp = bif barB xp yt yp then 3 else 0 := by rw [storeJ, ht]; rfl
    have eL : storeK l xt xn xl xh xa xp xs by_ ⟨yt, yn, yl, yh, ya, yp, ys⟩ = bif barB xp yt yp then l else l.set k ⟨yt, yn, yl, yh, ya, yp, ys⟩ := by
      rw [storeK]
      simp only [hl, eT, hk, Int.toNat_natCast]
      cases barB xp yt yp <;> rfl
    rw [eT, eL]
    simp only [ht, e2, hk, show errV p t b 0 = .nilIface from rfl] at H
    clear eT eL ht e2 hd h1 h2 h3 a0 a1 l0 l1 l2 hl hw htv y0 y1 y2
    cases hyt : yt
    · rw [show barB xp false yp = false from rfl, cond_false, cond_false, show errV p t b 0 = .nilIface from rfl]
      rw [hyt] at HB0
      clear hyp q0 q1
      go_enter Tryd.func13, Tryd.ntmps13
      go_wp2_with fail
      refine (H _ (show ((w.alloc (.cells #[.bool xt, .int .i64 xn, .int .i64 xl, .int .i64 xh, .int .i64 xa, .int .i64 xp, .int .i64 xs] 27)).alloc (.cells #[.bool false, .int .i64 yn, .int .i64 yl, .int .i64 yh, .int .i64 ya, .int .i64 yp, .int .i64 ys] 27)).cell? ⟨g0, 0, none⟩ = _ from (HB0.out.cell (World.block_lt_of_cell? w _ HCG.out)).trans HCG.out) (HS.out.below HB0.out)).mono ?_
      rintro e w1 ⟨rfl, hb1⟩
      obtain ⟨hx1, hy1, hb1, hs1⟩ := two_kept rfl hb1
      have hbut : But w w1 g := But.of_below hb1 (Nat.le_of_lt hgl)
      have hW1 : WB w1 g l := (hb1.block g hgl).trans Hh.out
      have cg1 : w1.cell? ⟨g0, 0, none⟩ = some (.slice (some ⟨g, 0, none⟩) n n) := (hb1.cell (World.block_lt_of_cell? w _ HCG.out)).trans HCG.out
      have Hbut : Hid (But w w1 g) := hbut
      have HW1 : Hid (WB w1 g l) := hW1
      have Hb1 : Hid (Below w.heap.size w w1) := hb1
      clear H HB0 hbut hW1 hb1
      generalize hgb : w.heap.size = gb at *
      have Hg : Hid (w.heap.size = gb) := hgb
      clear hgb
      obtain ⟨x0, x1, x2, x3, x4, x5, x6, _⟩ := row_facts hx1
      have HS4 := seven_first (row_facts hy1)
      have Hyx : Hid _ := hy1
      go_wp2_with fail
      refine wp_region_held_drew (S := fun wx => wx.cell? ⟨gb + 1, 0, none⟩ = some (.bool false) ∧ wx.cell? ⟨gb + 1, 1, none⟩ = some (.int .i64 yn) ∧ wx.cell? ⟨gb + 1, 2, none⟩ = some (.int .i64 yl) ∧ wx.cell? ⟨gb + 1, 3, none⟩ = some (.int .i64 yh) ∧ wx.cell? ⟨gb + 1, 4, none⟩ = some (.int .i64 ya) ∧ wx.cell? ⟨gb + 1, 5, none⟩ = some (.int .i64 yp) ∧ wx.cell? ⟨gb + 1, 6, none⟩ = some (.int .i64 ys)) (by kernel_rfl) HS4 (fun hHeld => ?_)
      refine wpAnyH_take (i := 0) (oi := ?o501) (v := ?v501) ?i501 (by kernel_rfl) (by kernel_rfl) (by kernel_rfl) ?q501 ?y501 (hHeld) ?r501
      case i501 => exact rfl
      case q501 => exact (fun _ _ _ h => h)
      case y501 =>
        refine Or.inl ⟨by rfl, ?_⟩
        intro w hSw
        (try dsimp only at hSw)
        go_simp
        first | done | rfl
      try simp only [Act.put, List.getElem_toArray, List.getElem_cons_zero, List.getElem_cons_succ, List.setIfInBounds_toArray, List.set_cons_zero, List.set_cons_succ]
      refine wpAnyH_take (i := 1) (oi := ?o502) (v := ?v502) ?i502 (by kernel_rfl) (by kernel_rfl) (by kernel_rfl) ?q502 ?y502 (hHeld) ?r502
      case i502 => exact rfl
      case q502 => exact (fun _ _ _ h => h)
      case y502 =>
        refine Or.inl ⟨by rfl, ?_⟩
        intro w hSw
        (try dsimp only at hSw)
        go_simp
        first | done | rfl
      try simp only [Act.put, List.getElem_toArray, List.getElem_cons_zero, List.getElem_cons_succ, List.setIfInBounds_toArray, List.set_cons_zero, List.set_cons_succ]
      refine wpAnyH_take (i := 2) (oi := ?o503) (v := ?v503) ?i503 (by kernel_rfl) (by kernel_rfl) (by kernel_rfl) ?q503 ?y503 (hHeld) ?r503
      case i503 => exact rfl
      case q503 => exact (fun _ _ _ h => h)
      case y503 =>
        refine Or.inl ⟨by rfl, ?_⟩
        intro w hSw
        (try dsimp only at hSw)
        go_simp
        first | done | rfl
      try simp only [Act.put, List.getElem_toArray, List.getElem_cons_zero, List.getElem_cons_succ, List.setIfInBounds_toArray, List.set_cons_zero, List.set_cons_succ]
      refine wpAnyH_take (i := 3) (oi := ?o504) (v := undef) ?i504 (by kernel_rfl) (by kernel_rfl) (by kernel_rfl) ?q504 ?y504 (hHeld) ?r504
      case i504 => exact rfl
      case q504 => exact (fun _ _ _ h => h)
      case y504 => exact Or.inr ⟨by rfl, rfl⟩
      try simp only [Act.put, List.getElem_toArray, List.getElem_cons_zero, List.getElem_cons_succ, List.setIfInBounds_toArray, List.set_cons_zero, List.set_cons_succ]
      refine wpAnyH_take (i := 4) (oi := ?o505) (v := undef) ?i505 (by kernel_rfl) (by kernel_rfl) (by kernel_rfl) ?q505 ?y505 (hHeld) ?r505
      case i505 => exact rfl
      case q505 => exact (fun _ _ _ h => h)
      case y505 => exact Or.inr ⟨by rfl, rfl⟩
      try simp only [Act.put, List.getElem_toArray, List.getElem_cons_zero, List.getElem_cons_succ, List.setIfInBounds_toArray, List.set_cons_zero, List.set_cons_succ]
      refine wpAnyH_take (i := 5) (oi := ?o506) (v := undef) ?i506 (by kernel_rfl) (by kernel_rfl) (by kernel_rfl) ?q506 ?y506 (hHeld) ?r506
      case i506 => exact rfl
      case q506 => exact (fun _ _ _ h => h)
      case y506 => exact Or.inr ⟨by rfl, rfl⟩
      try simp only [Act.put, List.getElem_toArray, List.getElem_cons_zero, List.getElem_cons_succ, List.setIfInBounds_toArray, List.set_cons_zero, List.set_cons_succ]
      refine wpAnyH_take (i := 6) (oi := ?o507) (v := undef) ?i507 (by kernel_rfl) (by kernel_rfl) (by kernel_rfl) ?q507 ?y507 (hHeld) ?r507
      case i507 => exact rfl
      case q507 => exact (fun _ _ _ h => h)
      case y507 => exact Or.inr ⟨by rfl, rfl⟩
      try simp only [Act.put, List.getElem_toArray, List.getElem_cons_zero, List.getElem_cons_succ, List.setIfInBounds_toArray, List.set_cons_zero, List.set_cons_succ]
      refine wpAnyH_take (i := 7) (oi := ?o508) (v := undef) ?i508 (by kernel_rfl) (by kernel_rfl) (by kernel_rfl) ?q508 ?y508 (hHeld) ?r508
      case i508 => exact rfl
      case q508 => exact (fun _ _ _ h => h)
      case y508 => exact Or.inr ⟨by rfl, rfl⟩
      try simp only [Act.put, List.getElem_toArray, List.getElem_cons_zero, List.getElem_cons_succ, List.setIfInBounds_toArray, List.set_cons_zero, List.set_cons_succ]
      refine wpAnyH_take (i := 8) (oi := ?o509) (v := ?v509) ?i509 (by kernel_rfl) (by kernel_rfl) (by kernel_rfl) ?q509 ?y509 (hHeld) ?r509
      case i509 => exact rfl
      case q509 => exact (fun _ _ _ h => h)
      case y509 =>
        refine Or.inl ⟨by rfl, ?_⟩
        intro w hSw
        (try dsimp only at hSw)
        go_simp
        first | done | rfl
      try simp only [Act.put, List.getElem_toArray, List.getElem_cons_zero, List.getElem_cons_succ, List.setIfInBounds_toArray, List.set_cons_zero, List.set_cons_succ]
      refine wpAnyH_done (by kernel_rfl) ?_ _
      clear x0 x1 x2 x3 x4 x5 x6
      have HWx : Hid (WB w1.drew g l) := WB.drew' HW1.out
      have Hbx : Hid (But w w1.drew g) := Hbut.out.drew
      have Hyx : Hid (w1.drew.heap[gb + 1]? = some (.cells #[.bool false, .int .i64 yn, .int .i64 yl, .int .i64 yh, .int .i64 ya, .int .i64 yp, .int .i64 ys] 27 (0, 0))) := hy1
      have cgx : w1.drew.cell? ⟨g0, 0, none⟩ = some (.slice (some ⟨g, 0, none⟩) n n) := cg1
      clear cg1 hx1 hy1 HS4 hHeld HW1 Hbut
      generalize w1.drew = wq at HWx Hbx Hyx cgx ⊢
      go_wp2_with fail
      obtain ⟨v, hv⟩ : ∃ v, l[k]? = some v := ⟨_, List.getElem?_eq_getElem (by rw [Hl.out]; exact hkn)⟩
      obtain ⟨c0, c1, c2, c3, c4, c5, c6⟩ := WB.word HWx.out hv
      have f0 := WB.frozen HWx.out (k * 7)
      have f1 := WB.frozen HWx.out (k * 7 + 1)
      have f2 := WB.frozen HWx.out (k * 7 + 2)
      have f3 := WB.frozen HWx.out (k * 7 + 3)
      have f4 := WB.frozen HWx.out (k * 7 + 4)
      have f5 := WB.frozen HWx.out (k * 7 + 5)
      have f6 := WB.frozen HWx.out (k * 7 + 6)
      have hs := WB.set (k := k) HWx.out ⟨false, yn, yl, yh, ya, yp, ys⟩ (by rw [Hl.out]; exact hkn)
      have hb := ((((((Hbx.out.set (k * 7) (.bool false)).set (k * 7 + 1) (.int .i64 yn)).set (k * 7 + 2) (.int .i64 yl)).set (k * 7 + 3) (.int .i64 yh)).set (k * 7 + 4) (.int .i64 ya)).set (k * 7 + 5) (.int .i64 yp)).set (k * 7 + 6) (.int .i64 ys)
      have hk : But wq (((((((wq.setCell ⟨g, k * 7, none⟩ (.bool false)).setCell ⟨g, k * 7 + 1, none⟩ (.int .i64 yn)).setCell ⟨g, k * 7 + 2, none⟩ (.int .i64 yl)).setCell ⟨g, k * 7 + 3, none⟩ (.int .i64 yh)).setCell ⟨g, k * 7 + 4, none⟩ (.int .i64 ya)).setCell ⟨g, k * 7 + 5, none⟩ (.int .i64 yp)).setCell ⟨g, k * 7 + 6, none⟩ (.int .i64 ys)) g := ((((((((But.refl wq g).set (k * 7) (.bool false)).set (k * 7 + 1) (.int .i64 yn)).set (k * 7 + 2) (.int .i64 yl)).set (k * 7 + 3) (.int .i64 yh)).set (k * 7 + 4) (.int .i64 ya)).set (k * 7 + 5) (.int .i64 yp)).set (k * 7 + 6) (.int .i64 ys))
      have hSW : (((((((wq.setCell ⟨g, k * 7, none⟩ (.bool false)).setCell ⟨g, k * 7 + 1, none⟩ (.int .i64 yn)).setCell ⟨g, k * 7 + 2, none⟩ (.int .i64 yl)).setCell ⟨g, k * 7 + 3, none⟩ (.int .i64 yh)).setCell ⟨g, k * 7 + 4, none⟩ (.int .i64 ya)).setCell ⟨g, k * 7 + 5, none⟩ (.int .i64 yp)).setCell ⟨g, k * 7 + 6, none⟩ (.int .i64 ys)).drew.cell? ⟨g0, 0, none⟩ = some (.slice (some ⟨g, 0, none⟩) n n) ∧ (((((((wq.setCell ⟨g, k * 7, none⟩ (.bool false)).setCell ⟨g, k * 7 + 1, none⟩ (.int .i64 yn)).setCell ⟨g, k * 7 + 2, none⟩ (.int .i64 yl)).setCell ⟨g, k * 7 + 3, none⟩ (.int .i64 yh)).setCell ⟨g, k * 7 + 4, none⟩ (.int .i64 ya)).setCell ⟨g, k * 7 + 5, none⟩ (.int .i64 yp)).setCell ⟨g, k * 7 + 6, none⟩ (.int .i64 ys)).drew.cell? ⟨gb + 1, 0, none⟩ = some (.bool false) ∧ (((((((wq.setCell ⟨g, k * 7, none⟩ (.bool false)).setCell ⟨g, k * 7 + 1, none⟩ (.int .i64 yn)).setCell ⟨g, k * 7 + 2, none⟩ (.int .i64 yl)).setCell ⟨g, k * 7 + 3, none⟩ (.int .i64 yh)).setCell ⟨g, k * 7 + 4, none⟩ (.int .i64 ya)).setCell ⟨g, k * 7 + 5, none⟩ (.int .i64 yp)).setCell ⟨g, k * 7 + 6, none⟩ (.int .i64 ys)).drew.cell? ⟨gb + 1, 1, none⟩ = some (.int .i64 yn) ∧ (((((((wq.setCell ⟨g, k * 7, none⟩ (.bool false)).setCell ⟨g, k * 7 + 1, none⟩ (.int .i64 yn)).setCell ⟨g, k * 7 + 2, none⟩ (.int .i64 yl)).setCell ⟨g, k * 7 + 3, none⟩ (.int .i64 yh)).setCell ⟨g, k * 7 + 4, none⟩ (.int .i64 ya)).setCell ⟨g, k * 7 + 5, none⟩ (.int .i64 yp)).setCell ⟨g, k * 7 + 6, none⟩ (.int .i64 ys)).drew.cell? ⟨gb + 1, 2, none⟩ = some (.int .i64 yl) ∧ (((((((wq.setCell ⟨g, k * 7, none⟩ (.bool false)).setCell ⟨g, k * 7 + 1, none⟩ (.int .i64 yn)).setCell ⟨g, k * 7 + 2, none⟩ (.int .i64 yl)).setCell ⟨g, k * 7 + 3, none⟩ (.int .i64 yh)).setCell ⟨g, k * 7 + 4, none⟩ (.int .i64 ya)).setCell ⟨g, k * 7 + 5, none⟩ (.int .i64 yp)).setCell ⟨g, k * 7 + 6, none⟩ (.int .i64 ys)).drew.cell? ⟨gb + 1, 3, none⟩ = some (.int .i64 yh) ∧ (((((((wq.setCell ⟨g, k * 7, none⟩ (.bool false)).setCell ⟨g, k * 7 + 1, none⟩ (.int .i64 yn)).setCell ⟨g, k * 7 + 2, none⟩ (.int .i64 yl)).setCell ⟨g, k * 7 + 3, none⟩ (.int .i64 yh)).setCell ⟨g, k * 7 + 4, none⟩ (.int .i64 ya)).setCell ⟨g, k * 7 + 5, none⟩ (.int .i64 yp)).setCell ⟨g, k * 7 + 6, none⟩ (.int .i64 ys)).drew.cell? ⟨gb + 1, 4, none⟩ = some (.int .i64 ya) ∧ (((((((wq.setCell ⟨g, k * 7, none⟩ (.bool false)).setCell ⟨g, k * 7 + 1, none⟩ (.int .i64 yn)).setCell ⟨g, k * 7 + 2, none⟩ (.int .i64 yl)).setCell ⟨g, k * 7 + 3, none⟩ (.int .i64 yh)).setCell ⟨g, k * 7 + 4, none⟩ (.int .i64 ya)).setCell ⟨g, k * 7 + 5, none⟩ (.int .i64 yp)).setCell ⟨g, k * 7 + 6, none⟩ (.int .i64 ys)).drew.cell? ⟨gb + 1, 5, none⟩ = some (.int .i64 yp) ∧ (((((((wq.setCell ⟨g, k * 7, none⟩ (.bool false)).setCell ⟨g, k * 7 + 1, none⟩ (.int .i64 yn)).setCell ⟨g, k * 7 + 2, none⟩ (.int .i64 yl)).setCell ⟨g, k * 7 + 3, none⟩ (.int .i64 yh)).setCell ⟨g, k * 7 + 4, none⟩ (.int .i64 ya)).setCell ⟨g, k * 7 + 5, none⟩ (.int .i64 yp)).setCell ⟨g, k * 7 + 6, none⟩ (.int .i64 ys)).drew.cell? ⟨gb + 1, 6, none⟩ = some (.int .i64 ys) := by
        have hg0 : g0 < wq.heap.size := World.block_lt_of_cell? wq _ cgx
        have hyl : gb + 1 < wq.heap.size := (Array.getElem?_eq_some_iff.1 Hyx.out).1
        have hkd := hk.drew
        exact ⟨(cell_same (hkd.rest g0 hg0 (Ne.symm hgg)) 0).trans cgx, seven_first (row_facts ((hkd.rest (gb + 1) hyl (by omega)).trans Hyx.out))⟩
      have Hs : Hid _ := hs
      have Hk : Hid _ := hb
      have HSW : Hid _ := hSW
      have HS0 : Hid (wq.drew.cell? ⟨g0, 0, none⟩ = some (.slice (some ⟨g, 0, none⟩) n n) ∧ wq.drew.cell? ⟨gb + 1, 0, none⟩ = some (.bool false) ∧ wq.drew.cell? ⟨gb + 1, 1, none⟩ = some (.int .i64 yn) ∧ wq.drew.cell? ⟨gb + 1, 2, none⟩ = some (.int .i64 yl) ∧ wq.drew.cell? ⟨gb + 1, 3, none⟩ = some (.int .i64 yh) ∧ wq.drew.cell? ⟨gb + 1, 4, none⟩ = some (.int .i64 ya) ∧ wq.drew.cell? ⟨gb + 1, 5, none⟩ = some (.int .i64 yp) ∧ wq.drew.cell? ⟨gb + 1, 6, none⟩ = some (.int .i64 ys)) := ⟨cgx, seven_first (row_facts (heap_drew Hyx.out))⟩
      clear hs hb hk hSW hv
      refine wp_region_held_drew (S := fun wx => wx.cell? ⟨g0, 0, none⟩ = some (.slice (some ⟨g, 0, none⟩) n n) ∧ wx.cell? ⟨gb + 1, 0, none⟩ = some (.bool false) ∧ wx.cell? ⟨gb + 1, 1, none⟩ = some (.int .i64 yn) ∧ wx.cell? ⟨gb + 1, 2, none⟩ = some (.int .i64 yl) ∧ wx.cell? ⟨gb + 1, 3, none⟩ = some (.int .i64 yh) ∧ wx.cell? ⟨gb + 1, 4, none⟩ = some (.int .i64 ya) ∧ wx.cell? ⟨gb + 1, 5, none⟩ = some (.int .i64 yp) ∧ wx.cell? ⟨gb + 1, 6, none⟩ = some (.int .i64 ys)) (by kernel_rfl) (HS0.out) (fun hHeld => ?_)
      refine wpAnyH_take (i := 0) (oi := ?o510) (v := ?v510) ?i510 (by kernel_rfl) (by kernel_rfl) (by kernel_rfl) ?q510 ?y510 (hHeld) ?r510
      case i510 => exact rfl
      case q510 => exact (fun _ _ _ h => h)
      case y510 =>
        refine Or.inl ⟨by rfl, ?_⟩
        intro w hSw
        (try dsimp only at hSw)
        go_simp
        first | done | rfl
      try simp only [Act.put, List.getElem_toArray, List.getElem_cons_zero, List.getElem_cons_succ, List.setIfInBounds_toArray, List.set_cons_zero, List.set_cons_succ]
      refine wpAnyH_take (i := 1) (oi := ?o511) (v := ?v511) ?i511 (by kernel_rfl) (by kernel_rfl) (by kernel_rfl) ?q511 ?y511 (hHeld) ?r511
      case i511 => exact rfl
      case q511 => exact (fun _ _ _ h => h)
      case y511 =>
        refine Or.inl ⟨by rfl, ?_⟩
        intro w hSw
        (try dsimp only at hSw)
        go_simp
        first | done | rfl
      try simp only [Act.put, List.getElem_toArray, List.getElem_cons_zero, List.getElem_cons_succ, List.setIfInBounds_toArray, List.set_cons_zero, List.set_cons_succ]
      refine wpAnyH_take (i := 2) (oi := ?o512) (v := ?v512) ?i512 (by kernel_rfl) (by kernel_rfl) (by kernel_rfl) ?q512 ?y512 (hHeld) ?r512
      case i512 => exact rfl
      case q512 => exact (fun _ _ _ h => h)
      case y512 =>
        refine Or.inl ⟨by rfl, ?_⟩
        intro w hSw
        (try dsimp only at hSw)
        go_simp
        first | done | rfl
      try simp only [Act.put, List.getElem_toArray, List.getElem_cons_zero, List.getElem_cons_succ, List.setIfInBounds_toArray, List.set_cons_zero, List.set_cons_succ]
      refine wpAnyH_take (i := 3) (oi := ?o513) (v := ?v513) ?i513 (by kernel_rfl) (by kernel_rfl) (by kernel_rfl) ?q513 ?y513 (hHeld) ?r513
      case i513 => exact rfl
      case q513 => exact (fun _ _ _ h => h)
      case y513 =>
        refine Or.inl ⟨by rfl, ?_⟩
        intro w hSw
        (try dsimp only at hSw)
        go_simp
        first | done | rfl
      try simp only [Act.put, List.getElem_toArray, List.getElem_cons_zero, List.getElem_cons_succ, List.setIfInBounds_toArray, List.set_cons_zero, List.set_cons_succ]
      refine wpAnyH_take (i := 4) (oi := ?o514) (v := ?v514) ?i514 (by kernel_rfl) (by kernel_rfl) (by kernel_rfl) ?q514 ?y514 (hHeld) ?r514
      case i514 => exact rfl
      case q514 => exact (fun _ _ _ h => h)
      case y514 =>
        refine Or.inl ⟨by rfl, ?_⟩
        intro w hSw
        (try dsimp only at hSw)
        go_simp
        first | done | rfl
      try simp only [Act.put, List.getElem_toArray, List.getElem_cons_zero, List.getElem_cons_succ, List.setIfInBounds_toArray, List.set_cons_zero, List.set_cons_succ]
      refine wpAnyH_take (i := 5) (oi := ?o515) (v := ?v515) ?i515 (by kernel_rfl) (by kernel_rfl) (by kernel_rfl) ?q515 ?y515 (hHeld) ?r515
      case i515 => exact rfl
      case q515 => exact (fun _ _ _ h => h)
      case y515 =>
        refine Or.inl ⟨by rfl, ?_⟩
        intro w hSw
        (try dsimp only at hSw)
        go_simp
        first | done | rfl
      try simp only [Act.put, List.getElem_toArray, List.getElem_cons_zero, List.getElem_cons_succ, List.setIfInBounds_toArray, List.set_cons_zero, List.set_cons_succ]
      refine wpAnyH_take (i := 6) (oi := ?o516) (v := ?v516) ?i516 (by kernel_rfl) (by kernel_rfl) (by kernel_rfl) ?q516 ?y516 (hHeld) ?r516
      case i516 => exact rfl
      case q516 => exact (fun _ _ _ h => h)
      case y516 =>
        refine Or.inl ⟨by rfl, ?_⟩
        intro w hSw
        (try dsimp only at hSw)
        go_simp
        first | done | rfl
      try simp only [Act.put, List.getElem_toArray, List.getElem_cons_zero, List.getElem_cons_succ, List.setIfInBounds_toArray, List.set_cons_zero, List.set_cons_succ]
      refine wpAnyH_ready (rs := [7]) (by kernel_rfl) (by simp) ?_
      refine AllReadyH.cons (i := 7) (o := ?o517) ?i517 (fun K hK => ?_) AllReadyH.nil
      case i517 => exact rfl
      go_simp
      refine hK.out _ _ (HSW.out) (fun hHeld => ?_)
      clear hK K
      try simp only [Act.put, List.getElem_toArray, List.getElem_cons_zero, List.getElem_cons_succ, List.setIfInBounds_toArray, List.set_cons_zero, List.set_cons_succ]
      refine wpAnyH_done (by kernel_rfl) ?_ _
      go_wp2_with fail
      go_ret
      exact ⟨rfl, WB.drew' Hs.out, Hk.out.drew⟩
    · obtain ⟨k0, k1⟩ := hyp hyt
      have HA := askM true yn yl yh ya yp ys
      have HM0 := mayM xt xn xl xh xa xp xs (askV yp)
      rw [ask_bar xp yp q0 q1 k0 k1] at HM0
      rw [hyt] at HB0
      generalize askV yp = ak at *
      clear hyp q0 q1 k0 k1
      cases hbar : barB xp true yp
      · rw [cond_false, cond_false, show errV p t b 0 = .nilIface from rfl]
        have HM : ∀ w : World, Calls Tryd.prog 28 #[.agg #[.bool xt, .int .i64 xn, .int .i64 xl, .int .i64 xh, .int .i64 xa, .int .i64 xp, .int .i64 xs], .int .i64 ak] w fun e w' => e = .returned (.bool true) ∧ Below w.heap.size w w' := fun w => (HM0 w).mono fun e w' ⟨he, hw⟩ => ⟨by rw [he, hbar]; rfl, by rw [hw]; exact (Below.refl _ _).alloc (Nat.le_refl _) _⟩
        clear HM0 hbar
        go_enter Tryd.func13, Tryd.ntmps13
        go_wp2_with fail
        refine (H _ (show ((w.alloc (.cells #[.bool xt, .int .i64 xn, .int .i64 xl, .int .i64 xh, .int .i64 xa, .int .i64 xp, .int .i64 xs] 27)).alloc (.cells #[.bool true, .int .i64 yn, .int .i64 yl, .int .i64 yh, .int .i64 ya, .int .i64 yp, .int .i64 ys] 27)).cell? ⟨g0, 0, none⟩ = _ from (HB0.out.cell (World.block_lt_of_cell? w _ HCG.out)).trans HCG.out) (HS.out.below HB0.out)).mono ?_
        rintro e w1 ⟨rfl, hb1⟩
        obtain ⟨hx1, hy1, hb1, hs1⟩ := two_kept rfl hb1
        have hbut : But w w1 g := But.of_below hb1 (Nat.le_of_lt hgl)
        have hW1 : WB w1 g l := (hb1.block g hgl).trans Hh.out
        have cg1 : w1.cell? ⟨g0, 0, none⟩ = some (.slice (some ⟨g, 0, none⟩) n n) := (hb1.cell (World.block_lt_of_cell? w _ HCG.out)).trans HCG.out
        have Hbut : Hid (But w w1 g) := hbut
        have HW1 : Hid (WB w1 g l) := hW1
        have Hb1 : Hid (Below w.heap.size w w1) := hb1
        clear H HB0 hbut hW1 hb1
        have hcp := (HS.out.below Hb1.out).cp
        generalize hgb : w.heap.size = gb at *
        have Hg : Hid (w.heap.size = gb) := hgb
        clear hgb
        have HS0 : w1.cell? ⟨gb, 0, none⟩ = some (.bool xt) ∧ w1.cell? ⟨gb, 1, none⟩ = some (.int .i64 xn) ∧ w1.cell? ⟨gb, 2, none⟩ = some (.int .i64 xl) ∧ w1.cell? ⟨gb, 3, none⟩ = some (.int .i64 xh) ∧ w1.cell? ⟨gb, 4, none⟩ = some (.int .i64 xa) ∧ w1.cell? ⟨gb, 5, none⟩ = some (.int .i64 xp) ∧ w1.cell? ⟨gb, 6, none⟩ = some (.int .i64 xs) ∧ w1.cell? ⟨gb + 1, 0, none⟩ = some (.bool true) ∧ w1.cell? ⟨gb + 1, 1, none⟩ = some (.int .i64 yn) ∧ w1.cell? ⟨gb + 1, 2, none⟩ = some (.int .i64 yl) ∧ w1.cell? ⟨gb + 1, 3, none⟩ = some (.int .i64 yh) ∧ w1.cell? ⟨gb + 1, 4, none⟩ = some (.int .i64 ya) ∧ w1.cell? ⟨gb + 1, 5, none⟩ = some (.int .i64 yp) ∧ w1.cell? ⟨gb + 1, 6, none⟩ = some (.int .i64 ys) := and7 (seven_first (row_facts hx1)) (seven_first (row_facts hy1))
        have hgx : gb < w1.heap.size := by omega
        have hgy : gb + 1 < w1.heap.size := by omega
        have HKp : Hid (∀ {wx : World}, Below w1.heap.size w1 wx → wx.cell? ⟨gb, 0, none⟩ = some (.bool xt) ∧ wx.cell? ⟨gb, 1, none⟩ = some (.int .i64 xn) ∧ wx.cell? ⟨gb, 2, none⟩ = some (.int .i64 xl) ∧ wx.cell? ⟨gb, 3, none⟩ = some (.int .i64 xh) ∧ wx.cell? ⟨gb, 4, none⟩ = some (.int .i64 xa) ∧ wx.cell? ⟨gb, 5, none⟩ = some (.int .i64 xp) ∧ wx.cell? ⟨gb, 6, none⟩ = some (.int .i64 xs) ∧ wx.cell? ⟨gb + 1, 0, none⟩ = some (.bool true) ∧ wx.cell? ⟨gb + 1, 1, none⟩ = some (.int .i64 yn) ∧ wx.cell? ⟨gb + 1, 2, none⟩ = some (.int .i64 yl) ∧ wx.cell? ⟨gb + 1, 3, none⟩ = some (.int .i64 yh) ∧ wx.cell? ⟨gb + 1, 4, none⟩ = some (.int .i64 ya) ∧ wx.cell? ⟨gb + 1, 5, none⟩ = some (.int .i64 yp) ∧ wx.cell? ⟨gb + 1, 6, none⟩ = some (.int .i64 ys)) := fun hb => and7 (seven_first (row_facts ((hb.block gb hgx).trans hx1))) (seven_first (row_facts ((hb.block (gb + 1) hgy).trans hy1)))
        have Hy1 : Hid _ := hy1
        clear hx1 hy1
        go_wp2_with fail
        refine wp_region_held_drew (S := fun wx => wx.cell? ⟨gb, 0, none⟩ = some (.bool xt) ∧ wx.cell? ⟨gb, 1, none⟩ = some (.int .i64 xn) ∧ wx.cell? ⟨gb, 2, none⟩ = some (.int .i64 xl) ∧ wx.cell? ⟨gb, 3, none⟩ = some (.int .i64 xh) ∧ wx.cell? ⟨gb, 4, none⟩ = some (.int .i64 xa) ∧ wx.cell? ⟨gb, 5, none⟩ = some (.int .i64 xp) ∧ wx.cell? ⟨gb, 6, none⟩ = some (.int .i64 xs) ∧ wx.cell? ⟨gb + 1, 0, none⟩ = some (.bool true) ∧ wx.cell? ⟨gb + 1, 1, none⟩ = some (.int .i64 yn) ∧ wx.cell? ⟨gb + 1, 2, none⟩ = some (.int .i64 yl) ∧ wx.cell? ⟨gb + 1, 3, none⟩ = some (.int .i64 yh) ∧ wx.cell? ⟨gb + 1, 4, none⟩ = some (.int .i64 ya) ∧ wx.cell? ⟨gb + 1, 5, none⟩ = some (.int .i64 yp) ∧ wx.cell? ⟨gb + 1, 6, none⟩ = some (.int .i64 ys)) (by kernel_rfl) (HKp.out (Below.refl _ _).drew) (fun hHeld => ?_)
        have hB0 : Below w1.heap.size w1 w1.drew := (Below.refl _ _).drew
        generalize w1.drew = wS at hB0 hHeld ⊢
        refine wpAnyH_take (i := 0) (oi := ?o518) (v := ?v518) ?i518 (by kernel_rfl) (by kernel_rfl) (by kernel_rfl) ?q518 ?y518 (hHeld) ?r518
        case i518 => exact rfl
        case q518 => exact (fun _ _ _ h => h)
        case y518 =>
          refine Or.inl ⟨by rfl, ?_⟩
          intro w hSw
          (try dsimp only at hSw)
          go_simp
          first | done | rfl
        try simp only [Act.put, List.getElem_toArray, List.getElem_cons_zero, List.getElem_cons_succ, List.setIfInBounds_toArray, List.set_cons_zero, List.set_cons_succ]
        refine wpAnyH_take (i := 1) (oi := ?o519) (v := ?v519) ?i519 (by kernel_rfl) (by kernel_rfl) (by kernel_rfl) ?q519 ?y519 (hHeld) ?r519
        case i519 => exact rfl
        case q519 => exact (fun _ _ _ h => h)
        case y519 =>
          refine Or.inl ⟨by rfl, ?_⟩
          intro w hSw
          (try dsimp only at hSw)
          go_simp
          first | done | rfl
        try simp only [Act.put, List.getElem_toArray, List.getElem_cons_zero, List.getElem_cons_succ, List.setIfInBounds_toArray, List.set_cons_zero, List.set_cons_succ]
        refine wpAnyH_take (i := 2) (oi := ?o520) (v := ?v520) ?i520 (by kernel_rfl) (by kernel_rfl) (by kernel_rfl) ?q520 ?y520 (hHeld) ?r520
        case i520 => exact rfl
        case q520 => exact (fun _ _ _ h => h)
        case y520 =>
          refine Or.inl ⟨by rfl, ?_⟩
          intro w hSw
          (try dsimp only at hSw)
          go_simp
          first | done | rfl
        try simp only [Act.put, List.getElem_toArray, List.getElem_cons_zero, List.getElem_cons_succ, List.setIfInBounds_toArray, List.set_cons_zero, List.set_cons_succ]
        refine wpAnyH_take (i := 3) (oi := ?o521) (v := ?v521) ?i521 (by kernel_rfl) (by kernel_rfl) (by kernel_rfl) ?q521 ?y521 (hHeld) ?r521
        case i521 => exact rfl
        case q521 => exact (fun _ _ _ h => h)
        case y521 =>
          refine Or.inl ⟨by rfl, ?_⟩
          intro w hSw
          (try dsimp only at hSw)
          go_simp
          first | done | rfl
        try simp only [Act.put, List.getElem_toArray, List.getElem_cons_zero, List.getElem_cons_succ, List.setIfInBounds_toArray, List.set_cons_zero, List.set_cons_succ]
        refine wpAnyH_take (i := 4) (oi := ?o522) (v := ?v522) ?i522 (by kernel_rfl) (by kernel_rfl) (by kernel_rfl) ?q522 ?y522 (hHeld) ?r522
        case i522 => exact rfl
        case q522 => exact (fun _ _ _ h => h)
        case y522 =>
          refine Or.inl ⟨by rfl, ?_⟩
          intro w hSw
          (try dsimp only at hSw)
          go_simp
          first | done | rfl
        try simp only [Act.put, List.getElem_toArray, List.getElem_cons_zero, List.getElem_cons_succ, List.setIfInBounds_toArray, List.set_cons_zero, List.set_cons_succ]
        refine wpAnyH_ready (rs := [5]) (by kernel_rfl) (by simp) ?_
        refine AllReadyH.cons (i := 5) (o := ?o523) ?i523 (fun K hK => ?_) AllReadyH.nil
        case i523 => exact rfl
        go_simp
        (with_reducible refine (HA wS).mono ?_)
        rintro e w2 ⟨rfl, hb2⟩
        have hB2 := hB0.trans (hb2.mono hB0.size)
        go_wp2_with fail
        refine hK.out _ _ (HKp.out hB2) (fun hHeld => ?_)
        clear hK K
        try simp only [Act.put, List.getElem_toArray, List.getElem_cons_zero, List.getElem_cons_succ, List.setIfInBounds_toArray, List.set_cons_zero, List.set_cons_succ]
        refine wpAnyH_ready (rs := [6]) (by kernel_rfl) (by simp) ?_
        refine AllReadyH.cons (i := 6) (o := ?o524) ?i524 (fun K hK => ?_) AllReadyH.nil
        case i524 => exact rfl
        go_simp
        (with_reducible refine (HM w2).mono ?_)
        rintro e w3 ⟨rfl, hb3⟩
        have hB3 := hB2.trans (hb3.mono hB2.size)
        go_wp2_with fail
        refine hK.out _ _ (HKp.out hB3) (fun hHeld => ?_)
        clear hK K
        try simp only [Act.put, List.getElem_toArray, List.getElem_cons_zero, List.getElem_cons_succ, List.setIfInBounds_toArray, List.set_cons_zero, List.set_cons_succ]
        refine wpAnyH_take (i := 7) (oi := ?o525) (v := ?v525) ?i525 (by kernel_rfl) (by kernel_rfl) (by kernel_rfl) ?q525 ?y525 (hHeld) ?r525
        case i525 => exact rfl
        case q525 => exact (fun _ _ _ h => h)
        case y525 =>
          refine Or.inl ⟨by rfl, ?_⟩
          intro w hSw
          (try dsimp only at hSw)
          go_simp
          first | done | rfl
        try simp only [Act.put, List.getElem_toArray, List.getElem_cons_zero, List.getElem_cons_succ, List.setIfInBounds_toArray, List.set_cons_zero, List.set_cons_succ]
        refine wpAnyH_take (i := 8) (oi := ?o526) (v := ?v526) ?i526 (by kernel_rfl) (by kernel_rfl) (by kernel_rfl) ?q526 ?y526 (hHeld) ?r526
        case i526 => exact rfl
        case q526 => exact (fun _ _ _ h => h)
        case y526 =>
          refine Or.inl ⟨by rfl, ?_⟩
          intro w hSw
          (try dsimp only at hSw)
          go_simp
          first | done | rfl
        try simp only [Act.put, List.getElem_toArray, List.getElem_cons_zero, List.getElem_cons_succ, List.setIfInBounds_toArray, List.set_cons_zero, List.set_cons_succ]
        refine wpAnyH_done (by kernel_rfl) ?_ _
        have HWx : Hid (WB w3 g l) := (hB3.block g (by omega)).trans HW1.out
        have Hbx : Hid (But w w3 g) := Hbut.out.next hB3
        have Hyx : Hid (w3.heap[gb + 1]? = some (.cells #[.bool true, .int .i64 yn, .int .i64 yl, .int .i64 yh, .int .i64 ya, .int .i64 yp, .int .i64 ys] 27 (0, 0))) := (hB3.block (gb + 1) hgy).trans Hy1.out
        have cgx : w3.cell? ⟨g0, 0, none⟩ = some (.slice (some ⟨g, 0, none⟩) n n) := (hB3.cell (World.block_lt_of_cell? w1 _ cg1)).trans cg1
        clear hb2 hb3 hB0 hB2 hB3 hHeld HKp HS0 hcp cg1 Hy1 HW1 Hbut
        go_wp2_with fail
        obtain ⟨v, hv⟩ : ∃ v, l[k]? = some v := ⟨_, List.getElem?_eq_getElem (by rw [Hl.out]; exact hkn)⟩
        obtain ⟨c0, c1, c2, c3, c4, c5, c6⟩ := WB.word HWx.out hv
        have f0 := WB.frozen HWx.out (k * 7)
        have f1 := WB.frozen HWx.out (k * 7 + 1)
        have f2 := WB.frozen HWx.out (k * 7 + 2)
        have f3 := WB.frozen HWx.out (k * 7 + 3)
        have f4 := WB.frozen HWx.out (k * 7 + 4)
        have f5 := WB.frozen HWx.out (k * 7 + 5)
        have f6 := WB.frozen HWx.out (k * 7 + 6)
        have hs := WB.set (k := k) HWx.out ⟨true, yn, yl, yh, ya, yp, ys⟩ (by rw [Hl.out]; exact hkn)
        have hb := ((((((Hbx.out.set (k * 7) (.bool true)).set (k * 7 + 1) (.int .i64 yn)).set (k * 7 + 2) (.int .i64 yl)).set (k * 7 + 3) (.int .i64 yh)).set (k * 7 + 4) (.int .i64 ya)).set (k * 7 + 5) (.int .i64 yp)).set (k * 7 + 6) (.int .i64 ys)
        have hk : But w3 (((((((w3.setCell ⟨g, k * 7, none⟩ (.bool true)).setCell ⟨g, k * 7 + 1, none⟩ (.int .i64 yn)).setCell ⟨g, k * 7 + 2, none⟩ (.int .i64 yl)).setCell ⟨g, k * 7 + 3, none⟩ (.int .i64 yh)).setCell ⟨g, k * 7 + 4, none⟩ (.int .i64 ya)).setCell ⟨g, k * 7 + 5, none⟩ (.int .i64 yp)).setCell ⟨g, k * 7 + 6, none⟩ (.int .i64 ys)) g := ((((((((But.refl w3 g).set (k * 7) (.bool true)).set (k * 7 + 1) (.int .i64 yn)).set (k * 7 + 2) (.int .i64 yl)).set (k * 7 + 3) (.int .i64 yh)).set (k * 7 + 4) (.int .i64 ya)).set (k * 7 + 5) (.int .i64 yp)).set (k * 7 + 6) (.int .i64 ys))
        have hSW : (((((((w3.setCell ⟨g, k * 7, none⟩ (.bool true)).setCell ⟨g, k * 7 + 1, none⟩ (.int .i64 yn)).setCell ⟨g, k * 7 + 2, none⟩ (.int .i64 yl)).setCell ⟨g, k * 7 + 3, none⟩ (.int .i64 yh)).setCell ⟨g, k * 7 + 4, none⟩ (.int .i64 ya)).setCell ⟨g, k * 7 + 5, none⟩ (.int .i64 yp)).setCell ⟨g, k * 7 + 6, none⟩ (.int .i64 ys)).drew.cell? ⟨g0, 0, none⟩ = some (.slice (some ⟨g, 0, none⟩) n n) ∧ (((((((w3.setCell ⟨g, k * 7, none⟩ (.bool true)).setCell ⟨g, k * 7 + 1, none⟩ (.int .i64 yn)).setCell ⟨g, k * 7 + 2, none⟩ (.int .i64 yl)).setCell ⟨g, k * 7 + 3, none⟩ (.int .i64 yh)).setCell ⟨g, k * 7 + 4, none⟩ (.int .i64 ya)).setCell ⟨g, k * 7 + 5, none⟩ (.int .i64 yp)).setCell ⟨g, k * 7 + 6, none⟩ (.int .i64 ys)).drew.cell? ⟨gb + 1, 0, none⟩ = some (.bool true) ∧ (((((((w3.setCell ⟨g, k * 7, none⟩ (.bool true)).setCell ⟨g, k * 7 + 1, none⟩ (.int .i64 yn)).setCell ⟨g, k * 7 + 2, none⟩ (.int .i64 yl)).setCell ⟨g, k * 7 + 3, none⟩ (.int .i64 yh)).setCell ⟨g, k * 7 + 4, none⟩ (.int .i64 ya)).setCell ⟨g, k * 7 + 5, none⟩ (.int .i64 yp)).setCell ⟨g, k * 7 + 6, none⟩ (.int .i64 ys)).drew.cell? ⟨gb + 1, 1, none⟩ = some (.int .i64 yn) ∧ (((((((w3.setCell ⟨g, k * 7, none⟩ (.bool true)).setCell ⟨g, k * 7 + 1, none⟩ (.int .i64 yn)).setCell ⟨g, k * 7 + 2, none⟩ (.int .i64 yl)).setCell ⟨g, k * 7 + 3, none⟩ (.int .i64 yh)).setCell ⟨g, k * 7 + 4, none⟩ (.int .i64 ya)).setCell ⟨g, k * 7 + 5, none⟩ (.int .i64 yp)).setCell ⟨g, k * 7 + 6, none⟩ (.int .i64 ys)).drew.cell? ⟨gb + 1, 2, none⟩ = some (.int .i64 yl) ∧ (((((((w3.setCell ⟨g, k * 7, none⟩ (.bool true)).setCell ⟨g, k * 7 + 1, none⟩ (.int .i64 yn)).setCell ⟨g, k * 7 + 2, none⟩ (.int .i64 yl)).setCell ⟨g, k * 7 + 3, none⟩ (.int .i64 yh)).setCell ⟨g, k * 7 + 4, none⟩ (.int .i64 ya)).setCell ⟨g, k * 7 + 5, none⟩ (.int .i64 yp)).setCell ⟨g, k * 7 + 6, none⟩ (.int .i64 ys)).drew.cell? ⟨gb + 1, 3, none⟩ = some (.int .i64 yh) ∧ (((((((w3.setCell ⟨g, k * 7, none⟩ (.bool true)).setCell ⟨g, k * 7 + 1, none⟩ (.int .i64 yn)).setCell ⟨g, k * 7 + 2, none⟩ (.int .i64 yl)).setCell ⟨g, k * 7 + 3, none⟩ (.int .i64 yh)).setCell ⟨g, k * 7 + 4, none⟩ (.int .i64 ya)).setCell ⟨g, k * 7 + 5, none⟩ (.int .i64 yp)).setCell ⟨g, k * 7 + 6, none⟩ (.int .i64 ys)).drew.cell? ⟨gb + 1, 4, none⟩ = some (.int .i64 ya) ∧ (((((((w3.setCell ⟨g, k * 7, none⟩ (.bool true)).setCell ⟨g, k * 7 + 1, none⟩ (.int .i64 yn)).setCell ⟨g, k * 7 + 2, none⟩ (.int .i64 yl)).setCell ⟨g, k * 7 + 3, none⟩ (.int .i64 yh)).setCell ⟨g, k * 7 + 4, none⟩ (.int .i64 ya)).setCell ⟨g, k * 7 + 5, none⟩ (.int .i64 yp)).setCell ⟨g, k * 7 + 6, none⟩ (.int .i64 ys)).drew.cell? ⟨gb + 1, 5, none⟩ = some (.int .i64 yp) ∧ (((((((w3.setCell ⟨g, k * 7, none⟩ (.bool true)).setCell ⟨g, k * 7 + 1, none⟩ (.int .i64 yn)).setCell ⟨g, k * 7 + 2, none⟩ (.int .i64 yl)).setCell ⟨g, k * 7 + 3, none⟩ (.int .i64 yh)).setCell ⟨g, k * 7 + 4, none⟩ (.int .i64 ya)).setCell ⟨g, k * 7 + 5, none⟩ (.int .i64 yp)).setCell ⟨g, k * 7 + 6, none⟩ (.int .i64 ys)).drew.cell? ⟨gb + 1, 6, none⟩ = some (.int .i64 ys) := by
          have hg0 : g0 < w3.heap.size := World.block_lt_of_cell? w3 _ cgx
          have hyl : gb + 1 < w3.heap.size := (Array.getElem?_eq_some_iff.1 Hyx.out).1
          have hkd := hk.drew
          exact ⟨(cell_same (hkd.rest g0 hg0 (Ne.symm hgg)) 0).trans cgx, seven_first (row_facts ((hkd.rest (gb + 1) hyl (by omega)).trans Hyx.out))⟩
        have Hs : Hid _ := hs
        have Hk : Hid _ := hb
        have HSW : Hid _ := hSW
        have HS0 : Hid (w3.drew.cell? ⟨g0, 0, none⟩ = some (.slice (some ⟨g, 0, none⟩) n n) ∧ w3.drew.cell? ⟨gb + 1, 0, none⟩ = some (.bool true) ∧ w3.drew.cell? ⟨gb + 1, 1, none⟩ = some (.int .i64 yn) ∧ w3.drew.cell? ⟨gb + 1, 2, none⟩ = some (.int .i64 yl) ∧ w3.drew.cell? ⟨gb + 1, 3, none⟩ = some (.int .i64 yh) ∧ w3.drew.cell? ⟨gb + 1, 4, none⟩ = some (.int .i64 ya) ∧ w3.drew.cell? ⟨gb + 1, 5, none⟩ = some (.int .i64 yp) ∧ w3.drew.cell? ⟨gb + 1, 6, none⟩ = some (.int .i64 ys)) := ⟨cgx, seven_first (row_facts (heap_drew Hyx.out))⟩
        clear hs hb hk hSW hv
        refine wp_region_held_drew (S := fun wx => wx.cell? ⟨g0, 0, none⟩ = some (.slice (some ⟨g, 0, none⟩) n n) ∧ wx.cell? ⟨gb + 1, 0, none⟩ = some (.bool true) ∧ wx.cell? ⟨gb + 1, 1, none⟩ = some (.int .i64 yn) ∧ wx.cell? ⟨gb + 1, 2, none⟩ = some (.int .i64 yl) ∧ wx.cell? ⟨gb + 1, 3, none⟩ = some (.int .i64 yh) ∧ wx.cell? ⟨gb + 1, 4, none⟩ = some (.int .i64 ya) ∧ wx.cell? ⟨gb + 1, 5, none⟩ = some (.int .i64 yp) ∧ wx.cell? ⟨gb + 1, 6, none⟩ = some (.int .i64 ys)) (by kernel_rfl) (HS0.out) (fun hHeld => ?_)
        refine wpAnyH_take (i := 0) (oi := ?o527) (v := ?v527) ?i527 (by kernel_rfl) (by kernel_rfl) (by kernel_rfl) ?q527 ?y527 (hHeld) ?r527
        case i527 => exact rfl
        case q527 => exact (fun _ _ _ h => h)
        case y527 =>
          refine Or.inl ⟨by rfl, ?_⟩
          intro w hSw
          (try dsimp only at hSw)
          go_simp
          first | done | rfl
        try simp only [Act.put, List.getElem_toArray, List.getElem_cons_zero, List.getElem_cons_succ, List.setIfInBounds_toArray, List.set_cons_zero, List.set_cons_succ]
        refine wpAnyH_take (i := 1) (oi := ?o528) (v := ?v528) ?i528 (by kernel_rfl) (by kernel_rfl) (by kernel_rfl) ?q528 ?y528 (hHeld) ?r528
        case i528 => exact rfl
        case q528 => exact (fun _ _ _ h => h)
        case y528 =>
          refine Or.inl ⟨by rfl, ?_⟩
          intro w hSw
          (try dsimp only at hSw)
          go_simp
          first | done | rfl
        try simp only [Act.put, List.getElem_toArray, List.getElem_cons_zero, List.getElem_cons_succ, List.setIfInBounds_toArray, List.set_cons_zero, List.set_cons_succ]
        refine wpAnyH_take (i := 2) (oi := ?o529) (v := ?v529) ?i529 (by kernel_rfl) (by kernel_rfl) (by kernel_rfl) ?q529 ?y529 (hHeld) ?r529
        case i529 => exact rfl
        case q529 => exact (fun _ _ _ h => h)
        case y529 =>
          refine Or.inl ⟨by rfl, ?_⟩
          intro w hSw
          (try dsimp only at hSw)
          go_simp
          first | done | rfl
        try simp only [Act.put, List.getElem_toArray, List.getElem_cons_zero, List.getElem_cons_succ, List.setIfInBounds_toArray, List.set_cons_zero, List.set_cons_succ]
        refine wpAnyH_take (i := 3) (oi := ?o530) (v := ?v530) ?i530 (by kernel_rfl) (by kernel_rfl) (by kernel_rfl) ?q530 ?y530 (hHeld) ?r530
        case i530 => exact rfl
        case q530 => exact (fun _ _ _ h => h)
        case y530 =>
          refine Or.inl ⟨by rfl, ?_⟩
          intro w hSw
          (try dsimp only at hSw)
          go_simp
          first | done | rfl
        try simp only [Act.put, List.getElem_toArray, List.getElem_cons_zero, List.getElem_cons_succ, List.setIfInBounds_toArray, List.set_cons_zero, List.set_cons_succ]
        refine wpAnyH_take (i := 4) (oi := ?o531) (v := ?v531) ?i531 (by kernel_rfl) (by kernel_rfl) (by kernel_rfl) ?q531 ?y531 (hHeld) ?r531
        case i531 => exact rfl
        case q531 => exact (fun _ _ _ h => h)
        case y531 =>
          refine Or.inl ⟨by rfl, ?_⟩
          intro w hSw
          (try dsimp only at hSw)
          go_simp
          first | done | rfl
        try simp only [Act.put, List.getElem_toArray, List.getElem_cons_zero, List.getElem_cons_succ, List.setIfInBounds_toArray, List.set_cons_zero, List.set_cons_succ]
        refine wpAnyH_take (i := 5) (oi := ?o532) (v := ?v532) ?i532 (by kernel_rfl) (by kernel_rfl) (by kernel_rfl) ?q532 ?y532 (hHeld) ?r532
        case i532 => exact rfl
        case q532 => exact (fun _ _ _ h => h)
        case y532 =>
          refine Or.inl ⟨by rfl, ?_⟩
          intro w hSw
          (try dsimp only at hSw)
          go_simp
          first | done | rfl
        try simp only [Act.put, List.getElem_toArray, List.getElem_cons_zero, List.getElem_cons_succ, List.setIfInBounds_toArray, List.set_cons_zero, List.set_cons_succ]
        refine wpAnyH_take (i := 6) (oi := ?o533) (v := ?v533) ?i533 (by kernel_rfl) (by kernel_rfl) (by kernel_rfl) ?q533 ?y533 (hHeld) ?r533
        case i533 => exact rfl
        case q533 => exact (fun _ _ _ h => h)
        case y533 =>
          refine Or.inl ⟨by rfl, ?_⟩
          intro w hSw
          (try dsimp only at hSw)
          go_simp
          first | done | rfl
        try simp only [Act.put, List.getElem_toArray, List.getElem_cons_zero, List.getElem_cons_succ, List.setIfInBounds_toArray, List.set_cons_zero, List.set_cons_succ]
        refine wpAnyH_ready (rs := [7]) (by kernel_rfl) (by simp) ?_
        refine AllReadyH.cons (i := 7) (o := ?o534) ?i534 (fun K hK => ?_) AllReadyH.nil
        case i534 => exact rfl
        go_simp
        refine hK.out _ _ (HSW.out) (fun hHeld => ?_)
        clear hK K
        try simp only [Act.put, List.getElem_toArray, List.getElem_cons_zero, List.getElem_cons_succ, List.setIfInBounds_toArray, List.set_cons_zero, List.set_cons_succ]
        refine wpAnyH_done (by kernel_rfl) ?_ _
        go_wp2_with fail
        go_ret
        exact ⟨rfl, WB.drew' Hs.out, Hk.out.drew⟩
      · rw [cond_true, cond_true, show errV p t b 3 = .iface 83 (.pointer (some p)) from rfl]
        have HM : ∀ w : World, Calls Tryd.prog 28 #[.agg #[.bool xt, .int .i64 xn, .int .i64 xl, .int .i64 xh, .int .i64 xa, .int .i64 xp, .int .i64 xs], .int .i64 ak] w fun e w' => e = .returned (.bool false) ∧ Below w.heap.size w w' := fun w => (HM0 w).mono fun e w' ⟨he, hw⟩ => ⟨by rw [he, hbar]; rfl, by rw [hw]; exact (Below.refl _ _).alloc (Nat.le_refl _) _⟩
        clear HM0 hbar
        go_enter Tryd.func13, Tryd.ntmps13
        go_wp2_with fail
        refine (H _ (show ((w.alloc (.cells #[.bool xt, .int .i64 xn, .int .i64 xl, .int .i64 xh, .int .i64 xa, .int .i64 xp, .int .i64 xs] 27)).alloc (.cells #[.bool true, .int .i64 yn, .int .i64 yl, .int .i64 yh, .int .i64 ya, .int .i64 yp, .int .i64 ys] 27)).cell? ⟨g0, 0, none⟩ = _ from (HB0.out.cell (World.block_lt_of_cell? w _ HCG.out)).trans HCG.out) (HS.out.below HB0.out)).mono ?_
        rintro e w1 ⟨rfl, hb1⟩
        obtain ⟨hx1, hy1, hb1, hs1⟩ := two_kept rfl hb1
        have hbut : But w w1 g := But.of_below hb1 (Nat.le_of_lt hgl)
        have hW1 : WB w1 g l := (hb1.block g hgl).trans Hh.out
        have cg1 : w1.cell? ⟨g0, 0, none⟩ = some (.slice (some ⟨g, 0, none⟩) n n) := (hb1.cell (World.block_lt_of_cell? w _ HCG.out)).trans HCG.out
        have Hbut : Hid (But w w1 g) := hbut
        have HW1 : Hid (WB w1 g l) := hW1
        have Hb1 : Hid (Below w.heap.size w w1) := hb1
        clear H HB0 hbut hW1 hb1
        have hcp := (HS.out.below Hb1.out).cp
        generalize hgb : w.heap.size = gb at *
        have Hg : Hid (w.heap.size = gb) := hgb
        clear hgb
        have HS0 : w1.cell? ⟨gb, 0, none⟩ = some (.bool xt) ∧ w1.cell? ⟨gb, 1, none⟩ = some (.int .i64 xn) ∧ w1.cell? ⟨gb, 2, none⟩ = some (.int .i64 xl) ∧ w1.cell? ⟨gb, 3, none⟩ = some (.int .i64 xh) ∧ w1.cell? ⟨gb, 4, none⟩ = some (.int .i64 xa) ∧ w1.cell? ⟨gb, 5, none⟩ = some (.int .i64 xp) ∧ w1.cell? ⟨gb, 6, none⟩ = some (.int .i64 xs) ∧ w1.cell? ⟨gb + 1, 0, none⟩ = some (.bool true) ∧ w1.cell? ⟨gb + 1, 1, none⟩ = some (.int .i64 yn) ∧ w1.cell? ⟨gb + 1, 2, none⟩ = some (.int .i64 yl) ∧ w1.cell? ⟨gb + 1, 3, none⟩ = some (.int .i64 yh) ∧ w1.cell? ⟨gb + 1, 4, none⟩ = some (.int .i64 ya) ∧ w1.cell? ⟨gb + 1, 5, none⟩ = some (.int .i64 yp) ∧ w1.cell? ⟨gb + 1, 6, none⟩ = some (.int .i64 ys) := and7 (seven_first (row_facts hx1)) (seven_first (row_facts hy1))
        have hgx : gb < w1.heap.size := by omega
        have hgy : gb + 1 < w1.heap.size := by omega
        have HKp : Hid (∀ {wx : World}, Below w1.heap.size w1 wx → wx.cell? ⟨gb, 0, none⟩ = some (.bool xt) ∧ wx.cell? ⟨gb, 1, none⟩ = some (.int .i64 xn) ∧ wx.cell? ⟨gb, 2, none⟩ = some (.int .i64 xl) ∧ wx.cell? ⟨gb, 3, none⟩ = some (.int .i64 xh) ∧ wx.cell? ⟨gb, 4, none⟩ = some (.int .i64 xa) ∧ wx.cell? ⟨gb, 5, none⟩ = some (.int .i64 xp) ∧ wx.cell? ⟨gb, 6, none⟩ = some (.int .i64 xs) ∧ wx.cell? ⟨gb + 1, 0, none⟩ = some (.bool true) ∧ wx.cell? ⟨gb + 1, 1, none⟩ = some (.int .i64 yn) ∧ wx.cell? ⟨gb + 1, 2, none⟩ = some (.int .i64 yl) ∧ wx.cell? ⟨gb + 1, 3, none⟩ = some (.int .i64 yh) ∧ wx.cell? ⟨gb + 1, 4, none⟩ = some (.int .i64 ya) ∧ wx.cell? ⟨gb + 1, 5, none⟩ = some (.int .i64 yp) ∧ wx.cell? ⟨gb + 1, 6, none⟩ = some (.int .i64 ys)) := fun hb => and7 (seven_first (row_facts ((hb.block gb hgx).trans hx1))) (seven_first (row_facts ((hb.block (gb + 1) hgy).trans hy1)))
        have Hy1 : Hid _ := hy1
        clear hx1 hy1
        go_wp2_with fail
        refine wp_region_held_drew (S := fun wx => wx.cell? ⟨gb, 0, none⟩ = some (.bool xt) ∧ wx.cell? ⟨gb, 1, none⟩ = some (.int .i64 xn) ∧ wx.cell? ⟨gb, 2, none⟩ = some (.int .i64 xl) ∧ wx.cell? ⟨gb, 3, none⟩ = some (.int .i64 xh) ∧ wx.cell? ⟨gb, 4, none⟩ = some (.int .i64 xa) ∧ wx.cell? ⟨gb, 5, none⟩ = some (.int .i64 xp) ∧ wx.cell? ⟨gb, 6, none⟩ = some (.int .i64 xs) ∧ wx.cell? ⟨gb + 1, 0, none⟩ = some (.bool true) ∧ wx.cell? ⟨gb + 1, 1, none⟩ = some (.int .i64 yn) ∧ wx.cell? ⟨gb + 1, 2, none⟩ = some (.int .i64 yl) ∧ wx.cell? ⟨gb + 1, 3, none⟩ = some (.int .i64 yh) ∧ wx.cell? ⟨gb + 1, 4, none⟩ = some (.int .i64 ya) ∧ wx.cell? ⟨gb + 1, 5, none⟩ = some (.int .i64 yp) ∧ wx.cell? ⟨gb + 1, 6, none⟩ = some (.int .i64 ys)) (by kernel_rfl) (HKp.out (Below.refl _ _).drew) (fun hHeld => ?_)
        have hB0 : Below w1.heap.size w1 w1.drew := (Below.refl _ _).drew
        generalize w1.drew = wS at hB0 hHeld ⊢
        refine wpAnyH_take (i := 0) (oi := ?o535) (v := ?v535) ?i535 (by kernel_rfl) (by kernel_rfl) (by kernel_rfl) ?q535 ?y535 (hHeld) ?r535
        case i535 => exact rfl
        case q535 => exact (fun _ _ _ h => h)
        case y535 =>
          refine Or.inl ⟨by rfl, ?_⟩
          intro w hSw
          (try dsimp only at hSw)
          go_simp
          first | done | rfl
        try simp only [Act.put, List.getElem_toArray, List.getElem_cons_zero, List.getElem_cons_succ, List.setIfInBounds_toArray, List.set_cons_zero, List.set_cons_succ]
        refine wpAnyH_take (i := 1) (oi := ?o536) (v := ?v536) ?i536 (by kernel_rfl) (by kernel_rfl) (by kernel_rfl) ?q536 ?y536 (hHeld) ?r536
        case i536 => exact rfl
        case q536 => exact (fun _ _ _ h => h)
        case y536 =>
          refine Or.inl ⟨by rfl, ?_⟩
          intro w hSw
          (try dsimp only at hSw)
          go_simp
          first | done | rfl
        try simp only [Act.put, List.getElem_toArray, List.getElem_cons_zero, List.getElem_cons_succ, List.setIfInBounds_toArray, List.set_cons_zero, List.set_cons_succ]
        refine wpAnyH_take (i := 2) (oi := ?o537) (v := ?v537) ?i537 (by kernel_rfl) (by kernel_rfl) (by kernel_rfl) ?q537 ?y537 (hHeld) ?r537
        case i537 => exact rfl
        case q537 => exact (fun _ _ _ h => h)
        case y537 =>
          refine Or.inl ⟨by rfl, ?_⟩
          intro w hSw
          (try dsimp only at hSw)
          go_simp
          first | done | rfl
        try simp only [Act.put, List.getElem_toArray, List.getElem_cons_zero, List.getElem_cons_succ, List.setIfInBounds_toArray, List.set_cons_zero, List.set_cons_succ]
        refine wpAnyH_take (i := 3) (oi := ?o538) (v := ?v538) ?i538 (by kernel_rfl) (by kernel_rfl) (by kernel_rfl) ?q538 ?y538 (hHeld) ?r538
        case i538 => exact rfl
        case q538 => exact (fun _ _ _ h => h)
        case y538 =>
          refine Or.inl ⟨by rfl, ?_⟩
          intro w hSw
          (try dsimp only at hSw)
          go_simp
          first | done | rfl
        try simp only [Act.put, List.getElem_toArray, List.getElem_cons_zero, List.getElem_cons_succ, List.setIfInBounds_toArray, List.set_cons_zero, List.set_cons_succ]
        refine wpAnyH_take (i := 4) (oi := ?o539) (v := ?v539) ?i539 (by kernel_rfl) (by kernel_rfl) (by kernel_rfl) ?q539 ?y539 (hHeld) ?r539
        case i539 => exact rfl
        case q539 => exact (fun _ _ _ h => h)
        case y539 =>
          refine Or.inl ⟨by rfl, ?_⟩
          intro w hSw
          (try dsimp only at hSw)
          go_simp
          first | done | rfl
        try simp only [Act.put, List.getElem_toArray, List.getElem_cons_zero, List.getElem_cons_succ, List.setIfInBounds_toArray, List.set_cons_zero, List.set_cons_succ]
        refine wpAnyH_ready (rs := [5]) (by kernel_rfl) (by simp) ?_
        refine AllReadyH.cons (i := 5) (o := ?o540) ?i540 (fun K hK => ?_) AllReadyH.nil
        case i540 => exact rfl
        go_simp
        (with_reducible refine (HA wS).mono ?_)
        rintro e w2 ⟨rfl, hb2⟩
        have hB2 := hB0.trans (hb2.mono hB0.size)
        go_wp2_with fail
        refine hK.out _ _ (HKp.out hB2) (fun hHeld => ?_)
        clear hK K
        try simp only [Act.put, List.getElem_toArray, List.getElem_cons_zero, List.getElem_cons_succ, List.setIfInBounds_toArray, List.set_cons_zero, List.set_cons_succ]
        refine wpAnyH_ready (rs := [6]) (by kernel_rfl) (by simp) ?_
        refine AllReadyH.cons (i := 6) (o := ?o541) ?i541 (fun K hK => ?_) AllReadyH.nil
        case i541 => exact rfl
        go_simp
        (with_reducible refine (HM w2).mono ?_)
        rintro e w3 ⟨rfl, hb3⟩
        have hB3 := hB2.trans (hb3.mono hB2.size)
        go_wp2_with fail
        refine hK.out _ _ (HKp.out hB3) (fun hHeld => ?_)
        clear hK K
        try simp only [Act.put, List.getElem_toArray, List.getElem_cons_zero, List.getElem_cons_succ, List.setIfInBounds_toArray, List.set_cons_zero, List.set_cons_succ]
        refine wpAnyH_take (i := 7) (oi := ?o542) (v := ?v542) ?i542 (by kernel_rfl) (by kernel_rfl) (by kernel_rfl) ?q542 ?y542 (hHeld) ?r542
        case i542 => exact rfl
        case q542 => exact (fun _ _ _ h => h)
        case y542 =>
          refine Or.inl ⟨by rfl, ?_⟩
          intro w hSw
          (try dsimp only at hSw)
          go_simp
          first | done | rfl
        try simp only [Act.put, List.getElem_toArray, List.getElem_cons_zero, List.getElem_cons_succ, List.setIfInBounds_toArray, List.set_cons_zero, List.set_cons_succ]
        refine wpAnyH_take (i := 8) (oi := ?o543) (v := ?v543) ?i543 (by kernel_rfl) (by kernel_rfl) (by kernel_rfl) ?q543 ?y543 (hHeld) ?r543
        case i543 => exact rfl
        case q543 => exact (fun _ _ _ h => h)
        case y543 =>
          refine Or.inl ⟨by rfl, ?_⟩
          intro w hSw
          (try dsimp only at hSw)
          go_simp
          first | done | rfl
        try simp only [Act.put, List.getElem_toArray, List.getElem_cons_zero, List.getElem_cons_succ, List.setIfInBounds_toArray, List.set_cons_zero, List.set_cons_succ]
        refine wpAnyH_done (by kernel_rfl) ?_ _
        have hcp3 := (hB3.cell (show 0 < w1.heap.size from World.block_lt_of_cell? w1 _ hcp)).trans hcp
        have hW3 : WB w3 g l := (hB3.block g (by omega)).trans HW1.out
        have hbut3 := Hbut.out.next hB3
        clear hb2 hb3 hB0 hB2 hB3 hHeld HKp HS0 hcp
        go_wp2_with fail
        go_ret
        exact ⟨rfl, hW3, hbut3⟩
  · have htb : (trapJ n xt xn xl xh xa xp xs by_ 2 == 0) = false := by simpa using ht
    have eT : storeJ n xt xn xl xh xa xp xs by_ yt yp = trapJ n xt xn xl xh xa xp xs by_ 2 := by rw [storeJ, htb]; rfl
    have eL : storeK l xt xn xl xh xa xp xs by_ ⟨yt, yn, yl, yh, ya, yp, ys⟩ = l := by
      rw [storeK]
      simp only [hl, eT, htb]
      rfl
    rw [eT, eL]
    obtain ⟨q, hq⟩ := errV_some p t b (k := trapJ n xt xn xl xh xa xp xs by_ 2) (by have := trapJ_range n xt xn xl xh xa xp xs by_ 2; omega)
    rw [hq]
    simp only [hq] at H
    clear eT eL htb hq ht hl hyp
    generalize placeJ n xt xn xl xh xa xp xs by_ 2 = pl at *
    go_enter Tryd.func13, Tryd.ntmps13
    go_wp2_with fail
    refine (H _ (show ((w.alloc (.cells #[.bool xt, .int .i64 xn, .int .i64 xl, .int .i64 xh, .int .i64 xa, .int .i64 xp, .int .i64 xs] 27)).alloc (.cells #[.bool yt, .int .i64 yn, .int .i64 yl, .int .i64 yh, .int .i64 ya, .int .i64 yp, .int .i64 ys] 27)).cell? ⟨g0, 0, none⟩ = _ from (HB0.out.cell (World.block_lt_of_cell? w _ HCG.out)).trans HCG.out) (HS.out.below HB0.out)).mono ?_
    rintro e w1 ⟨rfl, hb1⟩
    obtain ⟨hx1, hy1, hb1, hs1⟩ := two_kept rfl hb1
    have hbut : But w w1 g := But.of_below hb1 (Nat.le_of_lt hgl)
    have hW1 : WB w1 g l := (hb1.block g hgl).trans Hh.out
    have cg1 : w1.cell? ⟨g0, 0, none⟩ = some (.slice (some ⟨g, 0, none⟩) n n) := (hb1.cell (World.block_lt_of_cell? w _ HCG.out)).trans HCG.out
    have Hbut : Hid (But w w1 g) := hbut
    have HW1 : Hid (WB w1 g l) := hW1
    have Hb1 : Hid (Below w.heap.size w w1) := hb1
    clear H HB0 hbut hW1 hb1
    go_wp2_with fail
    go_ret
    exact ⟨rfl, HW1.out, Hbut.out⟩
end Go.Proofs.YtkiaglpgfgoaiaaDoor
