/- The laws of Within, Narrow, Shift and Entry return true at every word and int, and write nothing that was there. -/
import Derived.Test.YtahfnenogeidpaaWordsLaws
import Derived.Deep.RegionHeld3
namespace Go.Proofs.Ytahfnenogeidpaa
open Go.RowKit Go.WideShapes
set_option linter.unusedVariables false

set_option maxRecDepth 100000 in
set_option maxHeartbeats 2000000 in
theorem narrow_walk (xt : Bool) (xn xl xh xa xp xs : Int) (hf : Fits xn xl xh xa xp xs) (lo : Int) (f1 : (Lit.int .i64 lo).wf = true) (hi : Int) (f2 : (Lit.int .i64 hi).wf = true) (p : Int) (f3 : (Lit.int .i64 p).wf = true) (w : World) :
    Calls Try.prog 6 #[.agg #[.bool xt, .int .i64 xn, .int .i64 xl, .int .i64 xh, .int .i64 xa, .int .i64 xp, .int .i64 xs], .int .i64 lo, .int .i64 hi, .int .i64 p] w fun e w' => e = .returned (.bool true) ∧ Below w.heap.size w w' := by
  have H1 := specNarrowM xt xn xl xh xa xp xs lo hi p
  have H2 := implNarrowM xt xn xl xh xa xp xs lo hi p
  generalize narB xt xn xl xh xa xp xs lo hi = b at *
  go_enter Try.func6, Try.ntmps6
  go_wp2_with fail
  refine (toWordM _ _ _ _ _ _ _ _).mono ?_
  rintro e w1 ⟨rfl, hb1⟩
  have hw1 : Below w.heap.size w w1 := (Below.alloc (Below.refl _ _) (Nat.le_refl _) _).trans (hb1.mono (by simp))
  have hs1 : w.heap.size < w1.heap.size := by have := hb1.size; simp at this; omega
  have cx_w10 : w1.cell? ⟨w.heap.size, 0, none⟩ = some (.bool (xt)) := (hb1.cell (by simp)).trans (by simp [go_sem])
  have cx_w11 : w1.cell? ⟨w.heap.size, 1, none⟩ = some (.int .i64 (xn)) := (hb1.cell (by simp)).trans (by simp [go_sem])
  have cx_w12 : w1.cell? ⟨w.heap.size, 2, none⟩ = some (.int .i64 (xl)) := (hb1.cell (by simp)).trans (by simp [go_sem])
  have cx_w13 : w1.cell? ⟨w.heap.size, 3, none⟩ = some (.int .i64 (xh)) := (hb1.cell (by simp)).trans (by simp [go_sem])
  have cx_w14 : w1.cell? ⟨w.heap.size, 4, none⟩ = some (.int .i64 (xa)) := (hb1.cell (by simp)).trans (by simp [go_sem])
  have cx_w15 : w1.cell? ⟨w.heap.size, 5, none⟩ = some (.int .i64 (xp)) := (hb1.cell (by simp)).trans (by simp [go_sem])
  have cx_w16 : w1.cell? ⟨w.heap.size, 6, none⟩ = some (.int .i64 (xs)) := (hb1.cell (by simp)).trans (by simp [go_sem])
  clear hb1
  go_wp2_with fail
  refine (H1 _).mono ?_
  rintro e w2 ⟨rfl, hb2⟩
  have hw2 : Below w.heap.size w w2 := hw1.trans (hb2.mono hw1.size)
  have hs2 : w.heap.size < w2.heap.size := Nat.lt_of_lt_of_le hs1 hb2.size
  have cx_w20 : w2.cell? ⟨w.heap.size, 0, none⟩ = some (.bool (xt)) := (hb2.cell hs1).trans (by assumption)
  have cx_w21 : w2.cell? ⟨w.heap.size, 1, none⟩ = some (.int .i64 (xn)) := (hb2.cell hs1).trans (by assumption)
  have cx_w22 : w2.cell? ⟨w.heap.size, 2, none⟩ = some (.int .i64 (xl)) := (hb2.cell hs1).trans (by assumption)
  have cx_w23 : w2.cell? ⟨w.heap.size, 3, none⟩ = some (.int .i64 (xh)) := (hb2.cell hs1).trans (by assumption)
  have cx_w24 : w2.cell? ⟨w.heap.size, 4, none⟩ = some (.int .i64 (xa)) := (hb2.cell hs1).trans (by assumption)
  have cx_w25 : w2.cell? ⟨w.heap.size, 5, none⟩ = some (.int .i64 (xp)) := (hb2.cell hs1).trans (by assumption)
  have cx_w26 : w2.cell? ⟨w.heap.size, 6, none⟩ = some (.int .i64 (xs)) := (hb2.cell hs1).trans (by assumption)
  clear hb2
  have hne : w.heap.size ≠ w2.heap.size := by omega
  go_wp2_with fail
  refine (toWordM _ _ _ _ _ _ _ _).mono ?_
  rintro e w3 ⟨rfl, hb3⟩
  have hw3 : Below w.heap.size w w3 := (hw2.alloc hw2.size _).trans (hb3.mono (by simp; omega))
  have hs3 : w2.heap.size < w3.heap.size := by have := hb3.size; simp at this; omega
  have cy_w30 : w3.cell? ⟨w2.heap.size, 0, none⟩ = some (.bool ((b))) := (hb3.cell (by simp)).trans (by simp [go_sem])
  have cy_w31 : w3.cell? ⟨w2.heap.size, 1, none⟩ = some (.int .i64 (0)) := (hb3.cell (by simp)).trans (by simp [go_sem])
  have cy_w32 : w3.cell? ⟨w2.heap.size, 2, none⟩ = some (.int .i64 ((sel (b) lo))) := (hb3.cell (by simp)).trans (by simp [go_sem])
  have cy_w33 : w3.cell? ⟨w2.heap.size, 3, none⟩ = some (.int .i64 ((sel (b) hi))) := (hb3.cell (by simp)).trans (by simp [go_sem])
  have cy_w34 : w3.cell? ⟨w2.heap.size, 4, none⟩ = some (.int .i64 ((sel (b) lo))) := (hb3.cell (by simp)).trans (by simp [go_sem])
  have cy_w35 : w3.cell? ⟨w2.heap.size, 5, none⟩ = some (.int .i64 ((sel (b) (bits .and .i64 xp p)))) := (hb3.cell (by simp)).trans (by simp [go_sem])
  have cy_w36 : w3.cell? ⟨w2.heap.size, 6, none⟩ = some (.int .i64 (0)) := (hb3.cell (by simp)).trans (by simp [go_sem])
  clear hb3
  go_wp2_with fail
  refine (H2 _).mono ?_
  rintro e w4 ⟨rfl, hb4⟩
  have hw4 : Below w.heap.size w w4 := hw3.trans (hb4.mono hw3.size)
  have hs4 : w2.heap.size < w4.heap.size := Nat.lt_of_lt_of_le hs3 hb4.size
  have cy_w40 : w4.cell? ⟨w2.heap.size, 0, none⟩ = some (.bool ((b))) := (hb4.cell hs3).trans (by assumption)
  have cy_w41 : w4.cell? ⟨w2.heap.size, 1, none⟩ = some (.int .i64 (0)) := (hb4.cell hs3).trans (by assumption)
  have cy_w42 : w4.cell? ⟨w2.heap.size, 2, none⟩ = some (.int .i64 ((sel (b) lo))) := (hb4.cell hs3).trans (by assumption)
  have cy_w43 : w4.cell? ⟨w2.heap.size, 3, none⟩ = some (.int .i64 ((sel (b) hi))) := (hb4.cell hs3).trans (by assumption)
  have cy_w44 : w4.cell? ⟨w2.heap.size, 4, none⟩ = some (.int .i64 ((sel (b) lo))) := (hb4.cell hs3).trans (by assumption)
  have cy_w45 : w4.cell? ⟨w2.heap.size, 5, none⟩ = some (.int .i64 ((sel (b) (bits .and .i64 xp p)))) := (hb4.cell hs3).trans (by assumption)
  have cy_w46 : w4.cell? ⟨w2.heap.size, 6, none⟩ = some (.int .i64 (0)) := (hb4.cell hs3).trans (by assumption)
  have hne4 : w2.heap.size ≠ w4.heap.size := by omega
  clear hb4
  go_wp2_with fail
  refine (eqWordM _ _ _ _ _ _ _ _ _ _ _ _ _ _ _ ⟨rfl, rfl, rfl, rfl, rfl, rfl, rfl⟩).mono ?_
  rintro e w5 ⟨rfl, hb5⟩
  have hw5 : Below w.heap.size w w5 := (hw4.alloc hw4.size _).trans (hb5.mono (by have := hw4.size; simp; omega))
  clear hb5
  go_wp2_with fail
  go_ret
  exact ⟨rfl, hw5⟩

set_option maxRecDepth 100000 in
set_option maxHeartbeats 2000000 in
theorem shift_walk (xt : Bool) (xn xl xh xa xp xs : Int) (hf : Fits xn xl xh xa xp xs) (by_ : Int) (f1 : (Lit.int .i64 by_).wf = true) (w : World) :
    Calls Try.prog 7 #[.agg #[.bool xt, .int .i64 xn, .int .i64 xl, .int .i64 xh, .int .i64 xa, .int .i64 xp, .int .i64 xs], .int .i64 by_] w fun e w' => e = .returned (.bool true) ∧ Below w.heap.size w w' := by
  have H1 := specShiftM xt xn xl xh xa xp xs by_
  have H2 := implShiftM xt xn xl xh xa xp xs by_
  generalize shB xt xn xl xh xa xp xs by_ = b at *
  go_enter Try.func7, Try.ntmps7
  go_wp2_with fail
  refine (toWordM _ _ _ _ _ _ _ _).mono ?_
  rintro e w1 ⟨rfl, hb1⟩
  have hw1 : Below w.heap.size w w1 := (Below.alloc (Below.refl _ _) (Nat.le_refl _) _).trans (hb1.mono (by simp))
  have hs1 : w.heap.size < w1.heap.size := by have := hb1.size; simp at this; omega
  have cx_w10 : w1.cell? ⟨w.heap.size, 0, none⟩ = some (.bool (xt)) := (hb1.cell (by simp)).trans (by simp [go_sem])
  have cx_w11 : w1.cell? ⟨w.heap.size, 1, none⟩ = some (.int .i64 (xn)) := (hb1.cell (by simp)).trans (by simp [go_sem])
  have cx_w12 : w1.cell? ⟨w.heap.size, 2, none⟩ = some (.int .i64 (xl)) := (hb1.cell (by simp)).trans (by simp [go_sem])
  have cx_w13 : w1.cell? ⟨w.heap.size, 3, none⟩ = some (.int .i64 (xh)) := (hb1.cell (by simp)).trans (by simp [go_sem])
  have cx_w14 : w1.cell? ⟨w.heap.size, 4, none⟩ = some (.int .i64 (xa)) := (hb1.cell (by simp)).trans (by simp [go_sem])
  have cx_w15 : w1.cell? ⟨w.heap.size, 5, none⟩ = some (.int .i64 (xp)) := (hb1.cell (by simp)).trans (by simp [go_sem])
  have cx_w16 : w1.cell? ⟨w.heap.size, 6, none⟩ = some (.int .i64 (xs)) := (hb1.cell (by simp)).trans (by simp [go_sem])
  clear hb1
  go_wp2_with fail
  refine (H1 _).mono ?_
  rintro e w2 ⟨rfl, hb2⟩
  have hw2 : Below w.heap.size w w2 := hw1.trans (hb2.mono hw1.size)
  have hs2 : w.heap.size < w2.heap.size := Nat.lt_of_lt_of_le hs1 hb2.size
  have cx_w20 : w2.cell? ⟨w.heap.size, 0, none⟩ = some (.bool (xt)) := (hb2.cell hs1).trans (by assumption)
  have cx_w21 : w2.cell? ⟨w.heap.size, 1, none⟩ = some (.int .i64 (xn)) := (hb2.cell hs1).trans (by assumption)
  have cx_w22 : w2.cell? ⟨w.heap.size, 2, none⟩ = some (.int .i64 (xl)) := (hb2.cell hs1).trans (by assumption)
  have cx_w23 : w2.cell? ⟨w.heap.size, 3, none⟩ = some (.int .i64 (xh)) := (hb2.cell hs1).trans (by assumption)
  have cx_w24 : w2.cell? ⟨w.heap.size, 4, none⟩ = some (.int .i64 (xa)) := (hb2.cell hs1).trans (by assumption)
  have cx_w25 : w2.cell? ⟨w.heap.size, 5, none⟩ = some (.int .i64 (xp)) := (hb2.cell hs1).trans (by assumption)
  have cx_w26 : w2.cell? ⟨w.heap.size, 6, none⟩ = some (.int .i64 (xs)) := (hb2.cell hs1).trans (by assumption)
  clear hb2
  have hne : w.heap.size ≠ w2.heap.size := by omega
  go_wp2_with fail
  refine (toWordM _ _ _ _ _ _ _ _).mono ?_
  rintro e w3 ⟨rfl, hb3⟩
  have hw3 : Below w.heap.size w w3 := (hw2.alloc hw2.size _).trans (hb3.mono (by simp; omega))
  have hs3 : w2.heap.size < w3.heap.size := by have := hb3.size; simp at this; omega
  have cy_w30 : w3.cell? ⟨w2.heap.size, 0, none⟩ = some (.bool ((b))) := (hb3.cell (by simp)).trans (by simp [go_sem])
  have cy_w31 : w3.cell? ⟨w2.heap.size, 1, none⟩ = some (.int .i64 (0)) := (hb3.cell (by simp)).trans (by simp [go_sem])
  have cy_w32 : w3.cell? ⟨w2.heap.size, 2, none⟩ = some (.int .i64 ((sel (b) xl))) := (hb3.cell (by simp)).trans (by simp [go_sem])
  have cy_w33 : w3.cell? ⟨w2.heap.size, 3, none⟩ = some (.int .i64 ((sel (b) xh))) := (hb3.cell (by simp)).trans (by simp [go_sem])
  have cy_w34 : w3.cell? ⟨w2.heap.size, 4, none⟩ = some (.int .i64 ((sel (b) (xa + by_)))) := (hb3.cell (by simp)).trans (by simp [go_sem])
  have cy_w35 : w3.cell? ⟨w2.heap.size, 5, none⟩ = some (.int .i64 ((sel (b) xp))) := (hb3.cell (by simp)).trans (by simp [go_sem])
  have cy_w36 : w3.cell? ⟨w2.heap.size, 6, none⟩ = some (.int .i64 (0)) := (hb3.cell (by simp)).trans (by simp [go_sem])
  clear hb3
  go_wp2_with fail
  refine (H2 _).mono ?_
  rintro e w4 ⟨rfl, hb4⟩
  have hw4 : Below w.heap.size w w4 := hw3.trans (hb4.mono hw3.size)
  have hs4 : w2.heap.size < w4.heap.size := Nat.lt_of_lt_of_le hs3 hb4.size
  have cy_w40 : w4.cell? ⟨w2.heap.size, 0, none⟩ = some (.bool ((b))) := (hb4.cell hs3).trans (by assumption)
  have cy_w41 : w4.cell? ⟨w2.heap.size, 1, none⟩ = some (.int .i64 (0)) := (hb4.cell hs3).trans (by assumption)
  have cy_w42 : w4.cell? ⟨w2.heap.size, 2, none⟩ = some (.int .i64 ((sel (b) xl))) := (hb4.cell hs3).trans (by assumption)
  have cy_w43 : w4.cell? ⟨w2.heap.size, 3, none⟩ = some (.int .i64 ((sel (b) xh))) := (hb4.cell hs3).trans (by assumption)
  have cy_w44 : w4.cell? ⟨w2.heap.size, 4, none⟩ = some (.int .i64 ((sel (b) (xa + by_)))) := (hb4.cell hs3).trans (by assumption)
  have cy_w45 : w4.cell? ⟨w2.heap.size, 5, none⟩ = some (.int .i64 ((sel (b) xp))) := (hb4.cell hs3).trans (by assumption)
  have cy_w46 : w4.cell? ⟨w2.heap.size, 6, none⟩ = some (.int .i64 (0)) := (hb4.cell hs3).trans (by assumption)
  have hne4 : w2.heap.size ≠ w4.heap.size := by omega
  clear hb4
  go_wp2_with fail
  refine (eqWordM _ _ _ _ _ _ _ _ _ _ _ _ _ _ _ ⟨rfl, rfl, rfl, rfl, rfl, rfl, rfl⟩).mono ?_
  rintro e w5 ⟨rfl, hb5⟩
  have hw5 : Below w.heap.size w w5 := (hw4.alloc hw4.size _).trans (hb5.mono (by have := hw4.size; simp; omega))
  clear hb5
  go_wp2_with fail
  go_ret
  exact ⟨rfl, hw5⟩

set_option maxRecDepth 100000 in
set_option maxHeartbeats 2000000 in
theorem entry_walk (m : Int) (f1 : (Lit.int .i64 m).wf = true) (a : Int) (f2 : (Lit.int .i64 a).wf = true) (w : World) :
    Calls Try.prog 8 #[.int .i64 m, .int .i64 a] w fun e w' => e = .returned (.bool true) ∧ Below w.heap.size w w' := by
  have H1 := specEntryM m a
  have H2 := entryM m a
  generalize entB m a = b at *
  go_enter Try.func8, Try.ntmps8
  go_wp2_with fail
  refine (H1 _).mono ?_
  rintro e w2 ⟨rfl, hb2⟩
  have hw2 : Below w.heap.size w w2 := hb2
  go_wp2_with fail
  refine (H2 _).mono ?_
  rintro e w4 ⟨rfl, hb4⟩
  have hs4 : w2.heap.size < w4.heap.size := by have := hb4.size; simp at this; omega
  have hw4 : Below w.heap.size w w4 := (hw2.alloc hw2.size _).trans (hb4.mono (by have := hw2.size; simp; omega))
  have cy_w40 : w4.cell? ⟨w2.heap.size, 0, none⟩ = some (.bool ((b))) := (hb4.cell (by simp)).trans (by simp [go_sem])
  have cy_w41 : w4.cell? ⟨w2.heap.size, 1, none⟩ = some (.int .i64 (0)) := (hb4.cell (by simp)).trans (by simp [go_sem])
  have cy_w42 : w4.cell? ⟨w2.heap.size, 2, none⟩ = some (.int .i64 (0)) := (hb4.cell (by simp)).trans (by simp [go_sem])
  have cy_w43 : w4.cell? ⟨w2.heap.size, 3, none⟩ = some (.int .i64 (0)) := (hb4.cell (by simp)).trans (by simp [go_sem])
  have cy_w44 : w4.cell? ⟨w2.heap.size, 4, none⟩ = some (.int .i64 ((sel (b) a))) := (hb4.cell (by simp)).trans (by simp [go_sem])
  have cy_w45 : w4.cell? ⟨w2.heap.size, 5, none⟩ = some (.int .i64 ((sel (b) 16))) := (hb4.cell (by simp)).trans (by simp [go_sem])
  have cy_w46 : w4.cell? ⟨w2.heap.size, 6, none⟩ = some (.int .i64 ((sel (b) (m + 1)))) := (hb4.cell (by simp)).trans (by simp [go_sem])
  have hne4 : w2.heap.size ≠ w4.heap.size := by omega
  clear hb4
  go_wp2_with fail
  refine (eqWordM _ _ _ _ _ _ _ _ _ _ _ _ _ _ _ ⟨rfl, rfl, rfl, rfl, rfl, rfl, rfl⟩).mono ?_
  rintro e w5 ⟨rfl, hb5⟩
  have hw5 : Below w.heap.size w w5 := (hw4.alloc hw4.size _).trans (hb5.mono (by have := hw4.size; simp; omega))
  clear hb5
  go_wp2_with fail
  go_ret
  exact ⟨rfl, hw5⟩
end Go.Proofs.Ytahfnenogeidpaa
