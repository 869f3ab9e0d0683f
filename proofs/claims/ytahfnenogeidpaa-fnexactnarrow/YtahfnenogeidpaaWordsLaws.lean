/- The laws of chapter 2 return true at every word and int, and write nothing that was there. -/
import Derived.Test.YtahfnenogeidpaaWords4
import Derived.WideShapes
namespace Go.Proofs.Ytahfnenogeidpaa
open Go.RowKit Go.WideShapes
set_option linter.unusedVariables false

/-- The six ints of a word are ints. -/
def Fits (n l h a p s : Int) : Prop := (Lit.int .i64 n).wf = true ∧ (Lit.int .i64 l).wf = true ∧ (Lit.int .i64 h).wf = true ∧ (Lit.int .i64 a).wf = true ∧ (Lit.int .i64 p).wf = true ∧ (Lit.int .i64 s).wf = true

theorem cell_bool {w : World} {b : Nat} {v : Value} (h : Cell.okWide Try.prog w .any b 4 v) : ∃ x, v = .bool x := by
  have h4 : Try.prog.underlying 4 = some .bool := by kernel_rfl
  simp only [Cell.okWide, h4] at h
  cases v <;> simp_all [Cell.ok]

theorem cell_int {w : World} {b : Nat} {v : Value} (h : Cell.okWide Try.prog w .any b 3 v) : ∃ x, v = .int .i64 x ∧ (Lit.int .i64 x).wf = true := by
  have h3 : Try.prog.underlying 3 = some (.int .i64) := by kernel_rfl
  simp only [Cell.okWide, h3] at h
  cases v <;> simp_all [Cell.ok, Lit.wf, IntKind.has]

theorem open_word {w : World} {b : Nat} {v : Value} (h : Value.okWide Try.prog w .any b 34 v) : ∃ (xt : Bool) (xn xl xh xa xp xs : Int), v = .agg #[.bool xt, .int .i64 xn, .int .i64 xl, .int .i64 xh, .int .i64 xa, .int .i64 xp, .int .i64 xs] ∧ Fits xn xl xh xa xp xs := by
  have ht : Try.prog.underlying 34 = some (.struct (Try.prog.fieldsOf 34)) := by kernel_rfl
  have hc : Try.prog.cellsOf 34 = 7 := by kernel_rfl
  have hts : Try.prog.cellTypes Try.prog.depth 34 = some [4, 3, 3, 3, 3, 3, 3] := by kernel_rfl
  simp only [Value.okWide, ht] at h
  obtain ⟨cs, rfl, hsz, ts, hts', _, hcell⟩ := h
  rw [hts] at hts'
  obtain rfl := Option.some.inj hts'
  rw [hc] at hsz
  obtain ⟨l⟩ := cs
  match l, hsz, hcell with
  | [v0, v1, v2, v3, v4, v5, v6], _, hcell =>
    obtain ⟨u0, e0, k0⟩ := hcell 0 v0 rfl
    obtain ⟨u1, e1, k1⟩ := hcell 1 v1 rfl
    obtain ⟨u2, e2, k2⟩ := hcell 2 v2 rfl
    obtain ⟨u3, e3, k3⟩ := hcell 3 v3 rfl
    obtain ⟨u4, e4, k4⟩ := hcell 4 v4 rfl
    obtain ⟨u5, e5, k5⟩ := hcell 5 v5 rfl
    obtain ⟨u6, e6, k6⟩ := hcell 6 v6 rfl
    obtain rfl := Option.some.inj e0
    obtain rfl := Option.some.inj e1
    obtain rfl := Option.some.inj e2
    obtain rfl := Option.some.inj e3
    obtain rfl := Option.some.inj e4
    obtain rfl := Option.some.inj e5
    obtain rfl := Option.some.inj e6
    obtain ⟨xt, rfl⟩ := cell_bool k0
    obtain ⟨xn, rfl, f1⟩ := cell_int k1
    obtain ⟨xl, rfl, f2⟩ := cell_int k2
    obtain ⟨xh, rfl, f3⟩ := cell_int k3
    obtain ⟨xa, rfl, f4⟩ := cell_int k4
    obtain ⟨xp, rfl, f5⟩ := cell_int k5
    obtain ⟨xs, rfl, f6⟩ := cell_int k6
    exact ⟨xt, xn, xl, xh, xa, xp, xs, rfl, f1, f2, f3, f4, f5, f6⟩

theorem in64_of {n : Int} (h : (Lit.int .i64 n).wf = true) : In64 n := by
  have := (bounds_i64 h); exact ⟨this.1, this.2⟩

set_option maxRecDepth 100000 in
set_option maxHeartbeats 2000000 in
theorem wordok_walk (xt : Bool) (xn xl xh xa xp xs : Int) (hf : Fits xn xl xh xa xp xs) (w : World) :
    Calls Try.prog 4 #[.agg #[.bool xt, .int .i64 xn, .int .i64 xl, .int .i64 xh, .int .i64 xa, .int .i64 xp, .int .i64 xs]] w fun e w' => e = .returned (.bool true) ∧ Below w.heap.size w w' := by
  have H1 := specOkM xt xn xl xh xa xp xs
  have H2 := implOkM xt xn xl xh xa xp xs (in64_of hf.2.2.2.2.2)
  generalize okB xt xn xl xh xa xp xs = b at *
  clear hf
  go_enter Try.func4, Try.ntmps4
  go_wp2_with fail
  refine (toWordM _ _ _ _ _ _ _ _).mono ?_
  rintro e w1 ⟨rfl, hb1⟩
  have hw1 : Below w.heap.size w w1 := (Below.alloc (Below.refl _ _) (Nat.le_refl _) _).trans (hb1.mono (by simp))
  have hs1 : w.heap.size < w1.heap.size := by have := hb1.size; simp at this; omega
  have cx_w10 : w1.cell? ⟨w.heap.size, 0, none⟩ = some (.bool (xt)) := (hb1.cell (by simp)).trans (by simp [go_sem])
  have cx_w11 : w1.cell? ⟨w.heap.size, 1, none⟩ = some (.int .i64 (xn)) := (hb1.cell (by simp)).trans (by simp [go_sem])
  have cx_w12 : w1.cell? ⟨w.heap.size, 2, none⟩ = some (.int .i64 (xl)) := (hb1.cell (by simp)).trans (by simp [go_sem])
  have cx_w13 : w1.cell? ⟨w.heap.size, 3, none⟩ = some (.int .i64 (xh)) := (hb1.cell (by simp)).trans (by simp [go_sem])
  have cx_w14 : w1.cell? ⟨w.heap.size, 4, none⟩ = some (.int .i64 (xa)) := (hb1.cell (by simp)).trans (by simp [go_sem])
  have cx_w15 : w1.cell? ⟨w.heap.size, 5, none⟩ = some (.int .i64 (xp)) := (hb1.cell (by simp)).trans (by simp [go_sem])
  have cx_w16 : w1.cell? ⟨w.heap.size, 6, none⟩ = some (.int .i64 (xs)) := (hb1.cell (by simp)).trans (by simp [go_sem])
  clear hb1
  go_wp2_with fail
  refine (H1 _).mono ?_
  rintro e w2 ⟨rfl, o, d, rfl⟩
  obtain ⟨w2, e2⟩ : ∃ w2, w2 = (w1.alloc o).drewN d := ⟨_, rfl⟩
  have hb2 : Below w1.heap.size w1 w2 := by rw [e2]; exact below_drewN ((Below.refl _ _).alloc (Nat.le_refl _) _) _
  rw [← e2]
  have hw2 : Below w.heap.size w w2 := hw1.trans (hb2.mono hw1.size)
  have hs2 : w.heap.size < w2.heap.size := Nat.lt_of_lt_of_le hs1 hb2.size
  have cx_w20 : w2.cell? ⟨w.heap.size, 0, none⟩ = some (.bool (xt)) := (hb2.cell hs1).trans (by assumption)
  have cx_w21 : w2.cell? ⟨w.heap.size, 1, none⟩ = some (.int .i64 (xn)) := (hb2.cell hs1).trans (by assumption)
  have cx_w22 : w2.cell? ⟨w.heap.size, 2, none⟩ = some (.int .i64 (xl)) := (hb2.cell hs1).trans (by assumption)
  have cx_w23 : w2.cell? ⟨w.heap.size, 3, none⟩ = some (.int .i64 (xh)) := (hb2.cell hs1).trans (by assumption)
  have cx_w24 : w2.cell? ⟨w.heap.size, 4, none⟩ = some (.int .i64 (xa)) := (hb2.cell hs1).trans (by assumption)
  have cx_w25 : w2.cell? ⟨w.heap.size, 5, none⟩ = some (.int .i64 (xp)) := (hb2.cell hs1).trans (by assumption)
  have cx_w26 : w2.cell? ⟨w.heap.size, 6, none⟩ = some (.int .i64 (xs)) := (hb2.cell hs1).trans (by assumption)
  clear e2 hb2
  go_wp2_with fail
  refine (toWordM _ _ _ _ _ _ _ _).mono ?_
  rintro e w3 ⟨rfl, hb3⟩
  have hw3 : Below w.heap.size w w3 := hw2.trans (hb3.mono hw2.size)
  go_wp2_with fail
  refine (H2 _).mono ?_
  rintro e w4 ⟨rfl, hb4⟩
  have hw4 : Below w.heap.size w w4 := hw3.trans (hb4.mono hw3.size)
  go_wp2_with fail
  go_ret
  exact ⟨rfl, hw4⟩
end Go.Proofs.Ytahfnenogeidpaa
