/- The laws of chapter 2 return true at every word and int, and write nothing that was there. -/
import Derived.Test.YtchchigiafacbaaDoorWords4
import Derived.WideShapes
namespace Go.Proofs.YtchchigiafacbaaDoor
open Go.RowKit Go.WideShapes
set_option linter.unusedVariables false
set_option maxRecDepth 100000

/-- The six ints of a word are ints. -/
def Fits (n l h a p s : Int) : Prop := (Lit.int .i64 n).wf = true ∧ (Lit.int .i64 l).wf = true ∧ (Lit.int .i64 h).wf = true ∧ (Lit.int .i64 a).wf = true ∧ (Lit.int .i64 p).wf = true ∧ (Lit.int .i64 s).wf = true

theorem cell_bool {w : World} {b : Nat} {v : Value} (h : Cell.okWide Tryd.prog w .any b 4 v) : ∃ x, v = .bool x := by
  have h4 : Tryd.prog.underlying 4 = some .bool := by kernel_rfl
  simp only [Cell.okWide, h4] at h
  cases v <;> simp_all [Cell.ok]

theorem cell_int {w : World} {b : Nat} {v : Value} (h : Cell.okWide Tryd.prog w .any b 3 v) : ∃ x, v = .int .i64 x ∧ (Lit.int .i64 x).wf = true := by
  have h3 : Tryd.prog.underlying 3 = some (.int .i64) := by kernel_rfl
  simp only [Cell.okWide, h3] at h
  cases v <;> simp_all [Cell.ok, Lit.wf, IntKind.has]

theorem open_word {w : World} {b : Nat} {v : Value} (h : Value.okWide Tryd.prog w .any b 47 v) : ∃ (xt : Bool) (xn xl xh xa xp xs : Int), v = .agg #[.bool xt, .int .i64 xn, .int .i64 xl, .int .i64 xh, .int .i64 xa, .int .i64 xp, .int .i64 xs] ∧ Fits xn xl xh xa xp xs := by
  have ht : Tryd.prog.underlying 47 = some (.struct (Tryd.prog.fieldsOf 47)) := by kernel_rfl
  have hc : Tryd.prog.cellsOf 47 = 7 := by kernel_rfl
  have hts : Tryd.prog.cellTypes Tryd.prog.depth 47 = some [4, 3, 3, 3, 3, 3, 3] := by kernel_rfl
  simp only [Value.okWide, ht] at h
  obtain ⟨cs, rfl, hsz, ts, hts', _, hcell⟩ := h
  rw [hts] at hts'
  obtain rfl := Option.some.inj hts'
  rw [hc] at hsz
  obtain ⟨l⟩ := cs
  match l, hsz, hcell with
  | [v0, v1, v2, v3, v4, v5, v6], _, hcell =>
    obtain ⟨u0, e0, k0⟩ := hcell 0 v0 rfl
    obtain ⟨u1, e1, k1⟩ := hcell 1 v1 rfl
    obtain ⟨u2, e2, k2⟩ := hcell 2 v2 rfl
    obtain ⟨u3, e3, k3⟩ := hcell 3 v3 rfl
    obtain ⟨u4, e4, k4⟩ := hcell 4 v4 rfl
    obtain ⟨u5, e5, k5⟩ := hcell 5 v5 rfl
    obtain ⟨u6, e6, k6⟩ := hcell 6 v6 rfl
    obtain rfl := Option.some.inj e0
    obtain rfl := Option.some.inj e1
    obtain rfl := Option.some.inj e2
    obtain rfl := Option.some.inj e3
    obtain rfl := Option.some.inj e4
    obtain rfl := Option.some.inj e5
    obtain rfl := Option.some.inj e6
    obtain ⟨xt, rfl⟩ := cell_bool k0
    obtain ⟨xn, rfl, f1⟩ := cell_int k1
    obtain ⟨xl, rfl, f2⟩ := cell_int k2
    obtain ⟨xh, rfl, f3⟩ := cell_int k3
    obtain ⟨xa, rfl, f4⟩ := cell_int k4
    obtain ⟨xp, rfl, f5⟩ := cell_int k5
    obtain ⟨xs, rfl, f6⟩ := cell_int k6
    exact ⟨xt, xn, xl, xh, xa, xp, xs, rfl, f1, f2, f3, f4, f5, f6⟩

theorem in64_of {n : Int} (h : (Lit.int .i64 n).wf = true) : In64 n := by
  have := (bounds_i64 h); exact ⟨this.1, this.2⟩

end Go.Proofs.YtchchigiafacbaaDoor
