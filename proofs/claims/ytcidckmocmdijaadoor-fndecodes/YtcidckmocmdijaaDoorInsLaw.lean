/- The law of InsOk returns true at every instruction, and writes nothing that was there. -/
import Derived.Test.YtcidckmocmdijaaDoorInsOk
import Derived.WideShapes
namespace Go.Proofs.YtcidckmocmdijaaDoor
open Go.RowKit Go.WideShapes
set_option linter.unusedVariables false
set_option linter.unusedSimpArgs false
set_option maxRecDepth 100000

/-- The six ints of an instruction are ints. -/
def Fits6 (xo xa xb xc xn xm : Int) : Prop := (Lit.int .i64 xo).wf = true ∧ (Lit.int .i64 xa).wf = true ∧ (Lit.int .i64 xb).wf = true ∧ (Lit.int .i64 xc).wf = true ∧ (Lit.int .i64 xn).wf = true ∧ (Lit.int .i64 xm).wf = true

theorem cell_int {w : World} {b : Nat} {v : Value} (h : Cell.okWide Tryd.prog w .any b 3 v) : ∃ x, v = .int .i64 x ∧ (Lit.int .i64 x).wf = true := by
  have h3 : Tryd.prog.underlying 3 = some (.int .i64) := by kernel_rfl
  simp only [Cell.okWide, h3] at h
  cases v <;> simp_all [Cell.ok, Lit.wf, IntKind.has]

end Go.Proofs.YtcidckmocmdijaaDoor
