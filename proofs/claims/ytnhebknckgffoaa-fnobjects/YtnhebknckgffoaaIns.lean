/- Instructions as values: what may be one, by what is built and by its model. -/
import Derived.Test.YtnhebknckgffoaaRows
import Derived.WalkKit
import Derived.ProofKit
import Derived.Deep.QuietTactic
import Derived.BigQuiet
import Derived.OpenShut
import Derived.Deep.Cut
namespace Go.Proofs.Ytnhebknckgffoaa
open Go.RowKit
set_option linter.unusedVariables false
set_option linter.unusedSimpArgs false
set_option maxRecDepth 100000

theorem rb {a b : Bool} (h : a = b) : Ending.returned (.bool a) = .returned (.bool b) := by rw [h]
theorem ri {k : IntKind} {a b : Int} (h : a = b) : Ending.returned (.int k a) = .returned (.int k b) := by rw [h]
theorem below_drewN {B : Nat} {a w : World} (h : Below B a w) (d : Nat) : Below B a (w.drewN d) := ⟨h.os, h.tape, h.output, h.size, h.block⟩

def wr (n : Int) : Int := wrap64 (wrap32 n)
def inR (n a b : Int) : Bool := decide (a ≤ n) && decide (n ≤ b)
def regB (n : Int) : Bool := inR n 0 7
def insB (xo xa xb xc xn xm : Int) : Bool := inR xo 1 22 && (regB xa && (regB xb && (regB xc && ((xn == wr xn) && (xm == wr xm)))))


theorem inRangeM (n a b : Int) (w : World) :
    Calls Try.prog 26 #[.int .i64 n, .int .i64 a, .int .i64 b] w fun e w' => e = .returned (.bool (inR n a b)) ∧ w' = w := by
  go_enter Try.func26, Try.ntmps26
  unfold inR
  by_cases h1 : a ≤ n
  · by_cases h2 : n ≤ b
    · go_wp2
      go_ret
      exact ⟨rb (by simp [h1, h2]), rfl⟩
    · go_wp2
      go_ret
      exact ⟨rb (by simp [h1, h2]), rfl⟩
  · go_wp2
    go_ret
    exact ⟨rb (by simp; omega), rfl⟩

theorem specWrapM (n : Int) (w : World) :
    Calls Try.prog 67 #[.int .i64 n] w fun e w' => e = .returned (.int .i64 (wr n)) ∧ w' = w := by
  go_enter Try.func67, Try.ntmps67
  go_wp2
  go_ret
  exact ⟨rfl, rfl⟩

theorem ins_facts (xo xa xb xc xn xm : Int) {w : World} {g : Nat} {t : TypeId} (h : w.heap[g]? = some (.cells #[.int .i64 xo, .int .i64 xa, .int .i64 xb, .int .i64 xc, .int .i64 xn, .int .i64 xm] t (0, 0))) :
    w.cell? ⟨g, 0, none⟩ = some (.int .i64 xo) ∧ w.cell? ⟨g, 1, none⟩ = some (.int .i64 xa) ∧ w.cell? ⟨g, 2, none⟩ = some (.int .i64 xb) ∧ w.cell? ⟨g, 3, none⟩ = some (.int .i64 xc) ∧ w.cell? ⟨g, 4, none⟩ = some (.int .i64 xn) ∧ w.cell? ⟨g, 5, none⟩ = some (.int .i64 xm) := by
  refine ⟨?_, ?_, ?_, ?_, ?_, ?_⟩
  all_goals (rw [cell_of_row w g _ _ _ (0, 0) h]; rfl)

theorem heap_new (w : World) (c : Array Value) (t : TypeId) : (w.alloc (.cells c t)).heap[w.heap.size]? = some (.cells c t (0, 0)) := heap_alloc_new w _

end Go.Proofs.Ytnhebknckgffoaa
