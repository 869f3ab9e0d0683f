/- The law of Arith returns true at every three ints. -/
import Derived.Test.YtjbmgmiehmofoaaArith
namespace Go.Proofs.Ytjbmgmiehmofoaa
open Go.RowKit
set_option linter.unusedVariables false
set_option maxRecDepth 100000

theorem arith_walk (a0 a1 a2 : Int) (w : World) :
    Calls Try.prog 4 #[.int .i64 a0, .int .i64 a1, .int .i64 a2] w fun e w' => e = .returned (.bool true) ∧ Grown w w' := by
  have H1 := specArithM a0 a1 a2
  have H2 := arithM a0 a1 a2
  generalize arV a0 (wr a1) (wr a2) = v at *
  generalize arT a0 (wr a2) = t at *
  go_enter Try.func4, Try.ntmps4
  go_wp2_with fail
  refine (H1 _).mono ?_
  rintro e w1 ⟨rfl, rfl⟩
  go_wp2_with fail
  refine (H2 _).mono ?_
  rintro e w1 ⟨rfl, rfl⟩
  go_wp2
  go_ret
  exact ⟨rfl, by repeat (first | exact Grown.refl _ | apply Grown.drew | apply Grown.alloc)⟩
end Go.Proofs.Ytjbmgmiehmofoaa
