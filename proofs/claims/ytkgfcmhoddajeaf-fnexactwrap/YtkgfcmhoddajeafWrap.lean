/- The law of Wrap returns true at every int: both bodies are the same conversion. -/
import Derived.Test.YtkgfcmhoddajeafRows
import Derived.WalkKit
import Derived.ProofKit
namespace Go.Proofs.Ytkgfcmhoddajeaf
open Go.RowKit

theorem wrap_walk (a0 : Int) (w : World) :
    Calls Try.prog 3 #[.int .i64 a0] w fun e w' => e = .returned (.bool true) ∧ Grown w w' := by
  go_enter Try.func3, Try.ntmps3
  go_wp2
  go_ret
  exact ⟨rfl, by repeat (first | exact Grown.refl _ | apply Grown.drew | apply Grown.alloc)⟩
end Go.Proofs.Ytkgfcmhoddajeaf
