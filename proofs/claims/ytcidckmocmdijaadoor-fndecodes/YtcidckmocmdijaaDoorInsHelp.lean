/- Contracts of the laws' own helpers over slices of instructions. -/
import Derived.Test.YtcidckmocmdijaaDoorInsRow
import Derived.Test.YtcidckmocmdijaaDoorDecLaw
import Derived.Deep.RegionHeld3
namespace Go.Proofs.YtcidckmocmdijaaDoor
open Go.RowKit
set_option linter.unusedVariables false
set_option linter.unusedSimpArgs false
set_option maxRecDepth 100000

/-- The marks: instruction number i from k on. -/
def markI (k : Int) : In6 := ⟨k, k + 1, k + 2, k + 3, k + 4, k + 5⟩
def marksI (n : Nat) : List In6 := (List.range n).map fun (i : Nat) => markI (1 + 6 * (i : Int))

theorem marksI_at {n i : Nat} (h : i < n) : (marksI n)[i]? = some (markI (1 + 6 * (i : Int))) := by
  simp [marksI, h]

theorem marksI_step (l : List In6) (n i : Nat) (hl : l.length = n) (h : i < n) : ((marksI n).take i ++ l.drop i).set i (markI (1 + 6 * (i : Int))) = (marksI n).take (i + 1) ++ l.drop (i + 1) :=
  itake_set _ _ _ _ (marksI_at h) (by omega)

end Go.Proofs.YtcidckmocmdijaaDoor
