/- Contracts of the laws' own helpers over memories: how large, a copy, a comparison. -/
import Derived.Test.YtjojildjnafgiaaMemLaw
namespace Go.Proofs.Ytjojildjnafgiaa
open Go.RowKit
set_option linter.unusedVariables false

theorem one_facts {w : World} {k : Nat} {t : TypeId} {u : Value} (h : w.heap[k]? = some (.cells #[u] t (0, 0))) : w.cell? ⟨k, 0, none⟩ = some u ∧ w.frozen? ⟨k, 0, none⟩ = false :=
  ⟨by rw [cell_of_row w k 0 _ _ (0, 0) h]; rfl, frozen_of_row w k 0 _ _ h⟩

end Go.Proofs.Ytjojildjnafgiaa
