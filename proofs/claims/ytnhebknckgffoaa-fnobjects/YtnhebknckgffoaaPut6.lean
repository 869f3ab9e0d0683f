/- Six stores into an instruction's block. -/
import Derived.Test.YtnhebknckgffoaaRows
import Derived.WalkKit
import Derived.ProofKit
import Derived.Below
import Derived.OwnWalk
namespace Go.Proofs.Ytnhebknckgffoaa
open Go.RowKit

theorem grown_then {w w1 w2 : World} {row : Option Nat} (h1 : w.grownBy w1 row) (h2 : w1.grownBy w2 row) : w.grownBy w2 row :=
  ⟨h2.os.trans h1.os, h2.tape.trans h1.tape, h2.output.trans h1.output, Nat.le_trans h1.size h2.size, fun b hb hne => (h2.block b (Nat.lt_of_lt_of_le hb h1.size) hne).trans (h1.block b hb hne)⟩

theorem row6 {w : World} {k : Nat} {t : TypeId} {u0 u1 u2 u3 u4 u5 : Value} (h : w.heap[k]? = some (.cells #[u0, u1, u2, u3, u4, u5] t (0, 0))) :
    w.cell? ⟨k, 0, none⟩ = some u0 ∧ w.cell? ⟨k, 1, none⟩ = some u1 ∧ w.cell? ⟨k, 2, none⟩ = some u2 ∧ w.cell? ⟨k, 3, none⟩ = some u3 ∧ w.cell? ⟨k, 4, none⟩ = some u4 ∧ w.cell? ⟨k, 5, none⟩ = some u5 ∧ w.frozen? ⟨k, 0, none⟩ = false ∧ w.frozen? ⟨k, 1, none⟩ = false ∧ w.frozen? ⟨k, 2, none⟩ = false ∧ w.frozen? ⟨k, 3, none⟩ = false ∧ w.frozen? ⟨k, 4, none⟩ = false ∧ w.frozen? ⟨k, 5, none⟩ = false :=
  ⟨by rw [cell_of_row w k 0 _ _ (0, 0) h]; rfl, by rw [cell_of_row w k 1 _ _ (0, 0) h]; rfl, by rw [cell_of_row w k 2 _ _ (0, 0) h]; rfl, by rw [cell_of_row w k 3 _ _ (0, 0) h]; rfl, by rw [cell_of_row w k 4 _ _ (0, 0) h]; rfl, by rw [cell_of_row w k 5 _ _ (0, 0) h]; rfl, frozen_of_row w k 0 _ _ h, frozen_of_row w k 1 _ _ h, frozen_of_row w k 2 _ _ h, frozen_of_row w k 3 _ _ h, frozen_of_row w k 4 _ _ h, frozen_of_row w k 5 _ _ h⟩

/-- Six stores, one behind the other. -/
def put6 (w : World) (k : Nat) (v0 v1 v2 v3 v4 v5 : Value) : World := ((((((w.setCell ⟨k, 0, none⟩ v0).setCell ⟨k, 1, none⟩ v1).setCell ⟨k, 2, none⟩ v2).setCell ⟨k, 3, none⟩ v3).setCell ⟨k, 4, none⟩ v4).setCell ⟨k, 5, none⟩ v5)

theorem put6_block {w : World} {k : Nat} {t : TypeId} {u0 u1 u2 u3 u4 u5 : Value} (v0 v1 v2 v3 v4 v5 : Value) (h : w.heap[k]? = some (.cells #[u0, u1, u2, u3, u4, u5] t (0, 0))) :
    (put6 w k v0 v1 v2 v3 v4 v5).heap[k]? = some (.cells #[v0, v1, v2, v3, v4, v5] t (0, 0)) := by
  unfold put6
  rw [heap_setCell_same _ k 5 _ _ _ (heap_setCell_same _ k 4 _ _ _ (heap_setCell_same _ k 3 _ _ _ (heap_setCell_same _ k 2 _ _ _ (heap_setCell_same _ k 1 _ _ _ (heap_setCell_same _ k 0 _ _ _ h)))))]
  rfl

theorem heap_drew {w : World} {k : Nat} {o : Obj} (h : w.heap[k]? = some o) : w.drew.heap[k]? = some o := h

theorem put6_below {B : Nat} {a w : World} {k : Nat} (h : Below B a w) (hk : B ≤ k) (v0 v1 v2 v3 v4 v5 : Value) : Below B a (put6 w k v0 v1 v2 v3 v4 v5) := by
  unfold put6
  exact Below.setCell (Below.setCell (Below.setCell (Below.setCell (Below.setCell (Below.setCell h hk _) hk _) hk _) hk _) hk _) hk _
end Go.Proofs.Ytnhebknckgffoaa
