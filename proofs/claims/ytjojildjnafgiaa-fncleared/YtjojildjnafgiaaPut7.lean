/- Seven stores into a word's block. -/
import Derived.Test.YtjojildjnafgiaaRows
import Derived.WalkKit
import Derived.ProofKit
import Derived.Below
import Derived.OwnWalk
namespace Go.Proofs.Ytjojildjnafgiaa
open Go.RowKit

theorem grown_then {w w1 w2 : World} {row : Option Nat} (h1 : w.grownBy w1 row) (h2 : w1.grownBy w2 row) : w.grownBy w2 row :=
  ⟨h2.os.trans h1.os, h2.tape.trans h1.tape, h2.output.trans h1.output, Nat.le_trans h1.size h2.size, fun b hb hne => (h2.block b (Nat.lt_of_lt_of_le hb h1.size) hne).trans (h1.block b hb hne)⟩

theorem row_facts {w : World} {k : Nat} {u0 u1 u2 u3 u4 u5 u6 : Value} (h : w.heap[k]? = some (.cells #[u0, u1, u2, u3, u4, u5, u6] 29 (0, 0))) :
    w.cell? ⟨k, 0, none⟩ = some u0 ∧ w.cell? ⟨k, 1, none⟩ = some u1 ∧ w.cell? ⟨k, 2, none⟩ = some u2 ∧ w.cell? ⟨k, 3, none⟩ = some u3 ∧ w.cell? ⟨k, 4, none⟩ = some u4 ∧ w.cell? ⟨k, 5, none⟩ = some u5 ∧ w.cell? ⟨k, 6, none⟩ = some u6 ∧ w.frozen? ⟨k, 0, none⟩ = false ∧ w.frozen? ⟨k, 1, none⟩ = false ∧ w.frozen? ⟨k, 2, none⟩ = false ∧ w.frozen? ⟨k, 3, none⟩ = false ∧ w.frozen? ⟨k, 4, none⟩ = false ∧ w.frozen? ⟨k, 5, none⟩ = false ∧ w.frozen? ⟨k, 6, none⟩ = false :=
  ⟨by rw [cell_of_row w k 0 _ _ (0, 0) h]; rfl, by rw [cell_of_row w k 1 _ _ (0, 0) h]; rfl, by rw [cell_of_row w k 2 _ _ (0, 0) h]; rfl, by rw [cell_of_row w k 3 _ _ (0, 0) h]; rfl, by rw [cell_of_row w k 4 _ _ (0, 0) h]; rfl, by rw [cell_of_row w k 5 _ _ (0, 0) h]; rfl, by rw [cell_of_row w k 6 _ _ (0, 0) h]; rfl, frozen_of_row w k 0 _ _ h, frozen_of_row w k 1 _ _ h, frozen_of_row w k 2 _ _ h, frozen_of_row w k 3 _ _ h, frozen_of_row w k 4 _ _ h, frozen_of_row w k 5 _ _ h, frozen_of_row w k 6 _ _ h⟩

/-- Seven stores, one behind the other. -/
def put7 (w : World) (k : Nat) (v0 v1 v2 v3 v4 v5 v6 : Value) : World := (((((((w.setCell ⟨k, 0, none⟩ v0).setCell ⟨k, 1, none⟩ v1).setCell ⟨k, 2, none⟩ v2).setCell ⟨k, 3, none⟩ v3).setCell ⟨k, 4, none⟩ v4).setCell ⟨k, 5, none⟩ v5).setCell ⟨k, 6, none⟩ v6)

theorem put7_block {w : World} {k : Nat} {u0 u1 u2 u3 u4 u5 u6 : Value} (v0 v1 v2 v3 v4 v5 v6 : Value) (h : w.heap[k]? = some (.cells #[u0, u1, u2, u3, u4, u5, u6] 29 (0, 0))) :
    (put7 w k v0 v1 v2 v3 v4 v5 v6).heap[k]? = some (.cells #[v0, v1, v2, v3, v4, v5, v6] 29 (0, 0)) := by
  unfold put7
  rw [heap_setCell_same _ k 6 _ _ _ (heap_setCell_same _ k 5 _ _ _ (heap_setCell_same _ k 4 _ _ _ (heap_setCell_same _ k 3 _ _ _ (heap_setCell_same _ k 2 _ _ _ (heap_setCell_same _ k 1 _ _ _ (heap_setCell_same _ k 0 _ _ _ h))))))]
  rfl

theorem set_grown (w : World) (k i : Nat) (v : Value) : w.grownBy (w.setCell ⟨k, i, none⟩ v) (some k) :=
  ⟨rfl, rfl, rfl, by simp, fun j _ hj => heap_setCell_other w ⟨k, i, none⟩ j _ (fun e => hj (by simp [e]))⟩

theorem put7_grown (w : World) (k : Nat) (v0 v1 v2 v3 v4 v5 v6 : Value) : w.grownBy (put7 w k v0 v1 v2 v3 v4 v5 v6) (some k) := by
  unfold put7
  exact grown_then (grown_then (grown_then (grown_then (grown_then (grown_then (set_grown ..) (set_grown ..)) (set_grown ..)) (set_grown ..)) (set_grown ..)) (set_grown ..)) (set_grown ..)

theorem seven_first {p0 p1 p2 p3 p4 p5 p6 q : Prop} (h : p0 ∧ p1 ∧ p2 ∧ p3 ∧ p4 ∧ p5 ∧ p6 ∧ q) : p0 ∧ p1 ∧ p2 ∧ p3 ∧ p4 ∧ p5 ∧ p6 := ⟨h.1, h.2.1, h.2.2.1, h.2.2.2.1, h.2.2.2.2.1, h.2.2.2.2.2.1, h.2.2.2.2.2.2.1⟩
end Go.Proofs.Ytjojildjnafgiaa
