/- Marks laid into a row of words, and found there; words of a memory cleared. -/
import Derived.Test.YtjojildjnafgiaaCopyW
import Derived.Laws.AppendOwnNone
import Derived.Deep.Cut
namespace Go.Proofs.Ytjojildjnafgiaa
open Go.RowKit
set_option linter.unusedVariables false
set_option linter.unusedSimpArgs false

/-- Nothing that was there has turned but block g. -/
structure But (w w' : World) (g : Nat) : Prop where
  below : Below g w w'
  rest : ∀ k, k < w.heap.size → k ≠ g → w'.heap[k]? = w.heap[k]?

theorem But.refl (w : World) (g : Nat) : But w w g := ⟨Below.refl _ _, fun _ _ _ => rfl⟩
theorem But.trans {w w1 w2 : World} {g : Nat} (h1 : But w w1 g) (h2 : But w1 w2 g) : But w w2 g :=
  ⟨h1.below.trans h2.below, fun k hk hne => (h2.rest k (Nat.lt_of_lt_of_le hk h1.below.size) hne).trans (h1.rest k hk hne)⟩
theorem But.set {w w1 : World} {g : Nat} (h : But w w1 g) (i : Nat) (v : Value) : But w (w1.setCell ⟨g, i, none⟩ v) g :=
  ⟨h.below.setCell (Nat.le_refl _) _, fun k hk hne => (heap_setCell_other w1 ⟨g, i, none⟩ k v hne).trans (h.rest k hk hne)⟩

/-- The marks: word number i from k on. -/
def markW (k : Int) : Wd := ⟨k % 3 == 0, k + 1, k + 2, k + 3, k + 4, k + 5, k + 6⟩
def marks (n : Nat) : List Wd := (List.range n).map fun (i : Nat) => markW (1 + 7 * (i : Int))

theorem marks_at {n i : Nat} (h : i < n) : (marks n)[i]? = some (markW (1 + 7 * (i : Int))) := by
  simp [marks, h]

theorem marks_step (l : List Wd) (n i : Nat) (hl : l.length = n) (h : i < n) : ((marks n).take i ++ l.drop i).set i (markW (1 + 7 * (i : Int))) = (marks n).take (i + 1) ++ l.drop (i + 1) :=
  wtake_set _ _ _ _ (marks_at h) (by omega)

theorem marks_all (l : List Wd) (n : Nat) (hl : l.length = n) : (marks n).take n ++ l.drop n = marks n := by
  rw [List.take_of_length_le (by simp [marks]), List.drop_of_length_le (by omega), List.append_nil]

theorem But.alloc {w w1 : World} {g : Nat} {o : Obj} (h : But (w.alloc o) w1 g) (hg : g ≠ w.heap.size) (hlt : g < w.heap.size) : But w w1 g :=
  ⟨((Below.refl _ _).alloc (Nat.le_of_lt hlt) _).trans h.below, fun k hk hne => (h.rest k (by simp; omega) hne).trans (old_block hk)⟩

end Go.Proofs.Ytjojildjnafgiaa
