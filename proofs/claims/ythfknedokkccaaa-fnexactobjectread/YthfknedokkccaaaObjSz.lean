/- Contracts of the laws' own helpers that count how large exports and imports are. -/
import Derived.Test.YthfknedokkccaaaRec3b
import Derived.Deep.Cut
import Derived.Deep.CutRange
namespace Go.Proofs.Ythfknedokkccaaa
open Go.RowKit
set_option linter.unusedVariables false
set_option maxRecDepth 100000

def Fd.len : Fd → Nat
  | .b l => l.length
  | .n _ => 0
def D3.len (d : D3) : Nat := d.x.len + d.y.len + d.z.len
def dsum : List D3 → Nat
  | [] => 0
  | d :: l => d.len + dsum l

theorem dsum_append (l m : List D3) : dsum (l ++ m) = dsum l + dsum m := by
  induction l with
  | nil => simp [dsum]
  | cons x l ih => simp [dsum, ih]; omega

theorem dsum_next {ds : List D3} {k : Nat} {d : D3} (h : ds[k]? = some d) : dsum (ds.take (k + 1)) = dsum (ds.take k) + d.len := by
  obtain ⟨hk, rfl⟩ := List.getElem?_eq_some_iff.1 h
  rw [List.take_succ_eq_append_getElem hk, dsum_append]
  simp [dsum]

theorem dsum_take (ds : List D3) (k : Nat) : dsum (ds.take k) ≤ dsum ds := by
  have := dsum_append (ds.take k) (ds.drop k)
  rw [List.take_append_drop] at this
  omega

theorem len_le_dsum {ds : List D3} {d : D3} (h : d ∈ ds) : d.len ≤ dsum ds := by
  induction ds with
  | nil => simp at h
  | cons x l ih =>
    rcases List.mem_cons.1 h with rfl | h
    · simp [dsum]
    · have := ih h; simp [dsum]; omega

/-- What is left. -/
def szL (left : Int) (n : Nat) : Int := if (n : Int) ≤ left then left - (n : Int) else -1

theorem szL_yes {left : Int} {n : Nat} (h : (n : Int) ≤ left) : szL left n = left - (n : Int) := if_pos h
theorem szL_no {left : Int} {n : Nat} (h : ¬ (n : Int) ≤ left) : szL left n = -1 := if_neg h

end Go.Proofs.Ythfknedokkccaaa
