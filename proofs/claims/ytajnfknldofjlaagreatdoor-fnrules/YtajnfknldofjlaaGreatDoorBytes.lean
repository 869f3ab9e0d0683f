/- Contracts of the laws' own helpers over slices of bytes: a copy, a comparison, marks laid and looked for. -/
import Derived.Test.YtajnfknldofjlaaGreatDoorBase
namespace Go.Proofs.YtajnfknldofjlaaGreatDoor
open Go.RowKit

/-- One round of a copy into a row of one's own. -/
theorem copy_round {w wr : World} {g n k : Nat} {l m : List Int} (hl : l.length = n) (hm : m.length = n) (hk : k < n) (hB : w.heap.size ≤ g)
    (hown : wr.ownsRow w.heap.size 5 1 (.slice (some ⟨g, 0, none⟩) n n) n ((l.take k ++ m.drop k).map (Value.int .u8))) (hb : Below w.heap.size w wr) :
    (wr.setCell ⟨g, k, none⟩ (.int .u8 (l[k]?.getD 0))).ownsRow w.heap.size 5 1 (.slice (some ⟨g, 0, none⟩) n n) n ((l.take (k + 1) ++ m.drop (k + 1)).map (Value.int .u8)) ∧ Below w.heap.size w (wr.setCell ⟨g, k, none⟩ (.int .u8 (l[k]?.getD 0))) := by
  refine ⟨?_, hb.setCell hB _⟩
  have := (hown.stored k (.int .u8 (l[k]?.getD 0))).1
  rwa [mapset _ _ _ _ (by omega) (by omega)] at this

theorem take_next {l1 l2 : List Int} {k : Nat} (h : l1.take k = l2.take k) (h1 : k < l1.length) (h2 : k < l2.length) (hx : l1[k]?.getD 0 = l2[k]?.getD 0) : l1.take (k + 1) = l2.take (k + 1) := by
  rw [List.take_succ_eq_append_getElem h1, List.take_succ_eq_append_getElem h2, h]
  rw [List.getElem?_eq_getElem h1, List.getElem?_eq_getElem h2] at hx
  simp only [Option.getD_some] at hx
  rw [hx]

/-! Marks laid, and looked for -/
/-- The marks that are laid from k on into n places. -/
def marks (k n : Nat) : List Int := (List.range n).map fun i => (((k + i) % 256 : Nat) : Int)

theorem marks_length (k n : Nat) : (marks k n).length = n := by simp [marks]
theorem marks_byte (k n : Nat) : ∀ x ∈ marks k n, 0 ≤ x ∧ x ≤ 255 := by
  intro x hx
  obtain ⟨i, _, rfl⟩ := List.mem_map.1 hx
  omega
theorem marks_at (k n i : Nat) (h : i < n) : (marks k n)[i]?.getD 0 = (((k + i) % 256 : Nat) : Int) := by simp [marks, h]

theorem mark_round {w wr : World} {base g n cap k i : Nat} {m : List Int} (hm : m.length = n) (hi : i < n) (x : Int) (hx : x = (marks k n)[i]?.getD 0)
    (hown : wr.ownsRow base 5 1 (.slice (some ⟨g, 0, none⟩) n cap) n (((marks k n).take i ++ m.drop i).map (Value.int .u8))) (hg : w.grownBy wr (some g)) :
    (wr.setCell ⟨g, i, none⟩ (.int .u8 x)).ownsRow base 5 1 (.slice (some ⟨g, 0, none⟩) n cap) n (((marks k n).take (i + 1) ++ m.drop (i + 1)).map (Value.int .u8)) ∧ w.grownBy (wr.setCell ⟨g, i, none⟩ (.int .u8 x)) (some g) := by
  subst hx
  obtain ⟨h1, h2⟩ := hown.stored i (.int .u8 ((marks k n)[i]?.getD 0))
  rw [mapset _ _ _ _ (by omega) (by rw [marks_length]; omega)] at h1
  exact ⟨h1, h2.os.trans hg.os, h2.tape.trans hg.tape, h2.output.trans hg.output, Nat.le_trans hg.size h2.size, fun b hb hne => (h2.block b (Nat.lt_of_lt_of_le hb hg.size) hne).trans (hg.block b hb hne)⟩

end Go.Proofs.YtajnfknldofjlaaGreatDoor
