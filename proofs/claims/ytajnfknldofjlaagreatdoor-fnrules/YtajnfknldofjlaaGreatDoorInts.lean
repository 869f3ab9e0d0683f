/- Slices of ints: what reads there; a copy and a comparison by the laws' helpers. -/
import Derived.Test.YtajnfknldofjlaaGreatDoorBytes
namespace Go.Proofs.YtajnfknldofjlaaGreatDoor
open Go.RowKit

/-- The slice at address a, of n elements, reads as the ints l. -/
def NRow (w : World) (a : Option Addr) (n : Nat) (l : List Int) : Prop :=
  l.length = n ∧ (∀ x ∈ l, -9223372036854775808 ≤ x ∧ x ≤ 9223372036854775807) ∧ (0 < n → ∃ b off, a = some ⟨b, off, none⟩ ∧ ∀ i, i < n → w.cell? ⟨b, off + i, none⟩ = some (.int .i64 (l[i]?.getD 0)))

theorem NRow.below {w w' : World} {a : Option Addr} {n : Nat} {l : List Int} (h : NRow w a n l) (hb : Below w.heap.size w w') : NRow w' a n l := by
  refine ⟨h.1, h.2.1, fun hn => ?_⟩
  obtain ⟨b, off, ha, hc⟩ := h.2.2 hn
  refine ⟨b, off, ha, fun i hi => ?_⟩
  have := hc i hi
  rw [hb.cell (World.block_lt_of_cell? w _ this)]; exact this

theorem int_at {l : List Int} (h : ∀ x ∈ l, -9223372036854775808 ≤ x ∧ x ≤ 9223372036854775807) (i : Nat) : -9223372036854775808 ≤ l[i]?.getD 0 ∧ l[i]?.getD 0 ≤ 9223372036854775807 := by
  by_cases hi : i < l.length
  · rw [List.getElem?_eq_getElem hi]; exact h _ (List.getElem_mem hi)
  · rw [List.getElem?_eq_none (by omega)]; simp

theorem RowIn.rowI {w : World} {a : Option Addr} {n c : Nat} {zs : List Int} (h : RowIn .i64 w a n c zs) : NRow w a n (zs.take n) ∧ n ≤ c ∧ c ≤ maxLen := by
  rcases h with ⟨rfl, rfl, rfl, rfl⟩ | ⟨x, rfl, hl, hm, hz, hc, hw⟩
  · exact ⟨⟨rfl, by simp, by omega⟩, by omega, by simp⟩
  · refine ⟨⟨by simp; omega, fun x hx => ?_, fun hn => ?_⟩, hl, hm⟩
    · have := hw x (List.mem_of_mem_take hx)
      exact bounds_i64 this
    · obtain ⟨b, off, spot⟩ := x
      have h0 := hc 0 (by omega)
      have hspot : spot = none := by simpa [Addr.add] using World.cell?_spot h0
      subst hspot
      refine ⟨b, off, rfl, fun i hi => ?_⟩
      have := hc i (by omega)
      rw [Addr.add_lit] at this
      rw [this]
      have e : (zs.take n)[i]?.getD 0 = zs.getD i 0 := by simp [List.getD, hi]
      rw [e]

/-- What the call itself made: ints in a row of its own, from block base on. -/
def IOwn (w : World) (base : Nat) (v : Value) (n : Nat) (l : List Int) : Prop :=
  w.ownsRow base 3 1 v n (l.map (Value.int .i64)) ∧ ∀ x ∈ l, -9223372036854775808 ≤ x ∧ x ≤ 9223372036854775807

theorem IOwn.below {w w' : World} {base : Nat} {v : Value} {n : Nat} {l : List Int} (h : IOwn w base v n l) (hb : Below w.heap.size w w') : IOwn w' base v n l := by
  refine ⟨⟨h.1.1, ?_⟩, h.2⟩
  rcases h.1.2 with hn | ⟨g, cap, cur, hv, hg, hh, r⟩
  · exact .inl hn
  · exact .inr ⟨g, cap, cur, hv, hg, by rw [hb.block g (Array.getElem?_eq_some_iff.1 hh).1]; exact hh, r⟩

/-- The shape of what is owned, and what reads there. -/
theorem IOwn.shape {w : World} {base : Nat} {v : Value} {n : Nat} {l : List Int} (h : IOwn w base v n l) :
    ∃ a c, v = .slice a n c ∧ n ≤ c ∧ c ≤ maxLen ∧ NRow w a n l ∧ ∀ k, v.ownBlock = some k → base ≤ k ∧ k < w.heap.size := by
  have hlt := h.1.lt
  obtain ⟨⟨hlen, hr⟩, hby⟩ := h
  rcases hr with ⟨rfl, rfl⟩ | ⟨g, cap, cur, rfl, hg, hh, hnc, hcm, hs, ht⟩
  · exact ⟨none, 0, rfl, by omega, by simp, ⟨by simpa using hlen, hby, by omega⟩, hlt⟩
  · refine ⟨some ⟨g, 0, none⟩, cap, rfl, hnc, hcm, ⟨by simpa using hlen, hby, fun hn => ⟨g, 0, rfl, fun i hi => ?_⟩⟩, hlt⟩
    rw [Nat.zero_add, cell_of_row w g i cur _ (0, 0) hh]
    have hl : l.length = n := by simpa using hlen
    have e : (cur.toList.take (n * 1))[i]? = cur[i]? := by rw [List.getElem?_take, if_pos (by omega)]; simp
    rw [← e, ht]
    simp [show i < l.length by omega]

theorem info3 : (Tryz.prog.info? 3).map (fun i => (i.zero, i.size, i.bytes)) = some (some (.int .i64 0), 1, 8) := by kernel_rfl

/-- One round of a copy into a row of one's own. -/
theorem copy_roundI {w wr : World} {g n k : Nat} {l m : List Int} (hl : l.length = n) (hm : m.length = n) (hk : k < n) (hB : w.heap.size ≤ g)
    (hown : wr.ownsRow w.heap.size 3 1 (.slice (some ⟨g, 0, none⟩) n n) n ((l.take k ++ m.drop k).map (Value.int .i64))) (hb : Below w.heap.size w wr) :
    (wr.setCell ⟨g, k, none⟩ (.int .i64 (l[k]?.getD 0))).ownsRow w.heap.size 3 1 (.slice (some ⟨g, 0, none⟩) n n) n ((l.take (k + 1) ++ m.drop (k + 1)).map (Value.int .i64)) ∧ Below w.heap.size w (wr.setCell ⟨g, k, none⟩ (.int .i64 (l[k]?.getD 0))) := by
  refine ⟨?_, hb.setCell hB _⟩
  have := (hown.stored k (.int .i64 (l[k]?.getD 0))).1
  rwa [mapset _ _ _ _ (by omega) (by omega)] at this

/-! Marks laid, and looked for -/
end Go.Proofs.YtajnfknldofjlaaGreatDoor
