/- Slices of bytes: what reads there, and what a call owns. No function is walked here. -/
import Derived.Test.YtajnfknldofjlaaGreatDoorRows
import Derived.WalkKit
import Derived.ProofKit
import Derived.Deep.QuietTactic
import Derived.BigQuiet
import Derived.Laws.CopyOwn
import Derived.OpenShut
import Derived.WalkSmall
namespace Go.Proofs.YtajnfknldofjlaaGreatDoor
open Go.RowKit

/-- The slice at address a, of n elements, reads as the bytes l. -/
def BRow (w : World) (a : Option Addr) (n : Nat) (l : List Int) : Prop :=
  l.length = n ∧ (∀ x ∈ l, 0 ≤ x ∧ x ≤ 255) ∧ (0 < n → ∃ b off, a = some ⟨b, off, none⟩ ∧ ∀ i, i < n → w.cell? ⟨b, off + i, none⟩ = some (.int .u8 (l[i]?.getD 0)))

theorem BRow.below {w w' : World} {a : Option Addr} {n : Nat} {l : List Int} (h : BRow w a n l) (hb : Below w.heap.size w w') : BRow w' a n l := by
  refine ⟨h.1, h.2.1, fun hn => ?_⟩
  obtain ⟨b, off, ha, hc⟩ := h.2.2 hn
  refine ⟨b, off, ha, fun i hi => ?_⟩
  have := hc i hi
  rw [hb.cell (World.block_lt_of_cell? w _ this)]; exact this

theorem byte_at {l : List Int} (h : ∀ x ∈ l, 0 ≤ x ∧ x ≤ 255) (i : Nat) : 0 ≤ l[i]?.getD 0 ∧ l[i]?.getD 0 ≤ 255 := by
  by_cases hi : i < l.length
  · rw [List.getElem?_eq_getElem hi]; exact h _ (List.getElem_mem hi)
  · rw [List.getElem?_eq_none (by omega)]; simp

/-- What the row's shell hands over of a slice of bytes that came in. -/
def RowIn (k : IntKind) (w : World) (a : Option Addr) (len cap : Nat) (zs : List Int) : Prop :=
  (a = none ∧ len = 0 ∧ cap = 0 ∧ zs = []) ∨
  ∃ x, a = some x ∧ len ≤ cap ∧ cap ≤ maxLen ∧ zs.length = cap ∧ (∀ i, i < zs.length → w.cell? (x.add i) = some (.int k (zs.getD i 0))) ∧ ∀ n ∈ zs, (Lit.int k n).wf = true

theorem RowIn.row {w : World} {a : Option Addr} {n c : Nat} {zs : List Int} (h : RowIn .u8 w a n c zs) : BRow w a n (zs.take n) ∧ n ≤ c ∧ c ≤ maxLen := by
  rcases h with ⟨rfl, rfl, rfl, rfl⟩ | ⟨x, rfl, hl, hm, hz, hc, hw⟩
  · exact ⟨⟨rfl, by simp, by omega⟩, by omega, by simp⟩
  · refine ⟨⟨by simp; omega, fun x hx => ?_, fun hn => ?_⟩, hl, hm⟩
    · have := hw x (List.mem_of_mem_take hx)
      exact bounds_u8 this
    · obtain ⟨b, off, spot⟩ := x
      have h0 := hc 0 (by omega)
      have hspot : spot = none := by simpa [Addr.add] using World.cell?_spot h0
      subst hspot
      refine ⟨b, off, rfl, fun i hi => ?_⟩
      have := hc i (by omega)
      rw [Addr.add_lit] at this
      rw [this]
      have e : (zs.take n)[i]?.getD 0 = zs.getD i 0 := by simp [List.getD, hi]
      rw [e]

/-- What the call itself made: bytes in a row of its own, from block base on. -/
def Own (w : World) (base : Nat) (v : Value) (n : Nat) (l : List Int) : Prop :=
  w.ownsRow base 5 1 v n (l.map (Value.int .u8)) ∧ ∀ x ∈ l, 0 ≤ x ∧ x ≤ 255

theorem Own.below {w w' : World} {base : Nat} {v : Value} {n : Nat} {l : List Int} (h : Own w base v n l) (hb : Below w.heap.size w w') : Own w' base v n l := by
  refine ⟨⟨h.1.1, ?_⟩, h.2⟩
  rcases h.1.2 with hn | ⟨g, cap, cur, hv, hg, hh, r⟩
  · exact .inl hn
  · exact .inr ⟨g, cap, cur, hv, hg, by rw [hb.block g (Array.getElem?_eq_some_iff.1 hh).1]; exact hh, r⟩

theorem Own.kept {w w' : World} {base : Nat} {v : Value} {n : Nat} {l : List Int} {row : Option Nat} (h : Own w base v n l) (hg : w.grownBy w' row) (hne : v.ownBlock = none ∨ v.ownBlock ≠ row) : Own w' base v n l :=
  ⟨h.1.kept hg hne, h.2⟩

theorem Own.mono {w : World} {base base' : Nat} {v : Value} {n : Nat} {l : List Int} (h : Own w base v n l) (hb : base' ≤ base) : Own w base' v n l := by
  refine ⟨⟨h.1.1, ?_⟩, h.2⟩
  rcases h.1.2 with hn | ⟨g, cap, cur, hv, hg, r⟩
  · exact .inl hn
  · exact .inr ⟨g, cap, cur, hv, by omega, r⟩

/-- The shape of what is owned, and what reads there. -/
theorem Own.shape {w : World} {base : Nat} {v : Value} {n : Nat} {l : List Int} (h : Own w base v n l) :
    ∃ a c, v = .slice a n c ∧ n ≤ c ∧ c ≤ maxLen ∧ BRow w a n l ∧ ∀ k, v.ownBlock = some k → base ≤ k ∧ k < w.heap.size := by
  have hlt := h.1.lt
  obtain ⟨⟨hlen, hr⟩, hby⟩ := h
  rcases hr with ⟨rfl, rfl⟩ | ⟨g, cap, cur, rfl, hg, hh, hnc, hcm, hs, ht⟩
  · exact ⟨none, 0, rfl, by omega, by simp, ⟨by simpa using hlen, hby, by omega⟩, hlt⟩
  · refine ⟨some ⟨g, 0, none⟩, cap, rfl, hnc, hcm, ⟨by simpa using hlen, hby, fun hn => ⟨g, 0, rfl, fun i hi => ?_⟩⟩, hlt⟩
    rw [Nat.zero_add, cell_of_row w g i cur _ (0, 0) hh]
    have hl : l.length = n := by simpa using hlen
    have e : (cur.toList.take (n * 1))[i]? = cur[i]? := by rw [List.getElem?_take, if_pos (by omega)]; simp
    rw [← e, ht]
    simp [show i < l.length by omega]

theorem info5 : (Tryz.prog.info? 5).map (fun i => (i.zero, i.size, i.bytes)) = some (some (.int .u8 0), 1, 1) := by kernel_rfl

theorem ret_bool {a b : Bool} (h : a = b) : Ending.returned (.bool a) = .returned (.bool b) := by rw [h]
theorem ret_int {k : IntKind} {a b : Int} (h : a = b) : Ending.returned (.int k a) = .returned (.int k b) := by rw [h]

/-- One store further: the first j of l stand, behind them what was there. -/
theorem mapset (f : Int → Value) (l m : List Int) (j : Nat) (h : j < m.length) (hl : j < l.length) : ((l.take j ++ m.drop j).map f).set j (f (l[j]?.getD 0)) = (l.take (j + 1) ++ m.drop (j + 1)).map f := by
  have e : m.drop j = m[j] :: m.drop (j + 1) := by rw [List.drop_eq_getElem_cons h]
  have e2 : l.take (j + 1) = l.take j ++ [l[j]] := by rw [List.take_succ_eq_append_getElem hl]
  rw [e, List.map_append, List.set_append_right _ _ (by simp; omega), e2]
  simp only [List.length_map, List.length_take, Nat.min_eq_left (Nat.le_of_lt hl), Nat.sub_self, List.map_cons, List.set_cons_zero, List.map_append, List.append_assoc, List.cons_append, List.nil_append]
  rw [List.getElem?_eq_getElem hl]; rfl

/-- A row that is owned whole, as a block; and back. -/
theorem block_of_owns {w : World} {base g n : Nat} {xs : List Value} (h : w.ownsRow base 5 1 (.slice (some ⟨g, 0, none⟩) n n) n xs) : w.heap[g]? = some (.cells xs.toArray 5 (0, 0)) := by
  rcases h.2 with ⟨h', _⟩ | ⟨g', cap, cur, h', _, hg, _, _, hs, ht⟩
  · simp at h'
  · simp only [Value.slice.injEq, Option.some.injEq, Addr.mk.injEq, and_true, true_and] at h'
    obtain ⟨rfl, rfl⟩ := h'
    rw [List.take_of_length_le (by simp; omega)] at ht
    rw [hg, ← ht]

theorem own_of_block {w : World} {base g : Nat} {l : List Int} (hg : w.heap[g]? = some (.cells (l.map (Value.int .u8)).toArray 5 (0, 0))) (hb : base ≤ g) (hm : l.length ≤ maxLen) (hby : ∀ x ∈ l, 0 ≤ x ∧ x ≤ 255) :
    Own w base (.slice (some ⟨g, 0, none⟩) l.length l.length) l.length l :=
  ⟨⟨by simp, .inr ⟨g, l.length, _, rfl, hb, hg, Nat.le_refl _, hm, by simp, List.take_of_length_le (by simp)⟩⟩, hby⟩

/-- The cells of a row that reads as l, as the laws on copy and append ask them. -/
theorem BRow.pos {w : World} {a : Option Addr} {n : Nat} {l : List Int} (h : BRow w a n l) (hp : 0 < (l.map (Value.int .u8)).length) :
    ∃ ad, a = some ad ∧ ∀ j v, (l.map (Value.int .u8))[j]? = some v → w.cell? (ad.add j) = some v := by
  obtain ⟨b, off, rfl, hc⟩ := h.2.2 (by rw [← h.1]; simpa using hp)
  refine ⟨_, rfl, fun j v hv => ?_⟩
  have hj : j < l.length := by simpa using (List.getElem?_eq_some_iff.1 hv).1
  rw [Addr.add_lit, hc j (by rw [← h.1]; exact hj)]
  simpa [hj] using hv

/-- A call in world w came back in w' with a slice of its own that reads as l; all that was there is as it was. -/
structure Made (w w' : World) (a : Option Addr) (n c : Nat) (l : List Int) : Prop where
  own : Own w' w.heap.size (.slice a n c) n l
  row : BRow w' a n l
  cap : n ≤ c
  most : c ≤ maxLen
  nil : a = none → c = 0
  block : ∀ k, (Value.slice a n c).ownBlock = some k → w.heap.size ≤ k ∧ k < w'.heap.size
  below : Below w.heap.size w w'

theorem Own.made {w w' : World} {v : Value} {n : Nat} {l : List Int} (h : Own w' w.heap.size v n l) (hb : Below w.heap.size w w') : ∃ a c, v = .slice a n c ∧ Made w w' a n c l := by
  have hnil : ∀ c, v = .slice none n c → c = 0 := by
    intro c hv
    rcases h.1.2 with ⟨e, _⟩ | ⟨g, cap, cur, e, _⟩
    · rw [hv] at e; simp only [Value.slice.injEq] at e; exact e.2.2
    · rw [hv] at e; simp at e
  obtain ⟨a, c, rfl, h1, h2, h3, h4⟩ := h.shape
  exact ⟨a, c, rfl, h, h3, h1, h2, fun e => hnil c (by rw [e]), h4, hb⟩

theorem Calls.made {P : Program} {f : Nat} {args : Array Value} {w : World} {n : Nat} {l : List Int} (h : Calls P f args w fun e w' => ∃ v, e = .returned v ∧ Own w' w.heap.size v n l ∧ Below w.heap.size w w') :
    Calls P f args w fun e w' => ∃ a c, e = .returned (.slice a n c) ∧ Made w w' a n c l := by
  refine h.mono ?_
  rintro e w' ⟨v, rfl, ho, hb⟩
  obtain ⟨a, c, hv, hm⟩ := ho.made hb
  exact ⟨a, c, by rw [hv], hm⟩

theorem Own.row {w : World} {base : Nat} {a : Option Addr} {n c : Nat} {l : List Int} (h : Own w base (.slice a n c) n l) : BRow w a n l := by
  obtain ⟨a', c', e, _, _, hr, _⟩ := h.shape
  simp only [Value.slice.injEq, true_and] at e
  obtain ⟨rfl, rfl⟩ := e
  exact hr

theorem Own.keptBy {w w' : World} {base : Nat} {v : Value} {n : Nat} {l : List Int} {row : Option Nat} (h : Own w base v n l) (hg : w.grownBy w' row) (hne : ∀ k, v.ownBlock = some k → row ≠ some k) : Own w' base v n l := by
  refine h.kept hg ?_
  cases hv : v.ownBlock with
  | none => exact .inl rfl
  | some k => exact .inr (fun e => hne k hv e.symm)

theorem Own.drewN {w : World} {base : Nat} {v : Value} {n : Nat} {l : List Int} (h : Own w base v n l) (d : Nat) : Own (w.drewN d) base v n l := h
theorem BRow.drewN {w : World} {a : Option Addr} {n : Nat} {l : List Int} (h : BRow w a n l) (d : Nat) : BRow (w.drewN d) a n l := h
end Go.Proofs.YtajnfknldofjlaaGreatDoor
