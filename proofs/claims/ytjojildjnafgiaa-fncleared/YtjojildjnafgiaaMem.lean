/- Slices of words: what reads there, seven cells a word. No function is walked here. -/
import Derived.Test.YtjojildjnafgiaaBase
namespace Go.Proofs.Ytjojildjnafgiaa
open Go.RowKit
set_option linter.unusedVariables false

/-- A word as data. -/
structure Wd where
  t : Bool
  n : Int
  l : Int
  h : Int
  a : Int
  p : Int
  s : Int

def Wd.vals (x : Wd) : List Value := [.bool x.t, .int .i64 x.n, .int .i64 x.l, .int .i64 x.h, .int .i64 x.a, .int .i64 x.p, .int .i64 x.s]
def zeroW : Wd := ⟨false, 0, 0, 0, 0, 0, 0⟩
def flat : List Wd → List Value
  | [] => []
  | x :: l => x.vals ++ flat l

theorem flat_append (l m : List Wd) : flat (l ++ m) = flat l ++ flat m := by
  induction l with
  | nil => rfl
  | cons x l ih => simp [flat, ih]

theorem flat_len (l : List Wd) : (flat l).length = l.length * 7 := by
  induction l with
  | nil => rfl
  | cons x l ih => simp [flat, Wd.vals, ih]; omega

/-- Field i of word k. -/
theorem flat_at (l : List Wd) (k i : Nat) (hi : i < 7) (x : Wd) (hk : l[k]? = some x) : (flat l)[k * 7 + i]? = x.vals[i]? := by
  induction l generalizing k with
  | nil => simp at hk
  | cons y l ih =>
    cases k with
    | zero =>
      simp only [List.getElem?_cons_zero, Option.some.injEq] at hk
      subst hk
      rw [flat, Nat.zero_mul, Nat.zero_add, List.getElem?_append_left (by simpa [Wd.vals] using hi)]
    | succ k =>
      rw [List.getElem?_cons_succ] at hk
      have e : (k + 1) * 7 + i = y.vals.length + (k * 7 + i) := by simp [Wd.vals]; omega
      rw [flat, e, List.getElem?_append_right (by omega), Nat.add_sub_cancel_left]
      exact ih k hk

/-- Seven cells set: one word set. -/
theorem flat_set (l : List Wd) (k : Nat) (x : Wd) (hk : k < l.length) :
    (((((((flat l).set (k * 7) (.bool x.t)).set (k * 7 + 1) (.int .i64 x.n)).set (k * 7 + 2) (.int .i64 x.l)).set (k * 7 + 3) (.int .i64 x.h)).set (k * 7 + 4) (.int .i64 x.a)).set (k * 7 + 5) (.int .i64 x.p)).set (k * 7 + 6) (.int .i64 x.s) = flat (l.set k x) := by
  induction l generalizing k with
  | nil => simp at hk
  | cons y l ih =>
    cases k with
    | zero => simp [flat, Wd.vals]
    | succ k =>
      have e : ∀ i v, ((y.vals ++ flat l).set ((k + 1) * 7 + i) v) = y.vals ++ (flat l).set (k * 7 + i) v := by
        intro i v
        have e1 : (k + 1) * 7 + i = y.vals.length + (k * 7 + i) := by simp [Wd.vals]; omega
        rw [e1, List.set_append_right _ _ (by omega), Nat.add_sub_cancel_left]
      have e' : ∀ i v (m : List Value), ((y.vals ++ m).set ((k + 1) * 7 + i) v) = y.vals ++ m.set (k * 7 + i) v := by
        intro i v m
        have e1 : (k + 1) * 7 + i = y.vals.length + (k * 7 + i) := by simp [Wd.vals]; omega
        rw [e1, List.set_append_right _ _ (by omega), Nat.add_sub_cancel_left]
      have e0 : ∀ v (m : List Value), ((y.vals ++ m).set ((k + 1) * 7) v) = y.vals ++ m.set (k * 7) v := fun v m => e' 0 v m
      rw [flat, e0, e', e', e', e', e', e', ih k (by simpa using hk)]
      rfl

/-- The slice at address a, of n words, reads as l. -/
def WRow (w : World) (a : Option Addr) (n : Nat) (l : List Wd) : Prop :=
  l.length = n ∧ (0 < n → ∃ b off, a = some ⟨b, off, none⟩ ∧ ∀ k v, (flat l)[k]? = some v → w.cell? ⟨b, off + k, none⟩ = some v)

theorem WRow.below {w w' : World} {a : Option Addr} {n : Nat} {l : List Wd} (h : WRow w a n l) (hb : Below w.heap.size w w') : WRow w' a n l := by
  refine ⟨h.1, fun hn => ?_⟩
  obtain ⟨b, off, ha, hc⟩ := h.2 hn
  refine ⟨b, off, ha, fun k v hv => ?_⟩
  have := hc k v hv
  rw [hb.cell (World.block_lt_of_cell? w _ this)]; exact this

theorem row_word {w : World} {b off k : Nat} {l : List Wd} (hc : ∀ k v, (flat l)[k]? = some v → w.cell? ⟨b, off + k, none⟩ = some v) {x : Wd} (hk : l[k]? = some x) :
    w.cell? ⟨b, off + k * 7, none⟩ = some (.bool x.t) ∧ w.cell? ⟨b, off + k * 7 + 1, none⟩ = some (.int .i64 x.n) ∧ w.cell? ⟨b, off + k * 7 + 2, none⟩ = some (.int .i64 x.l) ∧ w.cell? ⟨b, off + k * 7 + 3, none⟩ = some (.int .i64 x.h) ∧ w.cell? ⟨b, off + k * 7 + 4, none⟩ = some (.int .i64 x.a) ∧ w.cell? ⟨b, off + k * 7 + 5, none⟩ = some (.int .i64 x.p) ∧ w.cell? ⟨b, off + k * 7 + 6, none⟩ = some (.int .i64 x.s) := by
  have h : ∀ i, i < 7 → ∀ v, x.vals[i]? = some v → w.cell? ⟨b, off + k * 7 + i, none⟩ = some v := by
    intro i hi v hv
    rw [Nat.add_assoc]
    exact hc _ _ ((flat_at l k i hi x hk).trans hv)
  exact ⟨h 0 (by omega) _ rfl, h 1 (by omega) _ rfl, h 2 (by omega) _ rfl, h 3 (by omega) _ rfl, h 4 (by omega) _ rfl, h 5 (by omega) _ rfl, h 6 (by omega) _ rfl⟩

/-- Block g is a row of words, l. -/
def WB (w : World) (g : Nat) (l : List Wd) : Prop := w.heap[g]? = some (.cells (flat l).toArray 29 (0, 0))

theorem WB.row {w : World} {g n : Nat} {l : List Wd} (h : WB w g l) (hn : l.length = n) : WRow w (some ⟨g, 0, none⟩) n l :=
  ⟨hn, fun _ => ⟨g, 0, rfl, fun k v hv => by rw [cell_of_row w g (0 + k) _ _ (0, 0) h]; simpa using hv⟩⟩

theorem WB.frozen {w : World} {g : Nat} {l : List Wd} (h : WB w g l) (j : Nat) : w.frozen? ⟨g, j, none⟩ = false := frozen_of_row w g j _ _ h

theorem WB.below {w w' : World} {g B : Nat} {l : List Wd} (h : WB w g l) (hb : Below B w w') (hg : g < B) : WB w' g l := (hb.block g hg).trans h

theorem wset (w : World) (g i : Nat) (cs : List Value) (v : Value) (h : w.heap[g]? = some (.cells cs.toArray 29 (0, 0))) : (w.setCell ⟨g, i, none⟩ v).heap[g]? = some (.cells (cs.set i v).toArray 29 (0, 0)) := by
  rw [heap_setCell_same w g i _ _ _ h]; simp

/-- A word stored into a row of words. -/
theorem WB.set {w : World} {g k : Nat} {l : List Wd} (h : WB w g l) (x : Wd) (hk : k < l.length) :
    WB (((((((w.setCell ⟨g, k * 7, none⟩ (.bool x.t)).setCell ⟨g, k * 7 + 1, none⟩ (.int .i64 x.n)).setCell ⟨g, k * 7 + 2, none⟩ (.int .i64 x.l)).setCell ⟨g, k * 7 + 3, none⟩ (.int .i64 x.h)).setCell ⟨g, k * 7 + 4, none⟩ (.int .i64 x.a)).setCell ⟨g, k * 7 + 5, none⟩ (.int .i64 x.p)).setCell ⟨g, k * 7 + 6, none⟩ (.int .i64 x.s)) g (l.set k x) := by
  unfold WB
  rw [← flat_set l k x hk]
  exact wset _ _ _ _ _ (wset _ _ _ _ _ (wset _ _ _ _ _ (wset _ _ _ _ _ (wset _ _ _ _ _ (wset _ _ _ _ _ (wset _ _ _ _ _ h))))))

/-- The seven cells of word k of a row of words, and that they may be written. -/
theorem WB.word {w : World} {g k : Nat} {l : List Wd} (h : WB w g l) {x : Wd} (hk : l[k]? = some x) :
    w.cell? ⟨g, k * 7, none⟩ = some (.bool x.t) ∧ w.cell? ⟨g, k * 7 + 1, none⟩ = some (.int .i64 x.n) ∧ w.cell? ⟨g, k * 7 + 2, none⟩ = some (.int .i64 x.l) ∧ w.cell? ⟨g, k * 7 + 3, none⟩ = some (.int .i64 x.h) ∧ w.cell? ⟨g, k * 7 + 4, none⟩ = some (.int .i64 x.a) ∧ w.cell? ⟨g, k * 7 + 5, none⟩ = some (.int .i64 x.p) ∧ w.cell? ⟨g, k * 7 + 6, none⟩ = some (.int .i64 x.s) := by
  have hh : ∀ i, i < 7 → ∀ v, x.vals[i]? = some v → w.cell? ⟨g, k * 7 + i, none⟩ = some v := by
    intro i hi v hv
    rw [cell_of_row w g _ _ _ (0, 0) h]
    simpa using (flat_at l k i hi x hk).trans hv
  exact ⟨hh 0 (by omega) _ rfl, hh 1 (by omega) _ rfl, hh 2 (by omega) _ rfl, hh 3 (by omega) _ rfl, hh 4 (by omega) _ rfl, hh 5 (by omega) _ rfl, hh 6 (by omega) _ rfl⟩

theorem wtake_set (l m : List Wd) (k : Nat) (x : Wd) (hx : l[k]? = some x) (hm : k < m.length) : (l.take k ++ m.drop k).set k x = l.take (k + 1) ++ m.drop (k + 1) := by
  obtain ⟨hk, rfl⟩ := List.getElem?_eq_some_iff.1 hx
  have e : m.drop k = m[k] :: m.drop (k + 1) := by rw [List.drop_eq_getElem_cons hm]
  have e2 : l.take (k + 1) = l.take k ++ [l[k]] := by rw [List.take_succ_eq_append_getElem hk]
  rw [e, List.set_append_right _ _ (by simp; omega), e2]
  simp only [List.length_take, Nat.min_eq_left (Nat.le_of_lt hk), Nat.sub_self, List.set_cons_zero, List.append_assoc, List.cons_append, List.nil_append]

theorem below_put {B g : Nat} {a w : World} (h : Below B a w) (hg : B ≤ g) (o0 o1 o2 o3 o4 o5 o6 : Nat) (v0 v1 v2 v3 v4 v5 v6 : Value) : Below B a (((((((w.setCell ⟨g, o0, none⟩ v0).setCell ⟨g, o1, none⟩ v1).setCell ⟨g, o2, none⟩ v2).setCell ⟨g, o3, none⟩ v3).setCell ⟨g, o4, none⟩ v4).setCell ⟨g, o5, none⟩ v5).setCell ⟨g, o6, none⟩ v6) :=
  (((((((h.setCell hg _).setCell hg _).setCell hg _).setCell hg _).setCell hg _).setCell hg _).setCell hg _)

theorem old_block {w : World} {o : Obj} {j : Nat} (hj : j < w.heap.size) : (w.alloc o).heap[j]? = w.heap[j]? := ((Below.refl w.heap.size w).alloc (Nat.le_refl _) o).block j hj

theorem WB.other {w : World} {g k i : Nat} {l : List Wd} {v : Value} (h : WB w g l) (hne : g ≠ k) : WB (w.setCell ⟨k, i, none⟩ v) g l := (heap_setCell_other w ⟨k, i, none⟩ g v hne).trans h

theorem infoW : (Try.prog.info? 29).map (fun i => (i.zero, i.size, i.bytes)) = some (some (.agg #[.bool false, .int .i64 0, .int .i64 0, .int .i64 0, .int .i64 0, .int .i64 0, .int .i64 0]), 7, 56) := by kernel_rfl

theorem made_flat (n : Nat) : (madeCells #[.bool false, .int .i64 0, .int .i64 0, .int .i64 0, .int .i64 0, .int .i64 0, .int .i64 0] (n * 7)).toList = flat (List.replicate n zeroW) := by
  apply List.ext_getElem?
  intro j
  by_cases hj : j < n * 7
  · have h7 : j % 7 < 7 := Nat.mod_lt _ (by omega)
    have e : j = (j / 7) * 7 + j % 7 := by omega
    have hk : (List.replicate n zeroW)[j / 7]? = some zeroW := by rw [List.getElem?_replicate, if_pos (by omega)]
    rw [show (flat (List.replicate n zeroW))[j]? = (flat (List.replicate n zeroW))[(j / 7) * 7 + j % 7]? by rw [← e], flat_at _ _ _ h7 zeroW hk]
    simp only [madeCells, Array.toList_map, List.getElem?_map, Array.toList_range, List.getElem?_range hj, Option.map_some]
    show some (#[Value.bool false, .int .i64 0, .int .i64 0, .int .i64 0, .int .i64 0, .int .i64 0, .int .i64 0][j % 7]!) = _
    have : j % 7 = 0 ∨ j % 7 = 1 ∨ j % 7 = 2 ∨ j % 7 = 3 ∨ j % 7 = 4 ∨ j % 7 = 5 ∨ j % 7 = 6 := by omega
    rcases this with h | h | h | h | h | h | h <;> rw [h] <;> rfl
  · rw [List.getElem?_eq_none (by simp [madeCells]; omega), List.getElem?_eq_none (by rw [flat_len]; simp; omega)]

theorem block_of_ownsW {w : World} {base g n : Nat} {xs : List Value} (h : w.ownsRow base 29 7 (.slice (some ⟨g, 0, none⟩) n n) n xs) : w.heap[g]? = some (.cells xs.toArray 29 (0, 0)) := by
  rcases h.2 with ⟨h', _⟩ | ⟨g', cap, cur, h', _, hg, _, _, hs, ht⟩
  · simp at h'
  · simp only [Value.slice.injEq, Option.some.injEq, Addr.mk.injEq, and_true, true_and] at h'
    obtain ⟨rfl, rfl⟩ := h'
    rw [List.take_of_length_le (by rw [Array.length_toList]; omega)] at ht
    rw [hg, ← ht]
end Go.Proofs.Ytjojildjnafgiaa
