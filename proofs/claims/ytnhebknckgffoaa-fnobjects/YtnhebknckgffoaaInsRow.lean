/- Slices of instructions: what reads there, six cells each. No function is walked here. -/
import Derived.Test.YtnhebknckgffoaaBase
import Derived.Test.YtnhebknckgffoaaPut6
namespace Go.Proofs.Ytnhebknckgffoaa
open Go.RowKit
set_option linter.unusedVariables false

/-- An instruction as data. -/
structure In6 where
  o : Int
  a : Int
  b : Int
  c : Int
  n : Int
  m : Int

def In6.vals (x : In6) : List Value := [.int .i64 x.o, .int .i64 x.a, .int .i64 x.b, .int .i64 x.c, .int .i64 x.n, .int .i64 x.m]
def zeroI : In6 := ⟨0, 0, 0, 0, 0, 0⟩
def flatI : List In6 → List Value
  | [] => []
  | x :: l => x.vals ++ flatI l

theorem flatI_len (l : List In6) : (flatI l).length = l.length * 6 := by
  induction l with
  | nil => rfl
  | cons x l ih => simp [flatI, In6.vals, ih]; omega

/-- Field i of instruction k. -/
theorem flatI_at (l : List In6) (k i : Nat) (hi : i < 6) (x : In6) (hk : l[k]? = some x) : (flatI l)[k * 6 + i]? = x.vals[i]? := by
  induction l generalizing k with
  | nil => simp at hk
  | cons y l ih =>
    cases k with
    | zero =>
      simp only [List.getElem?_cons_zero, Option.some.injEq] at hk
      subst hk
      rw [flatI, Nat.zero_mul, Nat.zero_add, List.getElem?_append_left (by simpa [In6.vals] using hi)]
    | succ k =>
      rw [List.getElem?_cons_succ] at hk
      have e : (k + 1) * 6 + i = y.vals.length + (k * 6 + i) := by simp [In6.vals]; omega
      rw [flatI, e, List.getElem?_append_right (by omega), Nat.add_sub_cancel_left]
      exact ih k hk

/-- Six cells set: one instruction set. -/
theorem flatI_set (l : List In6) (k : Nat) (x : In6) (hk : k < l.length) :
    ((((((flatI l).set (k * 6) (.int .i64 x.o)).set (k * 6 + 1) (.int .i64 x.a)).set (k * 6 + 2) (.int .i64 x.b)).set (k * 6 + 3) (.int .i64 x.c)).set (k * 6 + 4) (.int .i64 x.n)).set (k * 6 + 5) (.int .i64 x.m) = flatI (l.set k x) := by
  induction l generalizing k with
  | nil => simp at hk
  | cons y l ih =>
    cases k with
    | zero => simp [flatI, In6.vals]
    | succ k =>
      have e' : ∀ i v (m : List Value), ((y.vals ++ m).set ((k + 1) * 6 + i) v) = y.vals ++ m.set (k * 6 + i) v := by
        intro i v m
        have e1 : (k + 1) * 6 + i = y.vals.length + (k * 6 + i) := by simp [In6.vals]; omega
        rw [e1, List.set_append_right _ _ (by omega), Nat.add_sub_cancel_left]
      have e0 : ∀ v (m : List Value), ((y.vals ++ m).set ((k + 1) * 6) v) = y.vals ++ m.set (k * 6) v := fun v m => e' 0 v m
      rw [flatI, e0, e', e', e', e', e', ih k (by simpa using hk)]
      rfl

/-- The slice at address a, of n instructions, reads as l. -/
def IRow (w : World) (a : Option Addr) (n : Nat) (l : List In6) : Prop :=
  l.length = n ∧ (0 < n → ∃ b off, a = some ⟨b, off, none⟩ ∧ ∀ k v, (flatI l)[k]? = some v → w.cell? ⟨b, off + k, none⟩ = some v)

theorem IRow.below {w w' : World} {a : Option Addr} {n : Nat} {l : List In6} (h : IRow w a n l) (hb : Below w.heap.size w w') : IRow w' a n l := by
  refine ⟨h.1, fun hn => ?_⟩
  obtain ⟨b, off, ha, hc⟩ := h.2 hn
  refine ⟨b, off, ha, fun k v hv => ?_⟩
  have := hc k v hv
  rw [hb.cell (World.block_lt_of_cell? w _ this)]; exact this

theorem row_ins {w : World} {b off k : Nat} {l : List In6} (hc : ∀ k v, (flatI l)[k]? = some v → w.cell? ⟨b, off + k, none⟩ = some v) {x : In6} (hk : l[k]? = some x) :
    w.cell? ⟨b, off + k * 6, none⟩ = some (.int .i64 x.o) ∧ w.cell? ⟨b, off + k * 6 + 1, none⟩ = some (.int .i64 x.a) ∧ w.cell? ⟨b, off + k * 6 + 2, none⟩ = some (.int .i64 x.b) ∧ w.cell? ⟨b, off + k * 6 + 3, none⟩ = some (.int .i64 x.c) ∧ w.cell? ⟨b, off + k * 6 + 4, none⟩ = some (.int .i64 x.n) ∧ w.cell? ⟨b, off + k * 6 + 5, none⟩ = some (.int .i64 x.m) := by
  have h : ∀ i, i < 6 → ∀ v, x.vals[i]? = some v → w.cell? ⟨b, off + k * 6 + i, none⟩ = some v := by
    intro i hi v hv
    rw [Nat.add_assoc]
    exact hc _ _ ((flatI_at l k i hi x hk).trans hv)
  exact ⟨h 0 (by omega) _ rfl, h 1 (by omega) _ rfl, h 2 (by omega) _ rfl, h 3 (by omega) _ rfl, h 4 (by omega) _ rfl, h 5 (by omega) _ rfl⟩

/-- The walk's six facts of an element. -/
theorem IRow.el {w : World} {b off n : Nat} {l : List In6} (h : IRow w (some ⟨b, off, none⟩) n l) {k : Nat} (hk : k < n) : ∃ x, l[k]? = some x ∧ w.cell? ⟨b, off + k * 6, none⟩ = some (.int .i64 x.o) ∧ w.cell? ⟨b, off + k * 6 + 1, none⟩ = some (.int .i64 x.a) ∧ w.cell? ⟨b, off + k * 6 + 2, none⟩ = some (.int .i64 x.b) ∧ w.cell? ⟨b, off + k * 6 + 3, none⟩ = some (.int .i64 x.c) ∧ w.cell? ⟨b, off + k * 6 + 4, none⟩ = some (.int .i64 x.n) ∧ w.cell? ⟨b, off + k * 6 + 5, none⟩ = some (.int .i64 x.m) := by
  obtain ⟨b', off', e, hc⟩ := h.2 (by omega)
  simp only [Option.some.injEq, Addr.mk.injEq, and_true] at e
  obtain ⟨rfl, rfl⟩ := e
  exact ⟨_, List.getElem?_eq_getElem (by rw [h.1]; exact hk), row_ins hc (List.getElem?_eq_getElem (by rw [h.1]; exact hk))⟩

/-- Block g is a row of instructions, l. -/
def IB (w : World) (g : Nat) (l : List In6) : Prop := w.heap[g]? = some (.cells (flatI l).toArray 92 (0, 0))

theorem IB.row {w : World} {g n : Nat} {l : List In6} (h : IB w g l) (hn : l.length = n) : IRow w (some ⟨g, 0, none⟩) n l :=
  ⟨hn, fun _ => ⟨g, 0, rfl, fun k v hv => by rw [cell_of_row w g (0 + k) _ _ (0, 0) h]; simpa using hv⟩⟩
theorem IB.lt {w : World} {g : Nat} {l : List In6} (h : IB w g l) : g < w.heap.size := (Array.getElem?_eq_some_iff.1 h).1
theorem IB.frozen {w : World} {g : Nat} {l : List In6} (h : IB w g l) (j : Nat) : w.frozen? ⟨g, j, none⟩ = false := frozen_of_row w g j _ _ h
theorem IB.below {w w' : World} {g B : Nat} {l : List In6} (h : IB w g l) (hb : Below B w w') (hg : g < B) : IB w' g l := (hb.block g hg).trans h

theorem iset (w : World) (g i : Nat) (cs : List Value) (v : Value) (h : w.heap[g]? = some (.cells cs.toArray 92 (0, 0))) : (w.setCell ⟨g, i, none⟩ v).heap[g]? = some (.cells (cs.set i v).toArray 92 (0, 0)) := by
  rw [heap_setCell_same w g i _ _ _ h]; simp

/-- An instruction stored into a row of them. -/
theorem IB.set {w : World} {g k : Nat} {l : List In6} (h : IB w g l) (x : In6) (hk : k < l.length) :
    IB ((((((w.setCell ⟨g, k * 6, none⟩ (.int .i64 x.o)).setCell ⟨g, k * 6 + 1, none⟩ (.int .i64 x.a)).setCell ⟨g, k * 6 + 2, none⟩ (.int .i64 x.b)).setCell ⟨g, k * 6 + 3, none⟩ (.int .i64 x.c)).setCell ⟨g, k * 6 + 4, none⟩ (.int .i64 x.n)).setCell ⟨g, k * 6 + 5, none⟩ (.int .i64 x.m)) g (l.set k x) := by
  unfold IB
  rw [← flatI_set l k x hk]
  exact iset _ _ _ _ _ (iset _ _ _ _ _ (iset _ _ _ _ _ (iset _ _ _ _ _ (iset _ _ _ _ _ (iset _ _ _ _ _ h)))))

theorem IB.ins {w : World} {g k : Nat} {l : List In6} (h : IB w g l) {x : In6} (hk : l[k]? = some x) :
    w.cell? ⟨g, k * 6, none⟩ = some (.int .i64 x.o) ∧ w.cell? ⟨g, k * 6 + 1, none⟩ = some (.int .i64 x.a) ∧ w.cell? ⟨g, k * 6 + 2, none⟩ = some (.int .i64 x.b) ∧ w.cell? ⟨g, k * 6 + 3, none⟩ = some (.int .i64 x.c) ∧ w.cell? ⟨g, k * 6 + 4, none⟩ = some (.int .i64 x.n) ∧ w.cell? ⟨g, k * 6 + 5, none⟩ = some (.int .i64 x.m) := by
  have h : ∀ i, i < 6 → ∀ v, x.vals[i]? = some v → w.cell? ⟨g, k * 6 + i, none⟩ = some v := by
    intro i hi v hv
    rw [cell_of_row w g _ _ _ (0, 0) h]
    simpa using (flatI_at l k i hi x hk).trans hv
  exact ⟨h 0 (by omega) _ rfl, h 1 (by omega) _ rfl, h 2 (by omega) _ rfl, h 3 (by omega) _ rfl, h 4 (by omega) _ rfl, h 5 (by omega) _ rfl⟩

theorem itake_set (l m : List In6) (k : Nat) (x : In6) (hx : l[k]? = some x) (hm : k < m.length) : (l.take k ++ m.drop k).set k x = l.take (k + 1) ++ m.drop (k + 1) := by
  obtain ⟨hk, rfl⟩ := List.getElem?_eq_some_iff.1 hx
  have e : m.drop k = m[k] :: m.drop (k + 1) := by rw [List.drop_eq_getElem_cons hm]
  have e2 : l.take (k + 1) = l.take k ++ [l[k]] := by rw [List.take_succ_eq_append_getElem hk]
  rw [e, List.set_append_right _ _ (by simp; omega), e2]
  simp only [List.length_take, Nat.min_eq_left (Nat.le_of_lt hk), Nat.sub_self, List.set_cons_zero, List.append_assoc, List.cons_append, List.nil_append]

theorem below_put6 {B g : Nat} {a w : World} (h : Below B a w) (hg : B ≤ g) (o0 o1 o2 o3 o4 o5 : Nat) (v0 v1 v2 v3 v4 v5 : Value) : Below B a ((((((w.setCell ⟨g, o0, none⟩ v0).setCell ⟨g, o1, none⟩ v1).setCell ⟨g, o2, none⟩ v2).setCell ⟨g, o3, none⟩ v3).setCell ⟨g, o4, none⟩ v4).setCell ⟨g, o5, none⟩ v5) :=
  ((((((h.setCell hg _).setCell hg _).setCell hg _).setCell hg _).setCell hg _).setCell hg _)

theorem old_block {w : World} {o : Obj} {j : Nat} (hj : j < w.heap.size) : (w.alloc o).heap[j]? = w.heap[j]? := ((Below.refl w.heap.size w).alloc (Nat.le_refl _) o).block j hj

theorem infoI : (Try.prog.info? 92).map (fun i => (i.zero, i.size, i.bytes)) = some (some (.agg #[.int .i64 0, .int .i64 0, .int .i64 0, .int .i64 0, .int .i64 0, .int .i64 0]), 6, 48) := by kernel_rfl

theorem made_flatI (n : Nat) : (madeCells #[.int .i64 0, .int .i64 0, .int .i64 0, .int .i64 0, .int .i64 0, .int .i64 0] (n * 6)).toList = flatI (List.replicate n zeroI) := by
  apply List.ext_getElem?
  intro j
  by_cases hj : j < n * 6
  · have h7 : j % 6 < 6 := Nat.mod_lt _ (by omega)
    have e : j = (j / 6) * 6 + j % 6 := by omega
    have hk : (List.replicate n zeroI)[j / 6]? = some zeroI := by rw [List.getElem?_replicate, if_pos (by omega)]
    rw [show (flatI (List.replicate n zeroI))[j]? = (flatI (List.replicate n zeroI))[(j / 6) * 6 + j % 6]? by rw [← e], flatI_at _ _ _ h7 zeroI hk]
    simp only [madeCells, Array.toList_map, List.getElem?_map, Array.toList_range, List.getElem?_range hj, Option.map_some]
    show some (#[Value.int .i64 0, .int .i64 0, .int .i64 0, .int .i64 0, .int .i64 0, .int .i64 0][j % 6]!) = _
    have : j % 6 = 0 ∨ j % 6 = 1 ∨ j % 6 = 2 ∨ j % 6 = 3 ∨ j % 6 = 4 ∨ j % 6 = 5 := by omega
    rcases this with h | h | h | h | h | h <;> rw [h] <;> rfl
  · rw [List.getElem?_eq_none (by simp [madeCells]; omega), List.getElem?_eq_none (by rw [flatI_len]; simp; omega)]

theorem block_of_ownsI {w : World} {base g n : Nat} {xs : List Value} (h : w.ownsRow base 92 6 (.slice (some ⟨g, 0, none⟩) n n) n xs) : w.heap[g]? = some (.cells xs.toArray 92 (0, 0)) := by
  rcases h.2 with ⟨h', _⟩ | ⟨g', cap, cur, h', _, hg, _, _, hs, ht⟩
  · simp at h'
  · simp only [Value.slice.injEq, Option.some.injEq, Addr.mk.injEq, and_true, true_and] at h'
    obtain ⟨rfl, rfl⟩ := h'
    rw [List.take_of_length_le (by rw [Array.length_toList]; omega)] at ht
    rw [hg, ← ht]

/-- Nothing that was there has turned but block g. -/
structure But (w w' : World) (g : Nat) : Prop where
  below : Below g w w'
  rest : ∀ k, k < w.heap.size → k ≠ g → w'.heap[k]? = w.heap[k]?

theorem But.refl (w : World) (g : Nat) : But w w g := ⟨Below.refl _ _, fun _ _ _ => rfl⟩
theorem But.trans {w w1 w2 : World} {g : Nat} (h1 : But w w1 g) (h2 : But w1 w2 g) : But w w2 g :=
  ⟨h1.below.trans h2.below, fun k hk hne => (h2.rest k (Nat.lt_of_lt_of_le hk h1.below.size) hne).trans (h1.rest k hk hne)⟩
theorem But.set {w w1 : World} {g : Nat} (h : But w w1 g) (i : Nat) (v : Value) : But w (w1.setCell ⟨g, i, none⟩ v) g :=
  ⟨h.below.setCell (Nat.le_refl _) _, fun k hk hne => (heap_setCell_other w1 ⟨g, i, none⟩ k v hne).trans (h.rest k hk hne)⟩
end Go.Proofs.Ytnhebknckgffoaa
