/- What the law of Store holds between its calls. -/
import Derived.Test.YtchchigiafacbaaDoorStore2
import Derived.Test.YtchchigiafacbaaDoorMemOkLaw
import Derived.Deep.Cut
import Derived.Deep.CutRange
namespace Go.Proofs.YtchchigiafacbaaDoor
open Go.RowKit
set_option linter.unusedVariables false
set_option linter.unusedSimpArgs false

theorem wb {w : World} {g : Nat} {l : List Wd} (h : w.heap[g]? = some (.cells (flat l).toArray 26 (0, 0))) : WB w g l := h
theorem nil_row (w : World) : WRow w none 0 [] := ⟨rfl, fun h => absurd h (by omega)⟩

theorem ne_of_types {w : World} {g k : Nat} {l : List Wd} {v : Value} (h : WX w g l) (hk : w.heap[k]? = some (.cells #[v] 33 (0, 0))) : g ≠ k := by
  rintro rfl
  obtain ⟨r, h⟩ := h
  rw [h] at hk
  simp at hk

theorem below_set0 {B : Nat} {w0 w : World} (h : Below B w0 w) {k : Nat} (hk : B ≤ k) (v : Value) : Below B w0 (w.setCell ⟨k, 0, none⟩ v) := h.setCell hk v
theorem wx_set0 {w : World} {g k : Nat} {l : List Wd} {u : Value} (h : WX w g l) (hk : w.heap[k]? = some (.cells #[u] 33 (0, 0))) (v : Value) : WX (w.setCell ⟨k, 0, none⟩ v) g l := WX.of h (heap_setCell_other w ⟨k, 0, none⟩ g v (ne_of_types h hk))
theorem wb_set0 {w : World} {g k : Nat} {l : List Wd} {u : Value} (h : WB w g l) (hk : w.heap[k]? = some (.cells #[u] 33 (0, 0))) (v : Value) : WB (w.setCell ⟨k, 0, none⟩ v) g l := WB.other h (ne_of_types (WB.x h) hk)

theorem row7 {w : World} {k : Nat} {t : TypeId} {u0 u1 u2 u3 u4 u5 u6 : Value} (h : w.heap[k]? = some (.cells #[u0, u1, u2, u3, u4, u5, u6] t (0, 0))) :
    w.cell? ⟨k, 0, none⟩ = some u0 ∧ w.cell? ⟨k, 1, none⟩ = some u1 ∧ w.cell? ⟨k, 2, none⟩ = some u2 ∧ w.cell? ⟨k, 3, none⟩ = some u3 ∧ w.cell? ⟨k, 4, none⟩ = some u4 ∧ w.cell? ⟨k, 5, none⟩ = some u5 ∧ w.cell? ⟨k, 6, none⟩ = some u6 :=
  ⟨by rw [cell_of_row w k 0 _ _ (0, 0) h]; rfl, by rw [cell_of_row w k 1 _ _ (0, 0) h]; rfl, by rw [cell_of_row w k 2 _ _ (0, 0) h]; rfl, by rw [cell_of_row w k 3 _ _ (0, 0) h]; rfl, by rw [cell_of_row w k 4 _ _ (0, 0) h]; rfl, by rw [cell_of_row w k 5 _ _ (0, 0) h]; rfl, by rw [cell_of_row w k 6 _ _ (0, 0) h]; rfl⟩

theorem law_kept {w w1 : World} {m : Value} {xs ys : Array Value} {o : Obj} (e : w1 = (((w.alloc (.cells #[m] 46)).alloc (.cells xs 47)).alloc (.cells ys 47)).alloc o) :
    w1.heap[w.heap.size]? = some (.cells #[m] 46 (0, 0)) ∧ w1.heap[w.heap.size + 1]? = some (.cells xs 47 (0, 0)) ∧ w1.heap[w.heap.size + 2]? = some (.cells ys 47 (0, 0)) ∧ Below w.heap.size w w1 ∧ w.heap.size + 4 = w1.heap.size := by
  refine ⟨?_, ?_, ?_, ?_, ?_⟩
  · rw [e, old_block (by simp <;> omega), old_block (by simp <;> omega), old_block (by simp)]; exact heap_alloc_new w _
  · rw [e, old_block (by simp <;> omega), old_block (by simp)]
    have := heap_alloc_new (w.alloc (.cells #[m] 46)) (.cells xs 47)
    simpa using this
  · rw [e, old_block (by simp)]
    have := heap_alloc_new ((w.alloc (.cells #[m] 46)).alloc (.cells xs 47)) (.cells ys 47)
    simpa using this
  · rw [e]; exact ((((Below.refl _ _).alloc (Nat.le_refl _) _).alloc (by simp) _).alloc (by simp; omega) _).alloc (by simp; omega) _
  · rw [e]; simp

/-- What the law holds between its calls, block by block. -/
structure St2 (w wk : World) (gm g8 g10 g11 g3 g5 g7 : Nat) (om ox oy o8 o10 o11 o3 o5 o7 : Obj) : Prop where
  m : wk.heap[gm]? = some om
  bx : wk.heap[gm + 1]? = some ox
  by_ : wk.heap[gm + 2]? = some oy
  b8 : wk.heap[g8]? = some o8
  b10 : wk.heap[g10]? = some o10
  b11 : wk.heap[g11]? = some o11
  b3 : wk.heap[g3]? = some o3
  b5 : wk.heap[g5]? = some o5
  b7 : wk.heap[g7]? = some o7
  below : Below w.heap.size w wk

theorem St2.next {w wk wl : World} {gm g8 g10 g11 g3 g5 g7 : Nat} {om ox oy o8 o10 o11 o3 o5 o7 : Obj} (h : St2 w wk gm g8 g10 g11 g3 g5 g7 om ox oy o8 o10 o11 o3 o5 o7) (hb : Below wk.heap.size wk wl) : St2 w wl gm g8 g10 g11 g3 g5 g7 om ox oy o8 o10 o11 o3 o5 o7 := by
  have k : ∀ {g : Nat} {o : Obj}, wk.heap[g]? = some o → wl.heap[g]? = some o := fun e => (hb.block _ (Array.getElem?_eq_some_iff.1 e).1).trans e
  exact ⟨k h.m, k h.bx, k h.by_, k h.b8, k h.b10, k h.b11, k h.b3, k h.b5, k h.b7, h.below.trans (hb.mono h.below.size)⟩

theorem St2.but5 {w wk wl : World} {gm g8 g10 g11 g3 g5 g7 : Nat} {om ox oy o8 o10 o11 o3 o5 o7 o' : Obj} (h : St2 w wk gm g8 g10 g11 g3 g5 g7 om ox oy o8 o10 o11 o3 o5 o7) (hb : But wk wl g5) (hn : wl.heap[g5]? = some o') (h0 : w.heap.size ≤ g5) (h1 : gm ≠ g5) (hx : gm + 1 ≠ g5) (hy : gm + 2 ≠ g5) (h2 : g8 ≠ g5) (h3 : g10 ≠ g5) (h4 : g11 ≠ g5) (h5 : g3 ≠ g5) (h6 : g7 ≠ g5) : St2 w wl gm g8 g10 g11 g3 g5 g7 om ox oy o8 o10 o11 o3 o' o7 := by
  have k : ∀ {g : Nat} {o : Obj}, wk.heap[g]? = some o → g ≠ g5 → wl.heap[g]? = some o := fun e hne => (hb.rest _ (Array.getElem?_eq_some_iff.1 e).1 hne).trans e
  exact ⟨k h.m h1, k h.bx hx, k h.by_ hy, k h.b8 h2, k h.b10 h3, k h.b11 h4, k h.b3 h5, hn, k h.b7 h6, h.below.trans (hb.below.mono h0)⟩

theorem St2.but7 {w wk wl : World} {gm g8 g10 g11 g3 g5 g7 : Nat} {om ox oy o8 o10 o11 o3 o5 o7 o' : Obj} (h : St2 w wk gm g8 g10 g11 g3 g5 g7 om ox oy o8 o10 o11 o3 o5 o7) (hb : But wk wl g7) (hn : wl.heap[g7]? = some o') (h0 : w.heap.size ≤ g7) (h1 : gm ≠ g7) (hx : gm + 1 ≠ g7) (hy : gm + 2 ≠ g7) (h2 : g8 ≠ g7) (h3 : g10 ≠ g7) (h4 : g11 ≠ g7) (h5 : g3 ≠ g7) (h6 : g5 ≠ g7) : St2 w wl gm g8 g10 g11 g3 g5 g7 om ox oy o8 o10 o11 o3 o5 o' := by
  have k : ∀ {g : Nat} {o : Obj}, wk.heap[g]? = some o → g ≠ g7 → wl.heap[g]? = some o := fun e hne => (hb.rest _ (Array.getElem?_eq_some_iff.1 e).1 hne).trans e
  exact ⟨k h.m h1, k h.bx hx, k h.by_ hy, k h.b8 h2, k h.b10 h3, k h.b11 h4, k h.b3 h5, k h.b5 h6, hn, h.below.trans (hb.below.mono h0)⟩

end Go.Proofs.YtchchigiafacbaaDoor
