/- Objects: what reads there. No function is walked here. By mkobjs.py. -/
import Derived.Test.YtefciaeajlgheaaRec3
namespace Go.Proofs.Ytefciaeajlgheaa
open Go.RowKit
set_option linter.unusedVariables false

def Fd.len : Fd → Nat
  | .b l => l.length
  | .n _ => 0
def D3.len (d : D3) : Nat := d.x.len + d.y.len + d.z.len
def dsum : List D3 → Nat
  | [] => 0
  | d :: l => d.len + dsum l

theorem dsum_append (l m : List D3) : dsum (l ++ m) = dsum l + dsum m := by
  induction l with
  | nil => simp [dsum]
  | cons x l ih => simp [dsum, ih]; omega

theorem dsum_next {ds : List D3} {k : Nat} {d : D3} (h : ds[k]? = some d) : dsum (ds.take (k + 1)) = dsum (ds.take k) + d.len := by
  obtain ⟨hk, rfl⟩ := List.getElem?_eq_some_iff.1 h
  rw [List.take_succ_eq_append_getElem hk, dsum_append]
  simp [dsum]

theorem dsum_take (ds : List D3) (k : Nat) : dsum (ds.take k) ≤ dsum ds := by
  have := dsum_append (ds.take k) (ds.drop k)
  rw [List.take_append_drop] at this
  omega

theorem len_le_dsum {ds : List D3} {d : D3} (h : d ∈ ds) : d.len ≤ dsum ds := by
  induction ds with
  | nil => simp at h
  | cons x l ih =>
    rcases List.mem_cons.1 h with rfl | h
    · simp [dsum]
    · have := ih h; simp [dsum]; omega

structure Ob where
  name : List Int
  ex : List D3
  im : List D3
  data : Int
  code : List Int

/-- An object's five cells. -/
structure O5 where
  x : Value
  e : Value
  i : Value
  d : Value
  c : Value

def isE (d : D3) : Prop := ∃ l p q, d = (⟨.b l, .n p, .n q⟩ : D3)
def isM (d : D3) : Prop := ∃ l l2 p, d = (⟨.b l, .b l2, .n p⟩ : D3)

def DV (w : World) (v : Value) (ds : List D3) : Prop := ∃ a c, v = .slice a ds.length c ∧ DRow w a ds.length ds ∧ ds.length ≤ c ∧ c ≤ maxLen ∧ (a = none → c = 0)

theorem DV.below {w w' : World} {v : Value} {ds : List D3} (h : DV w v ds) (hb : Below w.heap.size w w') : DV w' v ds := by
  obtain ⟨a, c, e, hr, r⟩ := h
  exact ⟨a, c, e, hr.below hb, r⟩

structure ORead (w : World) (o : O5) (b : Ob) : Prop where
  nm : (Fd.b b.name).Read w o.x
  ex : DV w o.e b.ex
  im : DV w o.i b.im
  dt : o.d = .int .i64 b.data
  cd : (Fd.b b.code).Read w o.c
  exs : ∀ d ∈ b.ex, isE d
  ims : ∀ d ∈ b.im, isM d

theorem ORead.below {w w' : World} {o : O5} {b : Ob} (h : ORead w o b) (hb : Below w.heap.size w w') : ORead w' o b :=
  ⟨h.nm.below hb, h.ex.below hb, h.im.below hb, h.dt, h.cd.below hb, h.exs, h.ims⟩

theorem ORead.shape {w : World} {o : O5} {b : Ob} (h : ORead w o b) : ∃ a1 c1 a2 c2 a3 c3 a4 c4, o = ⟨.slice a1 b.name.length c1, .slice a2 b.ex.length c2, .slice a3 b.im.length c3, .int .i64 b.data, .slice a4 b.code.length c4⟩ := by
  obtain ⟨x, e, i, d, c⟩ := o
  obtain ⟨⟨a1, c1, h1, _⟩, ⟨a2, c2, h2, _⟩, ⟨a3, c3, h3, _⟩, h4, ⟨a4, c4, h5, _⟩, _, _⟩ := h
  simp only at h1 h2 h3 h4 h5
  exact ⟨a1, c1, a2, c2, a3, c3, a4, c4, by rw [h1, h2, h3, h4, h5]⟩

def osz (b : Ob) : Nat := b.name.length + (b.ex.length + dsum b.ex) + (b.im.length + dsum b.im) + b.code.length

theorem osz_ex {b : Ob} (h : osz b ≤ 1048576) (hs : ∀ d ∈ b.ex, isE d) : ∀ d ∈ b.ex, ∃ l p q, d = (⟨.b l, .n p, .n q⟩ : D3) ∧ l.length ≤ 1048576 := by
  intro d hd
  obtain ⟨l, p, q, rfl⟩ := hs d hd
  have := len_le_dsum hd
  simp only [D3.len, Fd.len] at this
  unfold osz at h
  exact ⟨l, p, q, rfl, by omega⟩

theorem osz_im {b : Ob} (h : osz b ≤ 1048576) (hs : ∀ d ∈ b.im, isM d) : ∀ d ∈ b.im, ∃ l l2 p, d = (⟨.b l, .b l2, .n p⟩ : D3) ∧ l.length ≤ 1048576 ∧ l2.length ≤ 1048576 := by
  intro d hd
  obtain ⟨l, l2, p, rfl⟩ := hs d hd
  have := len_le_dsum hd
  simp only [D3.len, Fd.len] at this
  unfold osz at h
  exact ⟨l, l2, p, rfl, by omega, by omega⟩

/-! Five cells of a block -/
def B5 (w : World) (g : Nat) (t : TypeId) (o : O5) : Prop := w.heap[g]? = some (.cells #[o.x, o.e, o.i, o.d, o.c] t (0, 0))

theorem B5.facts {w : World} {g : Nat} {t : TypeId} {o : O5} (h : B5 w g t o) :
    w.cell? ⟨g, 0, none⟩ = some o.x ∧ w.cell? ⟨g, 1, none⟩ = some o.e ∧ w.cell? ⟨g, 2, none⟩ = some o.i ∧ w.cell? ⟨g, 3, none⟩ = some o.d ∧ w.cell? ⟨g, 4, none⟩ = some o.c :=
  ⟨by rw [cell_of_row w g 0 _ _ (0, 0) h]; rfl, by rw [cell_of_row w g 1 _ _ (0, 0) h]; rfl, by rw [cell_of_row w g 2 _ _ (0, 0) h]; rfl, by rw [cell_of_row w g 3 _ _ (0, 0) h]; rfl, by rw [cell_of_row w g 4 _ _ (0, 0) h]; rfl⟩
theorem B5.frozen {w : World} {g : Nat} {t : TypeId} {o : O5} (h : B5 w g t o) :
    w.frozen? ⟨g, 0, none⟩ = false ∧ w.frozen? ⟨g, 1, none⟩ = false ∧ w.frozen? ⟨g, 2, none⟩ = false ∧ w.frozen? ⟨g, 3, none⟩ = false ∧ w.frozen? ⟨g, 4, none⟩ = false :=
  ⟨frozen_of_row w g 0 _ _ h, frozen_of_row w g 1 _ _ h, frozen_of_row w g 2 _ _ h, frozen_of_row w g 3 _ _ h, frozen_of_row w g 4 _ _ h⟩
theorem B5.below {w w' : World} {g B : Nat} {t : TypeId} {o : O5} (h : B5 w g t o) (hb : Below B w w') (hg : g < B) : B5 w' g t o := (hb.block g hg).trans h
theorem B5.lt {w : World} {g : Nat} {t : TypeId} {o : O5} (h : B5 w g t o) : g < w.heap.size := (Array.getElem?_eq_some_iff.1 h).1
theorem B5.new (w : World) (t : TypeId) (o : O5) : B5 (w.alloc (.cells #[o.x, o.e, o.i, o.d, o.c] t (0, 0))) w.heap.size t o := heap_alloc_new w _
theorem B5.old {w : World} {g : Nat} {t : TypeId} {o : O5} {ob : Obj} (h : B5 w g t o) : B5 (w.alloc ob) g t o :=
  ((((Below.refl w.heap.size w).alloc (Nat.le_refl _) ob).block g (Array.getElem?_eq_some_iff.1 h).1)).trans h
theorem B5.other {w : World} {g k i : Nat} {t : TypeId} {o : O5} {v : Value} (h : B5 w g t o) (hne : g ≠ k) : B5 (w.setCell ⟨k, i, none⟩ v) g t o := (heap_setCell_other w ⟨k, i, none⟩ g v hne).trans h
theorem B5.set0 {w : World} {g : Nat} {t : TypeId} {o : O5} (h : B5 w g t o) (v : Value) : B5 (w.setCell ⟨g, 0, none⟩ v) g t ⟨v, o.e, o.i, o.d, o.c⟩ := by
  unfold B5; rw [heap_setCell_same w g 0 _ _ _ h]; rfl
theorem B5.set1 {w : World} {g : Nat} {t : TypeId} {o : O5} (h : B5 w g t o) (v : Value) : B5 (w.setCell ⟨g, 1, none⟩ v) g t ⟨o.x, v, o.i, o.d, o.c⟩ := by
  unfold B5; rw [heap_setCell_same w g 1 _ _ _ h]; rfl
theorem B5.set2 {w : World} {g : Nat} {t : TypeId} {o : O5} (h : B5 w g t o) (v : Value) : B5 (w.setCell ⟨g, 2, none⟩ v) g t ⟨o.x, o.e, v, o.d, o.c⟩ := by
  unfold B5; rw [heap_setCell_same w g 2 _ _ _ h]; rfl
theorem B5.set3 {w : World} {g : Nat} {t : TypeId} {o : O5} (h : B5 w g t o) (v : Value) : B5 (w.setCell ⟨g, 3, none⟩ v) g t ⟨o.x, o.e, o.i, v, o.c⟩ := by
  unfold B5; rw [heap_setCell_same w g 3 _ _ _ h]; rfl
theorem B5.set4 {w : World} {g : Nat} {t : TypeId} {o : O5} (h : B5 w g t o) (v : Value) : B5 (w.setCell ⟨g, 4, none⟩ v) g t ⟨o.x, o.e, o.i, o.d, v⟩ := by
  unfold B5; rw [heap_setCell_same w g 4 _ _ _ h]; rfl

end Go.Proofs.Ytefciaeajlgheaa
