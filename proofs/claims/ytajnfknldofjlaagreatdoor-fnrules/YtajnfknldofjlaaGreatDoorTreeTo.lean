/- Contracts of the laws' own helpers that copy modules. -/
import Derived.Test.YtajnfknldofjlaaGreatDoorTreeOwn
import Derived.Deep.RegionHeld3
import Derived.Deep.Cut
import Derived.Deep.CutRange
namespace Go.Proofs.YtajnfknldofjlaaGreatDoor
open Go.RowKit
set_option linter.unusedVariables false
set_option maxRecDepth 100000

/-- The helper F copies this value, in w and behind it. -/
def ToV (w : World) (F : Nat) (f : Fl) (v : Value) : Prop :=
  ∀ w1 : World, Below w.heap.size w w1 → Calls Tryz.prog F #[v] w1 fun e w' => ∃ g n, e = .returned (.slice (some ⟨g, 0, none⟩) n n) ∧ f.Has w' w1.heap.size w'.heap.size (.slice (some ⟨g, 0, none⟩) n n) ∧ Below w1.heap.size w1 w'

/-- Cells of a block. -/
def Blk (w : World) (g : Nat) (T : TypeId) (vs : List Value) : Prop := w.heap[g]? = some (.cells vs.toArray T (0, 0))

theorem Blk.cell {w : World} {g i : Nat} {T : TypeId} {vs : List Value} {v : Value} (h : Blk w g T vs) (hi : vs[i]? = some v) : w.cell? ⟨g, i, none⟩ = some v := by
  rw [cell_of_row w g i _ T (0, 0) h]; simpa using hi
theorem Blk.c2 {w : World} {g : Nat} {T : TypeId} {v0 v1 : Value} {l : List Value} (h : Blk w g T (v0 :: v1 :: l)) : w.cell? ⟨g, 0, none⟩ = some v0 ∧ w.cell? ⟨g, 1, none⟩ = some v1 := ⟨h.cell (i := 0) rfl, h.cell (i := 1) rfl⟩
theorem Blk.c3 {w : World} {g : Nat} {T : TypeId} {v0 v1 v2 : Value} {l : List Value} (h : Blk w g T (v0 :: v1 :: v2 :: l)) : w.cell? ⟨g, 0, none⟩ = some v0 ∧ w.cell? ⟨g, 1, none⟩ = some v1 ∧ w.cell? ⟨g, 2, none⟩ = some v2 := ⟨h.cell (i := 0) rfl, h.cell (i := 1) rfl, h.cell (i := 2) rfl⟩
theorem Blk.c4 {w : World} {g : Nat} {T : TypeId} {v0 v1 v2 v3 : Value} {l : List Value} (h : Blk w g T (v0 :: v1 :: v2 :: v3 :: l)) : w.cell? ⟨g, 0, none⟩ = some v0 ∧ w.cell? ⟨g, 1, none⟩ = some v1 ∧ w.cell? ⟨g, 2, none⟩ = some v2 ∧ w.cell? ⟨g, 3, none⟩ = some v3 := ⟨h.cell (i := 0) rfl, h.cell (i := 1) rfl, h.cell (i := 2) rfl, h.cell (i := 3) rfl⟩
theorem Blk.c5 {w : World} {g : Nat} {T : TypeId} {v0 v1 v2 v3 v4 : Value} {l : List Value} (h : Blk w g T (v0 :: v1 :: v2 :: v3 :: v4 :: l)) : w.cell? ⟨g, 0, none⟩ = some v0 ∧ w.cell? ⟨g, 1, none⟩ = some v1 ∧ w.cell? ⟨g, 2, none⟩ = some v2 ∧ w.cell? ⟨g, 3, none⟩ = some v3 ∧ w.cell? ⟨g, 4, none⟩ = some v4 := ⟨h.cell (i := 0) rfl, h.cell (i := 1) rfl, h.cell (i := 2) rfl, h.cell (i := 3) rfl, h.cell (i := 4) rfl⟩
theorem Blk.c6 {w : World} {g : Nat} {T : TypeId} {v0 v1 v2 v3 v4 v5 : Value} {l : List Value} (h : Blk w g T (v0 :: v1 :: v2 :: v3 :: v4 :: v5 :: l)) : w.cell? ⟨g, 0, none⟩ = some v0 ∧ w.cell? ⟨g, 1, none⟩ = some v1 ∧ w.cell? ⟨g, 2, none⟩ = some v2 ∧ w.cell? ⟨g, 3, none⟩ = some v3 ∧ w.cell? ⟨g, 4, none⟩ = some v4 ∧ w.cell? ⟨g, 5, none⟩ = some v5 := ⟨h.cell (i := 0) rfl, h.cell (i := 1) rfl, h.cell (i := 2) rfl, h.cell (i := 3) rfl, h.cell (i := 4) rfl, h.cell (i := 5) rfl⟩
theorem Blk.free {w : World} {g : Nat} {T : TypeId} {vs : List Value} (h : Blk w g T vs) (i : Nat) : w.frozen? ⟨g, i, none⟩ = false := frozen_of_row w g i _ _ h
theorem Blk.below {w w' : World} {g B : Nat} {T : TypeId} {vs : List Value} (h : Blk w g T vs) (hb : Below B w w') (hg : g < B) : Blk w' g T vs := (hb.block g hg).trans h
theorem Blk.lt {w : World} {g : Nat} {T : TypeId} {vs : List Value} (h : Blk w g T vs) : g < w.heap.size := (Array.getElem?_eq_some_iff.1 h).1
theorem Blk.new (w : World) (T : TypeId) (vs : List Value) : Blk (w.alloc (.cells vs.toArray T (0, 0))) w.heap.size T vs := heap_alloc_new w _
theorem Blk.old {w : World} {g : Nat} {T : TypeId} {vs : List Value} {o : Obj} (h : Blk w g T vs) : Blk (w.alloc o) g T vs :=
  ((((Below.refl w.heap.size w).alloc (Nat.le_refl _) o).block g (Array.getElem?_eq_some_iff.1 h).1)).trans h
theorem Blk.other {w : World} {g k i : Nat} {T : TypeId} {vs : List Value} {v : Value} (h : Blk w g T vs) (hne : g ≠ k) : Blk (w.setCell ⟨k, i, none⟩ v) g T vs := (heap_setCell_other w ⟨k, i, none⟩ g v hne).trans h
theorem Blk.set {w : World} {g i : Nat} {T : TypeId} {vs : List Value} (h : Blk w g T vs) (v : Value) : Blk (w.setCell ⟨g, i, none⟩ v) g T (vs.set i v) := by
  unfold Blk; rw [heap_setCell_same w g i _ _ _ h]; simp

theorem RecHas.snoc {w : World} {f : Fl} {u : Value} : ∀ {r : List Fl} {lo mid hi : Nat} {us : List Value}, RecHas w lo mid r us → Fl.Has w mid hi f u → lo ≤ mid → mid ≤ hi → RecHas w lo hi (r ++ [f]) (us ++ [u]) := by
  intro r
  induction r with
  | nil =>
    intro lo mid hi us h h2 a b
    unfold RecHas at h
    subst h
    rw [List.nil_append, List.nil_append]
    unfold RecHas
    refine ⟨u, [], hi, rfl, by omega, Nat.le_refl _, h2.wide a (Nat.le_refl _), ?_⟩
    unfold RecHas; rfl
  | cons x r ih =>
    intro lo mid hi us h h2 a b
    unfold RecHas at h
    obtain ⟨u0, us', m, rfl, h1, h3, h4, h5⟩ := h
    have := ih h5 h2 (by omega) b
    rw [List.cons_append, List.cons_append]
    unfold RecHas
    exact ⟨u0, us' ++ [u], m, rfl, h1, by omega, h4, this⟩

/-- How far a record's copy has come: what came in, the answer's place, the record that is being laid. -/
structure TS (w W : World) (TA TR : TypeId) (A Z cur : List Value) (r : List Fl) (us : List Value) : Prop where
  a : Blk W w.heap.size TA A
  z : Blk W (w.heap.size + 1) TR Z
  o : Blk W (w.heap.size + 1 + 1) TR cur
  y : Below w.heap.size w W
  s : w.heap.size + 3 ≤ W.heap.size
  h : RecHas W (w.heap.size + 3) W.heap.size r us

theorem TS.start (w : World) (TA TR : TypeId) (A Z : List Value) : TS w (((w.alloc (.cells A.toArray TA (0, 0))).alloc (.cells Z.toArray TR (0, 0))).alloc (.cells Z.toArray TR (0, 0))) TA TR A Z Z [] [] := by
  have y1 : Below w.heap.size w (w.alloc (.cells A.toArray TA (0, 0))) := (Below.refl _ _).alloc (Nat.le_refl _) _
  have y2 := y1.alloc y1.size (.cells Z.toArray TR (0, 0))
  have y3 := y2.alloc y2.size (.cells Z.toArray TR (0, 0))
  refine ⟨(Blk.new w TA A).old.old, ?_, ?_, y3, by simp, by unfold RecHas; rfl⟩
  · have := (Blk.new (w.alloc (.cells A.toArray TA (0, 0))) TR Z).old (o := .cells Z.toArray TR (0, 0))
    simpa using this
  · have := Blk.new ((w.alloc (.cells A.toArray TA (0, 0))).alloc (.cells Z.toArray TR (0, 0))) TR Z
    simpa using this

theorem TS.call {w W W1 : World} {TA TR : TypeId} {A Z cur : List Value} {r : List Fl} {us : List Value} {f : Fl} {u : Value} (t : TS w W TA TR A Z cur r us) (h : f.Has W1 W.heap.size W1.heap.size u) (hb : Below W.heap.size W W1) :
    TS w W1 TA TR A Z cur (r ++ [f]) (us ++ [u]) :=
  ⟨t.a.below hb t.a.lt, t.z.below hb t.z.lt, t.o.below hb t.o.lt, t.y.trans (hb.mono t.y.size), Nat.le_trans t.s hb.size,
    (t.h.stays (Stays.of hb (Nat.le_refl _))).snoc h t.s hb.size⟩

theorem TS.put {w W : World} {TA TR : TypeId} {A Z cur : List Value} {r : List Fl} {us : List Value} (t : TS w W TA TR A Z cur r us) (i : Nat) (v : Value) :
    TS w (W.setCell ⟨w.heap.size + 1 + 1, i, none⟩ v) TA TR A Z (cur.set i v) r us := by
  have e : (W.setCell ⟨w.heap.size + 1 + 1, i, none⟩ v).heap.size = W.heap.size := by simp
  refine ⟨t.a.other (by omega), t.z.other (by omega), t.o.set v, t.y.setCell (by simp; omega) v, by rw [e]; exact t.s, ?_⟩
  rw [e]
  exact t.h.stays (Stays.put (.inl (by omega)))

theorem TS.plain {w W : World} {TA TR : TypeId} {A Z cur : List Value} {r : List Fl} {us : List Value} (t : TS w W TA TR A Z cur r us) (i : Nat) (f : Fl) (v : Value) (hf : ∀ W lo hi, f.Has W lo hi v) :
    TS w (W.setCell ⟨w.heap.size + 1 + 1, i, none⟩ v) TA TR A Z (cur.set i v) (r ++ [f]) (us ++ [v]) := by
  have t' := t.put i v
  exact ⟨t'.a, t'.z, t'.o, t'.y, t'.s, t'.h.snoc (hf _ _ _) t'.s (Nat.le_refl _)⟩

/-- Cells of the answer's place set, one behind the other. -/
def setAll (W : World) (g : Nat) : Nat → List Value → World
  | _, [] => W
  | i, v :: l => setAll (W.setCell ⟨g, i, none⟩ v) g (i + 1) l

theorem setAll_size (g : Nat) : ∀ (l : List Value) (W : World) (i : Nat), (setAll W g i l).heap.size = W.heap.size := by
  intro l
  induction l with
  | nil => intro W i; rfl
  | cons v l ih => intro W i; rw [setAll, ih]; simp

theorem setAll_keep {w : World} (g : Nat) {lo hi : Nat} (hg : w.heap.size ≤ g) (hl : g < lo) {r : List Fl} {us : List Value} : ∀ (l : List Value) (W : World) (i : Nat), Below w.heap.size w W → RecHas W lo hi r us → Below w.heap.size w (setAll W g i l) ∧ RecHas (setAll W g i l) lo hi r us := by
  intro l
  induction l with
  | nil => intro W i a b; exact ⟨a, b⟩
  | cons v l ih => intro W i a b; exact ih _ _ (a.setCell (by simpa using hg) v) (b.stays (Stays.put (.inl hl)))

theorem TS.finish {w W : World} {TA TR : TypeId} {A Z cur : List Value} {r : List Fl} {us : List Value} (t : TS w W TA TR A Z cur r us) :
    RecHas (setAll W (w.heap.size + 1) 0 cur) w.heap.size (setAll W (w.heap.size + 1) 0 cur).heap.size r us ∧ Below w.heap.size w (setAll W (w.heap.size + 1) 0 cur) := by
  obtain ⟨h1, h2⟩ := setAll_keep (w := w) (w.heap.size + 1) (lo := w.heap.size + 3) (by omega) (by omega) cur W 0 t.y t.h
  rw [setAll_size]
  exact ⟨h2.wide (by omega) (Nat.le_refl _), h1⟩

theorem has_n (x : Int) : ∀ W lo hi, (Fl.n x).Has W lo hi (.int .i64 x) := by intro W lo hi; unfold Fl.Has; rfl
theorem has_t (x : Bool) : ∀ W lo hi, (Fl.t x).Has W lo hi (.bool x) := by intro W lo hi; unfold Fl.Has; rfl

end Go.Proofs.YtajnfknldofjlaaGreatDoor
