/- Contracts of the laws' own helpers that copy modules. -/
import Derived.Test.YtefciaeajlgheaaTreeOwn
import Derived.Test.YtefciaeajlgheaaBytes
import Derived.Deep.RegionHeld3
import Derived.Deep.Cut
import Derived.Deep.CutRange
namespace Go.Proofs.Ytefciaeajlgheaa
open Go.RowKit
set_option linter.unusedVariables false
set_option maxRecDepth 100000

/-- The helper F copies this value, in w and behind it. -/
def ToV (w : World) (F : Nat) (f : Fl) (v : Value) : Prop :=
  ∀ w1 : World, Below w.heap.size w w1 → Calls Try.prog F #[v] w1 fun e w' => ∃ g n, e = .returned (.slice (some ⟨g, 0, none⟩) n n) ∧ f.Has w' w1.heap.size w'.heap.size (.slice (some ⟨g, 0, none⟩) n n) ∧ Below w1.heap.size w1 w'

/-- Cells of a block. -/
def Blk (w : World) (g : Nat) (T : TypeId) (vs : List Value) : Prop := w.heap[g]? = some (.cells vs.toArray T (0, 0))

theorem Blk.cell {w : World} {g i : Nat} {T : TypeId} {vs : List Value} {v : Value} (h : Blk w g T vs) (hi : vs[i]? = some v) : w.cell? ⟨g, i, none⟩ = some v := by
  rw [cell_of_row w g i _ T (0, 0) h]; simpa using hi
theorem Blk.c2 {w : World} {g : Nat} {T : TypeId} {v0 v1 : Value} {l : List Value} (h : Blk w g T (v0 :: v1 :: l)) : w.cell? ⟨g, 0, none⟩ = some v0 ∧ w.cell? ⟨g, 1, none⟩ = some v1 := ⟨h.cell (i := 0) rfl, h.cell (i := 1) rfl⟩
theorem Blk.c3 {w : World} {g : Nat} {T : TypeId} {v0 v1 v2 : Value} {l : List Value} (h : Blk w g T (v0 :: v1 :: v2 :: l)) : w.cell? ⟨g, 0, none⟩ = some v0 ∧ w.cell? ⟨g, 1, none⟩ = some v1 ∧ w.cell? ⟨g, 2, none⟩ = some v2 := ⟨h.cell (i := 0) rfl, h.cell (i := 1) rfl, h.cell (i := 2) rfl⟩
theorem Blk.c4 {w : World} {g : Nat} {T : TypeId} {v0 v1 v2 v3 : Value} {l : List Value} (h : Blk w g T (v0 :: v1 :: v2 :: v3 :: l)) : w.cell? ⟨g, 0, none⟩ = some v0 ∧ w.cell? ⟨g, 1, none⟩ = some v1 ∧ w.cell? ⟨g, 2, none⟩ = some v2 ∧ w.cell? ⟨g, 3, none⟩ = some v3 := ⟨h.cell (i := 0) rfl, h.cell (i := 1) rfl, h.cell (i := 2) rfl, h.cell (i := 3) rfl⟩
theorem Blk.c5 {w : World} {g : Nat} {T : TypeId} {v0 v1 v2 v3 v4 : Value} {l : List Value} (h : Blk w g T (v0 :: v1 :: v2 :: v3 :: v4 :: l)) : w.cell? ⟨g, 0, none⟩ = some v0 ∧ w.cell? ⟨g, 1, none⟩ = some v1 ∧ w.cell? ⟨g, 2, none⟩ = some v2 ∧ w.cell? ⟨g, 3, none⟩ = some v3 ∧ w.cell? ⟨g, 4, none⟩ = some v4 := ⟨h.cell (i := 0) rfl, h.cell (i := 1) rfl, h.cell (i := 2) rfl, h.cell (i := 3) rfl, h.cell (i := 4) rfl⟩
theorem Blk.c6 {w : World} {g : Nat} {T : TypeId} {v0 v1 v2 v3 v4 v5 : Value} {l : List Value} (h : Blk w g T (v0 :: v1 :: v2 :: v3 :: v4 :: v5 :: l)) : w.cell? ⟨g, 0, none⟩ = some v0 ∧ w.cell? ⟨g, 1, none⟩ = some v1 ∧ w.cell? ⟨g, 2, none⟩ = some v2 ∧ w.cell? ⟨g, 3, none⟩ = some v3 ∧ w.cell? ⟨g, 4, none⟩ = some v4 ∧ w.cell? ⟨g, 5, none⟩ = some v5 := ⟨h.cell (i := 0) rfl, h.cell (i := 1) rfl, h.cell (i := 2) rfl, h.cell (i := 3) rfl, h.cell (i := 4) rfl, h.cell (i := 5) rfl⟩
theorem Blk.free {w : World} {g : Nat} {T : TypeId} {vs : List Value} (h : Blk w g T vs) (i : Nat) : w.frozen? ⟨g, i, none⟩ = false := frozen_of_row w g i _ _ h
theorem Blk.below {w w' : World} {g B : Nat} {T : TypeId} {vs : List Value} (h : Blk w g T vs) (hb : Below B w w') (hg : g < B) : Blk w' g T vs := (hb.block g hg).trans h
theorem Blk.lt {w : World} {g : Nat} {T : TypeId} {vs : List Value} (h : Blk w g T vs) : g < w.heap.size := (Array.getElem?_eq_some_iff.1 h).1
theorem Blk.new (w : World) (T : TypeId) (vs : List Value) : Blk (w.alloc (.cells vs.toArray T (0, 0))) w.heap.size T vs := heap_alloc_new w _
theorem Blk.old {w : World} {g : Nat} {T : TypeId} {vs : List Value} {o : Obj} (h : Blk w g T vs) : Blk (w.alloc o) g T vs :=
  ((((Below.refl w.heap.size w).alloc (Nat.le_refl _) o).block g (Array.getElem?_eq_some_iff.1 h).1)).trans h
theorem Blk.other {w : World} {g k i : Nat} {T : TypeId} {vs : List Value} {v : Value} (h : Blk w g T vs) (hne : g ≠ k) : Blk (w.setCell ⟨k, i, none⟩ v) g T vs := (heap_setCell_other w ⟨k, i, none⟩ g v hne).trans h
theorem Blk.set {w : World} {g i : Nat} {T : TypeId} {vs : List Value} (h : Blk w g T vs) (v : Value) : Blk (w.setCell ⟨g, i, none⟩ v) g T (vs.set i v) := by
  unfold Blk; rw [heap_setCell_same w g i _ _ _ h]; simp

theorem RecHas.snoc {w : World} {f : Fl} {u : Value} : ∀ {r : List Fl} {lo mid hi : Nat} {us : List Value}, RecHas w lo mid r us → Fl.Has w mid hi f u → lo ≤ mid → mid ≤ hi → RecHas w lo hi (r ++ [f]) (us ++ [u]) := by
  intro r
  induction r with
  | nil =>
    intro lo mid hi us h h2 a b
    unfold RecHas at h
    subst h
    rw [List.nil_append, List.nil_append]
    unfold RecHas
    refine ⟨u, [], hi, rfl, by omega, Nat.le_refl _, h2.wide a (Nat.le_refl _), ?_⟩
    unfold RecHas; rfl
  | cons x r ih =>
    intro lo mid hi us h h2 a b
    unfold RecHas at h
    obtain ⟨u0, us', m, rfl, h1, h3, h4, h5⟩ := h
    have := ih h5 h2 (by omega) b
    rw [List.cons_append, List.cons_append]
    unfold RecHas
    exact ⟨u0, us' ++ [u], m, rfl, h1, by omega, h4, this⟩

/-- How far a record's copy has come: what came in, the answer's place, the record that is being laid. -/
structure TS (w W : World) (TA TR : TypeId) (A Z cur : List Value) (r : List Fl) (us : List Value) : Prop where
  a : Blk W w.heap.size TA A
  z : Blk W (w.heap.size + 1) TR Z
  o : Blk W (w.heap.size + 1 + 1) TR cur
  y : Below w.heap.size w W
  s : w.heap.size + 3 ≤ W.heap.size
  h : RecHas W (w.heap.size + 3) W.heap.size r us

theorem TS.start (w : World) (TA TR : TypeId) (A Z : List Value) : TS w (((w.alloc (.cells A.toArray TA (0, 0))).alloc (.cells Z.toArray TR (0, 0))).alloc (.cells Z.toArray TR (0, 0))) TA TR A Z Z [] [] := by
  have y1 : Below w.heap.size w (w.alloc (.cells A.toArray TA (0, 0))) := (Below.refl _ _).alloc (Nat.le_refl _) _
  have y2 := y1.alloc y1.size (.cells Z.toArray TR (0, 0))
  have y3 := y2.alloc y2.size (.cells Z.toArray TR (0, 0))
  refine ⟨(Blk.new w TA A).old.old, ?_, ?_, y3, by simp, by unfold RecHas; rfl⟩
  · have := (Blk.new (w.alloc (.cells A.toArray TA (0, 0))) TR Z).old (o := .cells Z.toArray TR (0, 0))
    simpa using this
  · have := Blk.new ((w.alloc (.cells A.toArray TA (0, 0))).alloc (.cells Z.toArray TR (0, 0))) TR Z
    simpa using this

theorem TS.call {w W W1 : World} {TA TR : TypeId} {A Z cur : List Value} {r : List Fl} {us : List Value} {f : Fl} {u : Value} (t : TS w W TA TR A Z cur r us) (h : f.Has W1 W.heap.size W1.heap.size u) (hb : Below W.heap.size W W1) :
    TS w W1 TA TR A Z cur (r ++ [f]) (us ++ [u]) :=
  ⟨t.a.below hb t.a.lt, t.z.below hb t.z.lt, t.o.below hb t.o.lt, t.y.trans (hb.mono t.y.size), Nat.le_trans t.s hb.size,
    (t.h.stays (Stays.of hb (Nat.le_refl _))).snoc h t.s hb.size⟩

theorem TS.put {w W : World} {TA TR : TypeId} {A Z cur : List Value} {r : List Fl} {us : List Value} (t : TS w W TA TR A Z cur r us) (i : Nat) (v : Value) :
    TS w (W.setCell ⟨w.heap.size + 1 + 1, i, none⟩ v) TA TR A Z (cur.set i v) r us := by
  have e : (W.setCell ⟨w.heap.size + 1 + 1, i, none⟩ v).heap.size = W.heap.size := by simp
  refine ⟨t.a.other (by omega), t.z.other (by omega), t.o.set v, t.y.setCell (by simp; omega) v, by rw [e]; exact t.s, ?_⟩
  rw [e]
  exact t.h.stays (Stays.put (.inl (by omega)))

theorem TS.plain {w W : World} {TA TR : TypeId} {A Z cur : List Value} {r : List Fl} {us : List Value} (t : TS w W TA TR A Z cur r us) (i : Nat) (f : Fl) (v : Value) (hf : ∀ W lo hi, f.Has W lo hi v) :
    TS w (W.setCell ⟨w.heap.size + 1 + 1, i, none⟩ v) TA TR A Z (cur.set i v) (r ++ [f]) (us ++ [v]) := by
  have t' := t.put i v
  exact ⟨t'.a, t'.z, t'.o, t'.y, t'.s, t'.h.snoc (hf _ _ _) t'.s (Nat.le_refl _)⟩

/-- Cells of the answer's place set, one behind the other. -/
def setAll (W : World) (g : Nat) : Nat → List Value → World
  | _, [] => W
  | i, v :: l => setAll (W.setCell ⟨g, i, none⟩ v) g (i + 1) l

theorem setAll_size (g : Nat) : ∀ (l : List Value) (W : World) (i : Nat), (setAll W g i l).heap.size = W.heap.size := by
  intro l
  induction l with
  | nil => intro W i; rfl
  | cons v l ih => intro W i; rw [setAll, ih]; simp

theorem setAll_keep {w : World} (g : Nat) {lo hi : Nat} (hg : w.heap.size ≤ g) (hl : g < lo) {r : List Fl} {us : List Value} : ∀ (l : List Value) (W : World) (i : Nat), Below w.heap.size w W → RecHas W lo hi r us → Below w.heap.size w (setAll W g i l) ∧ RecHas (setAll W g i l) lo hi r us := by
  intro l
  induction l with
  | nil => intro W i a b; exact ⟨a, b⟩
  | cons v l ih => intro W i a b; exact ih _ _ (a.setCell (by simpa using hg) v) (b.stays (Stays.put (.inl hl)))

theorem TS.finish {w W : World} {TA TR : TypeId} {A Z cur : List Value} {r : List Fl} {us : List Value} (t : TS w W TA TR A Z cur r us) :
    RecHas (setAll W (w.heap.size + 1) 0 cur) w.heap.size (setAll W (w.heap.size + 1) 0 cur).heap.size r us ∧ Below w.heap.size w (setAll W (w.heap.size + 1) 0 cur) := by
  obtain ⟨h1, h2⟩ := setAll_keep (w := w) (w.heap.size + 1) (lo := w.heap.size + 3) (by omega) (by omega) cur W 0 t.y t.h
  rw [setAll_size]
  exact ⟨h2.wide (by omega) (Nat.le_refl _), h1⟩

theorem has_n (x : Int) : ∀ W lo hi, (Fl.n x).Has W lo hi (.int .i64 x) := by intro W lo hi; unfold Fl.Has; rfl
theorem has_t (x : Bool) : ∀ W lo hi, (Fl.t x).Has W lo hi (.bool x) := by intro W lo hi; unfold Fl.Has; rfl

set_option maxHeartbeats 4000000 in
theorem toExport0 (a0 : Option Addr) (n0 c0 : Nat) (f0 : Fl) (p1 : Int) (p2 : Int) (w : World)
    (H0 : ToV w 45 f0 (.slice a0 n0 c0)) :
    Calls Try.prog 71 #[.agg #[.slice a0 n0 c0, .int .i64 p1, .int .i64 p2]] w fun e w' => ∃ us, e = .returned (.agg (List.toArray us)) ∧ us.length = 3 ∧ RecHas w' w.heap.size w'.heap.size [f0, .n p1, .n p2] us ∧ Below w.heap.size w w' := by
  go_enter Try.func71, Try.ntmps71
  go_upto_region 2 with fail
  have h0 := TS.start w 103 60 [.slice a0 n0 c0, .int .i64 p1, .int .i64 p2] [.slice none 0 0, .int .i64 0, .int .i64 0]
  simp only [List.toArray] at h0
  generalize ((w.alloc (.cells #[.slice a0 n0 c0, .int .i64 p1, .int .i64 p2] 103 (0, 0))).alloc (.cells #[.slice none 0 0, .int .i64 0, .int .i64 0] 60 (0, 0))).alloc (.cells #[.slice none 0 0, .int .i64 0, .int .i64 0] 60 (0, 0)) = w0 at *
  have q0 := h0.a.cell (i := 0) rfl
  have z0 := h0.o.free 0
  have x0 := h0.o.cell (i := 0) rfl
  go_wp2_with fail
  refine (H0 w0 h0.y).mono ?_
  rintro e w1 ⟨g0, m0, rfl, hh0, hb0⟩
  have h1 := h0.call hh0 hb0
  clear q0 z0 x0 h0 hh0 hb0 H0
  have z0 := h1.o.free 0
  have x0 := h1.o.cell (i := 0) rfl
  go_upto_region 3 with fail
  have h2 := h1.put 0 (.slice (some ⟨g0, 0, none⟩) m0 m0)
  generalize w1.setCell ⟨w.heap.size + 1 + 1, 0, none⟩ (.slice (some ⟨g0, 0, none⟩) m0 m0) = w2 at *
  clear z0 x0 h1
  have q1 := h2.a.cell (i := 1) rfl
  have z1 := h2.o.free 1
  have x1 := h2.o.cell (i := 1) rfl
  go_upto_region 4 with fail
  have h3 := h2.plain 1 (.n p1) (.int .i64 p1) (has_n _)
  generalize w2.setCell ⟨w.heap.size + 1 + 1, 1, none⟩ (.int .i64 p1) = w3 at *
  clear z1 x1 h2 q1
  have q2 := h3.a.cell (i := 2) rfl
  have z2 := h3.o.free 2
  have x2 := h3.o.cell (i := 2) rfl
  have hr := h3.z
  have d0 := hr.cell (i := 0) rfl
  have d1 := hr.cell (i := 1) rfl
  have d2 := hr.cell (i := 2) rfl
  have e0 := hr.free 0
  have e1 := hr.free 1
  have e2 := hr.free 2
  have o0 := h3.o.cell (i := 0) rfl
  have o1 := h3.o.cell (i := 1) rfl
  have o2 := h3.o.cell (i := 2) rfl
  go_wp2_with fail
  have h4 := h3.plain 2 (.n p2) (.int .i64 p2) (has_n _)
  have hf := h4.finish
  refine bodyPost_ret (v := .agg #[.slice (some ⟨g0, 0, none⟩) m0 m0, .int .i64 p1, .int .i64 p2]) (by simp only [results, Try.results71]; simp [go_sem, d0, d1, d2]) rfl ⟨[.slice (some ⟨g0, 0, none⟩) m0 m0, .int .i64 p1, .int .i64 p2], rfl, rfl, hf.1, hf.2⟩

set_option maxHeartbeats 4000000 in
theorem toImport0 (a0 : Option Addr) (n0 c0 : Nat) (f0 : Fl) (a1 : Option Addr) (n1 c1 : Nat) (f1 : Fl) (p2 : Int) (w : World)
    (H0 : ToV w 45 f0 (.slice a0 n0 c0)) (H1 : ToV w 45 f1 (.slice a1 n1 c1)) :
    Calls Try.prog 72 #[.agg #[.slice a0 n0 c0, .slice a1 n1 c1, .int .i64 p2]] w fun e w' => ∃ us, e = .returned (.agg (List.toArray us)) ∧ us.length = 3 ∧ RecHas w' w.heap.size w'.heap.size [f0, f1, .n p2] us ∧ Below w.heap.size w w' := by
  go_enter Try.func72, Try.ntmps72
  go_upto_region 2 with fail
  have h0 := TS.start w 105 52 [.slice a0 n0 c0, .slice a1 n1 c1, .int .i64 p2] [.slice none 0 0, .slice none 0 0, .int .i64 0]
  simp only [List.toArray] at h0
  generalize ((w.alloc (.cells #[.slice a0 n0 c0, .slice a1 n1 c1, .int .i64 p2] 105 (0, 0))).alloc (.cells #[.slice none 0 0, .slice none 0 0, .int .i64 0] 52 (0, 0))).alloc (.cells #[.slice none 0 0, .slice none 0 0, .int .i64 0] 52 (0, 0)) = w0 at *
  have q0 := h0.a.cell (i := 0) rfl
  have z0 := h0.o.free 0
  have x0 := h0.o.cell (i := 0) rfl
  go_wp2_with fail
  refine (H0 w0 h0.y).mono ?_
  rintro e w1 ⟨g0, m0, rfl, hh0, hb0⟩
  have h1 := h0.call hh0 hb0
  clear q0 z0 x0 h0 hh0 hb0 H0
  have z0 := h1.o.free 0
  have x0 := h1.o.cell (i := 0) rfl
  go_upto_region 3 with fail
  have h2 := h1.put 0 (.slice (some ⟨g0, 0, none⟩) m0 m0)
  generalize w1.setCell ⟨w.heap.size + 1 + 1, 0, none⟩ (.slice (some ⟨g0, 0, none⟩) m0 m0) = w2 at *
  clear z0 x0 h1
  have q1 := h2.a.cell (i := 1) rfl
  have z1 := h2.o.free 1
  have x1 := h2.o.cell (i := 1) rfl
  go_wp2_with fail
  refine (H1 w2 h2.y).mono ?_
  rintro e w3 ⟨g1, m1, rfl, hh1, hb1⟩
  have h3 := h2.call hh1 hb1
  clear q1 z1 x1 h2 hh1 hb1 H1
  have z1 := h3.o.free 1
  have x1 := h3.o.cell (i := 1) rfl
  go_upto_region 4 with fail
  have h4 := h3.put 1 (.slice (some ⟨g1, 0, none⟩) m1 m1)
  generalize w3.setCell ⟨w.heap.size + 1 + 1, 1, none⟩ (.slice (some ⟨g1, 0, none⟩) m1 m1) = w4 at *
  clear z1 x1 h3
  have q2 := h4.a.cell (i := 2) rfl
  have z2 := h4.o.free 2
  have x2 := h4.o.cell (i := 2) rfl
  have hr := h4.z
  have d0 := hr.cell (i := 0) rfl
  have d1 := hr.cell (i := 1) rfl
  have d2 := hr.cell (i := 2) rfl
  have e0 := hr.free 0
  have e1 := hr.free 1
  have e2 := hr.free 2
  have o0 := h4.o.cell (i := 0) rfl
  have o1 := h4.o.cell (i := 1) rfl
  have o2 := h4.o.cell (i := 2) rfl
  go_wp2_with fail
  have h5 := h4.plain 2 (.n p2) (.int .i64 p2) (has_n _)
  have hf := h5.finish
  refine bodyPost_ret (v := .agg #[.slice (some ⟨g0, 0, none⟩) m0 m0, .slice (some ⟨g1, 0, none⟩) m1 m1, .int .i64 p2]) (by simp only [results, Try.results72]; simp [go_sem, d0, d1, d2]) rfl ⟨[.slice (some ⟨g0, 0, none⟩) m0 m0, .slice (some ⟨g1, 0, none⟩) m1 m1, .int .i64 p2], rfl, rfl, hf.1, hf.2⟩

set_option maxHeartbeats 4000000 in
theorem toObject0 (a0 : Option Addr) (n0 c0 : Nat) (f0 : Fl) (a1 : Option Addr) (n1 c1 : Nat) (f1 : Fl) (a2 : Option Addr) (n2 c2 : Nat) (f2 : Fl) (p3 : Int) (a4 : Option Addr) (n4 c4 : Nat) (f4 : Fl) (w : World)
    (H0 : ToV w 45 f0 (.slice a0 n0 c0)) (H1 : ToV w 46 f1 (.slice a1 n1 c1)) (H2 : ToV w 47 f2 (.slice a2 n2 c2)) (H4 : ToV w 45 f4 (.slice a4 n4 c4)) :
    Calls Try.prog 19 #[.agg #[.slice a0 n0 c0, .slice a1 n1 c1, .slice a2 n2 c2, .int .i64 p3, .slice a4 n4 c4]] w fun e w' => ∃ us, e = .returned (.agg (List.toArray us)) ∧ us.length = 5 ∧ RecHas w' w.heap.size w'.heap.size [f0, f1, f2, .n p3, f4] us ∧ Below w.heap.size w w' := by
  go_enter Try.func19, Try.ntmps19
  go_upto_region 2 with fail
  have h0 := TS.start w 42 47 [.slice a0 n0 c0, .slice a1 n1 c1, .slice a2 n2 c2, .int .i64 p3, .slice a4 n4 c4] [.slice none 0 0, .slice none 0 0, .slice none 0 0, .int .i64 0, .slice none 0 0]
  simp only [List.toArray] at h0
  generalize ((w.alloc (.cells #[.slice a0 n0 c0, .slice a1 n1 c1, .slice a2 n2 c2, .int .i64 p3, .slice a4 n4 c4] 42 (0, 0))).alloc (.cells #[.slice none 0 0, .slice none 0 0, .slice none 0 0, .int .i64 0, .slice none 0 0] 47 (0, 0))).alloc (.cells #[.slice none 0 0, .slice none 0 0, .slice none 0 0, .int .i64 0, .slice none 0 0] 47 (0, 0)) = w0 at *
  have q0 := h0.a.cell (i := 0) rfl
  have z0 := h0.o.free 0
  have x0 := h0.o.cell (i := 0) rfl
  go_wp2_with fail
  refine (H0 w0 h0.y).mono ?_
  rintro e w1 ⟨g0, m0, rfl, hh0, hb0⟩
  have h1 := h0.call hh0 hb0
  clear q0 z0 x0 h0 hh0 hb0 H0
  have z0 := h1.o.free 0
  have x0 := h1.o.cell (i := 0) rfl
  go_upto_region 3 with fail
  have h2 := h1.put 0 (.slice (some ⟨g0, 0, none⟩) m0 m0)
  generalize w1.setCell ⟨w.heap.size + 1 + 1, 0, none⟩ (.slice (some ⟨g0, 0, none⟩) m0 m0) = w2 at *
  clear z0 x0 h1
  have q1 := h2.a.cell (i := 1) rfl
  have z1 := h2.o.free 1
  have x1 := h2.o.cell (i := 1) rfl
  go_wp2_with fail
  refine (H1 w2 h2.y).mono ?_
  rintro e w3 ⟨g1, m1, rfl, hh1, hb1⟩
  have h3 := h2.call hh1 hb1
  clear q1 z1 x1 h2 hh1 hb1 H1
  have z1 := h3.o.free 1
  have x1 := h3.o.cell (i := 1) rfl
  go_upto_region 4 with fail
  have h4 := h3.put 1 (.slice (some ⟨g1, 0, none⟩) m1 m1)
  generalize w3.setCell ⟨w.heap.size + 1 + 1, 1, none⟩ (.slice (some ⟨g1, 0, none⟩) m1 m1) = w4 at *
  clear z1 x1 h3
  have q2 := h4.a.cell (i := 2) rfl
  have z2 := h4.o.free 2
  have x2 := h4.o.cell (i := 2) rfl
  go_wp2_with fail
  refine (H2 w4 h4.y).mono ?_
  rintro e w5 ⟨g2, m2, rfl, hh2, hb2⟩
  have h5 := h4.call hh2 hb2
  clear q2 z2 x2 h4 hh2 hb2 H2
  have z2 := h5.o.free 2
  have x2 := h5.o.cell (i := 2) rfl
  go_upto_region 5 with fail
  have h6 := h5.put 2 (.slice (some ⟨g2, 0, none⟩) m2 m2)
  generalize w5.setCell ⟨w.heap.size + 1 + 1, 2, none⟩ (.slice (some ⟨g2, 0, none⟩) m2 m2) = w6 at *
  clear z2 x2 h5
  have q3 := h6.a.cell (i := 3) rfl
  have z3 := h6.o.free 3
  have x3 := h6.o.cell (i := 3) rfl
  go_upto_region 6 with fail
  have h7 := h6.plain 3 (.n p3) (.int .i64 p3) (has_n _)
  generalize w6.setCell ⟨w.heap.size + 1 + 1, 3, none⟩ (.int .i64 p3) = w7 at *
  clear z3 x3 h6 q3
  have q4 := h7.a.cell (i := 4) rfl
  have z4 := h7.o.free 4
  have x4 := h7.o.cell (i := 4) rfl
  go_wp2_with fail
  refine (H4 w7 h7.y).mono ?_
  rintro e w8 ⟨g4, m4, rfl, hh4, hb4⟩
  have h8 := h7.call hh4 hb4
  clear q4 z4 x4 h7 hh4 hb4 H4
  have z4 := h8.o.free 4
  have x4 := h8.o.cell (i := 4) rfl
  have hr := h8.z
  have d0 := hr.cell (i := 0) rfl
  have d1 := hr.cell (i := 1) rfl
  have d2 := hr.cell (i := 2) rfl
  have d3 := hr.cell (i := 3) rfl
  have d4 := hr.cell (i := 4) rfl
  have e0 := hr.free 0
  have e1 := hr.free 1
  have e2 := hr.free 2
  have e3 := hr.free 3
  have e4 := hr.free 4
  have o0 := h8.o.cell (i := 0) rfl
  have o1 := h8.o.cell (i := 1) rfl
  have o2 := h8.o.cell (i := 2) rfl
  have o3 := h8.o.cell (i := 3) rfl
  have o4 := h8.o.cell (i := 4) rfl
  go_wp2_with fail
  have h9 := h8.put 4 (.slice (some ⟨g4, 0, none⟩) m4 m4)
  have hf := h9.finish
  refine bodyPost_ret (v := .agg #[.slice (some ⟨g0, 0, none⟩) m0 m0, .slice (some ⟨g1, 0, none⟩) m1 m1, .slice (some ⟨g2, 0, none⟩) m2 m2, .int .i64 p3, .slice (some ⟨g4, 0, none⟩) m4 m4]) (by simp only [results, Try.results19]; simp [go_sem, d0, d1, d2, d3, d4]) rfl ⟨[.slice (some ⟨g0, 0, none⟩) m0 m0, .slice (some ⟨g1, 0, none⟩) m1 m1, .slice (some ⟨g2, 0, none⟩) m2 m2, .int .i64 p3, .slice (some ⟨g4, 0, none⟩) m4 m4], rfl, rfl, hf.1, hf.2⟩

end Go.Proofs.Ytefciaeajlgheaa
