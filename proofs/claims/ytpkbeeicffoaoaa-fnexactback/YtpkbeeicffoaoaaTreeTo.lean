/- Contracts of the laws' own helpers that copy modules. -/
import Derived.Test.YtpkbeeicffoaoaaTreeOwn
import Derived.Test.YtpkbeeicffoaoaaBytes
import Derived.Deep.RegionHeld3
import Derived.Deep.Cut
import Derived.Deep.CutRange
namespace Go.Proofs.Ytpkbeeicffoaoaa
open Go.RowKit
set_option linter.unusedVariables false
set_option maxRecDepth 100000

/-- The helper F copies this value, in w and behind it. -/
def ToV (w : World) (F : Nat) (f : Fl) (v : Value) : Prop :=
  ∀ w1 : World, Below w.heap.size w w1 → Calls Try.prog F #[v] w1 fun e w' => ∃ g n, e = .returned (.slice (some ⟨g, 0, none⟩) n n) ∧ f.Has w' w1.heap.size w'.heap.size (.slice (some ⟨g, 0, none⟩) n n) ∧ Below w1.heap.size w1 w'

/-- Cells of a block. -/
def Blk (w : World) (g : Nat) (T : TypeId) (vs : List Value) : Prop := w.heap[g]? = some (.cells vs.toArray T (0, 0))

theorem Blk.cell {w : World} {g i : Nat} {T : TypeId} {vs : List Value} {v : Value} (h : Blk w g T vs) (hi : vs[i]? = some v) : w.cell? ⟨g, i, none⟩ = some v := by
  rw [cell_of_row w g i _ T (0, 0) h]; simpa using hi
theorem Blk.c2 {w : World} {g : Nat} {T : TypeId} {v0 v1 : Value} {l : List Value} (h : Blk w g T (v0 :: v1 :: l)) : w.cell? ⟨g, 0, none⟩ = some v0 ∧ w.cell? ⟨g, 1, none⟩ = some v1 := ⟨h.cell (i := 0) rfl, h.cell (i := 1) rfl⟩
theorem Blk.c3 {w : World} {g : Nat} {T : TypeId} {v0 v1 v2 : Value} {l : List Value} (h : Blk w g T (v0 :: v1 :: v2 :: l)) : w.cell? ⟨g, 0, none⟩ = some v0 ∧ w.cell? ⟨g, 1, none⟩ = some v1 ∧ w.cell? ⟨g, 2, none⟩ = some v2 := ⟨h.cell (i := 0) rfl, h.cell (i := 1) rfl, h.cell (i := 2) rfl⟩
theorem Blk.c4 {w : World} {g : Nat} {T : TypeId} {v0 v1 v2 v3 : Value} {l : List Value} (h : Blk w g T (v0 :: v1 :: v2 :: v3 :: l)) : w.cell? ⟨g, 0, none⟩ = some v0 ∧ w.cell? ⟨g, 1, none⟩ = some v1 ∧ w.cell? ⟨g, 2, none⟩ = some v2 ∧ w.cell? ⟨g, 3, none⟩ = some v3 := ⟨h.cell (i := 0) rfl, h.cell (i := 1) rfl, h.cell (i := 2) rfl, h.cell (i := 3) rfl⟩
theorem Blk.c5 {w : World} {g : Nat} {T : TypeId} {v0 v1 v2 v3 v4 : Value} {l : List Value} (h : Blk w g T (v0 :: v1 :: v2 :: v3 :: v4 :: l)) : w.cell? ⟨g, 0, none⟩ = some v0 ∧ w.cell? ⟨g, 1, none⟩ = some v1 ∧ w.cell? ⟨g, 2, none⟩ = some v2 ∧ w.cell? ⟨g, 3, none⟩ = some v3 ∧ w.cell? ⟨g, 4, none⟩ = some v4 := ⟨h.cell (i := 0) rfl, h.cell (i := 1) rfl, h.cell (i := 2) rfl, h.cell (i := 3) rfl, h.cell (i := 4) rfl⟩
theorem Blk.c6 {w : World} {g : Nat} {T : TypeId} {v0 v1 v2 v3 v4 v5 : Value} {l : List Value} (h : Blk w g T (v0 :: v1 :: v2 :: v3 :: v4 :: v5 :: l)) : w.cell? ⟨g, 0, none⟩ = some v0 ∧ w.cell? ⟨g, 1, none⟩ = some v1 ∧ w.cell? ⟨g, 2, none⟩ = some v2 ∧ w.cell? ⟨g, 3, none⟩ = some v3 ∧ w.cell? ⟨g, 4, none⟩ = some v4 ∧ w.cell? ⟨g, 5, none⟩ = some v5 := ⟨h.cell (i := 0) rfl, h.cell (i := 1) rfl, h.cell (i := 2) rfl, h.cell (i := 3) rfl, h.cell (i := 4) rfl, h.cell (i := 5) rfl⟩
theorem Blk.free {w : World} {g : Nat} {T : TypeId} {vs : List Value} (h : Blk w g T vs) (i : Nat) : w.frozen? ⟨g, i, none⟩ = false := frozen_of_row w g i _ _ h
theorem Blk.below {w w' : World} {g B : Nat} {T : TypeId} {vs : List Value} (h : Blk w g T vs) (hb : Below B w w') (hg : g < B) : Blk w' g T vs := (hb.block g hg).trans h
theorem Blk.lt {w : World} {g : Nat} {T : TypeId} {vs : List Value} (h : Blk w g T vs) : g < w.heap.size := (Array.getElem?_eq_some_iff.1 h).1
theorem Blk.new (w : World) (T : TypeId) (vs : List Value) : Blk (w.alloc (.cells vs.toArray T (0, 0))) w.heap.size T vs := heap_alloc_new w _
theorem Blk.old {w : World} {g : Nat} {T : TypeId} {vs : List Value} {o : Obj} (h : Blk w g T vs) : Blk (w.alloc o) g T vs :=
  ((((Below.refl w.heap.size w).alloc (Nat.le_refl _) o).block g (Array.getElem?_eq_some_iff.1 h).1)).trans h
theorem Blk.other {w : World} {g k i : Nat} {T : TypeId} {vs : List Value} {v : Value} (h : Blk w g T vs) (hne : g ≠ k) : Blk (w.setCell ⟨k, i, none⟩ v) g T vs := (heap_setCell_other w ⟨k, i, none⟩ g v hne).trans h
theorem Blk.set {w : World} {g i : Nat} {T : TypeId} {vs : List Value} (h : Blk w g T vs) (v : Value) : Blk (w.setCell ⟨g, i, none⟩ v) g T (vs.set i v) := by
  unfold Blk; rw [heap_setCell_same w g i _ _ _ h]; simp

theorem RecHas.snoc {w : World} {f : Fl} {u : Value} : ∀ {r : List Fl} {lo mid hi : Nat} {us : List Value}, RecHas w lo mid r us → Fl.Has w mid hi f u → lo ≤ mid → mid ≤ hi → RecHas w lo hi (r ++ [f]) (us ++ [u]) := by
  intro r
  induction r with
  | nil =>
    intro lo mid hi us h h2 a b
    unfold RecHas at h
    subst h
    rw [List.nil_append, List.nil_append]
    unfold RecHas
    refine ⟨u, [], hi, rfl, by omega, Nat.le_refl _, h2.wide a (Nat.le_refl _), ?_⟩
    unfold RecHas; rfl
  | cons x r ih =>
    intro lo mid hi us h h2 a b
    unfold RecHas at h
    obtain ⟨u0, us', m, rfl, h1, h3, h4, h5⟩ := h
    have := ih h5 h2 (by omega) b
    rw [List.cons_append, List.cons_append]
    unfold RecHas
    exact ⟨u0, us' ++ [u], m, rfl, h1, by omega, h4, this⟩

/-- How far a record's copy has come: what came in, the answer's place, the record that is being laid. -/
structure TS (w W : World) (TA TR : TypeId) (A Z cur : List Value) (r : List Fl) (us : List Value) : Prop where
  a : Blk W w.heap.size TA A
  z : Blk W (w.heap.size + 1) TR Z
  o : Blk W (w.heap.size + 1 + 1) TR cur
  y : Below w.heap.size w W
  s : w.heap.size + 3 ≤ W.heap.size
  h : RecHas W (w.heap.size + 3) W.heap.size r us

theorem TS.start (w : World) (TA TR : TypeId) (A Z : List Value) : TS w (((w.alloc (.cells A.toArray TA (0, 0))).alloc (.cells Z.toArray TR (0, 0))).alloc (.cells Z.toArray TR (0, 0))) TA TR A Z Z [] [] := by
  have y1 : Below w.heap.size w (w.alloc (.cells A.toArray TA (0, 0))) := (Below.refl _ _).alloc (Nat.le_refl _) _
  have y2 := y1.alloc y1.size (.cells Z.toArray TR (0, 0))
  have y3 := y2.alloc y2.size (.cells Z.toArray TR (0, 0))
  refine ⟨(Blk.new w TA A).old.old, ?_, ?_, y3, by simp, by unfold RecHas; rfl⟩
  · have := (Blk.new (w.alloc (.cells A.toArray TA (0, 0))) TR Z).old (o := .cells Z.toArray TR (0, 0))
    simpa using this
  · have := Blk.new ((w.alloc (.cells A.toArray TA (0, 0))).alloc (.cells Z.toArray TR (0, 0))) TR Z
    simpa using this

theorem TS.call {w W W1 : World} {TA TR : TypeId} {A Z cur : List Value} {r : List Fl} {us : List Value} {f : Fl} {u : Value} (t : TS w W TA TR A Z cur r us) (h : f.Has W1 W.heap.size W1.heap.size u) (hb : Below W.heap.size W W1) :
    TS w W1 TA TR A Z cur (r ++ [f]) (us ++ [u]) :=
  ⟨t.a.below hb t.a.lt, t.z.below hb t.z.lt, t.o.below hb t.o.lt, t.y.trans (hb.mono t.y.size), Nat.le_trans t.s hb.size,
    (t.h.stays (Stays.of hb (Nat.le_refl _))).snoc h t.s hb.size⟩

theorem TS.put {w W : World} {TA TR : TypeId} {A Z cur : List Value} {r : List Fl} {us : List Value} (t : TS w W TA TR A Z cur r us) (i : Nat) (v : Value) :
    TS w (W.setCell ⟨w.heap.size + 1 + 1, i, none⟩ v) TA TR A Z (cur.set i v) r us := by
  have e : (W.setCell ⟨w.heap.size + 1 + 1, i, none⟩ v).heap.size = W.heap.size := by simp
  refine ⟨t.a.other (by omega), t.z.other (by omega), t.o.set v, t.y.setCell (by simp; omega) v, by rw [e]; exact t.s, ?_⟩
  rw [e]
  exact t.h.stays (Stays.put (.inl (by omega)))

theorem TS.plain {w W : World} {TA TR : TypeId} {A Z cur : List Value} {r : List Fl} {us : List Value} (t : TS w W TA TR A Z cur r us) (i : Nat) (f : Fl) (v : Value) (hf : ∀ W lo hi, f.Has W lo hi v) :
    TS w (W.setCell ⟨w.heap.size + 1 + 1, i, none⟩ v) TA TR A Z (cur.set i v) (r ++ [f]) (us ++ [v]) := by
  have t' := t.put i v
  exact ⟨t'.a, t'.z, t'.o, t'.y, t'.s, t'.h.snoc (hf _ _ _) t'.s (Nat.le_refl _)⟩

/-- Cells of the answer's place set, one behind the other. -/
def setAll (W : World) (g : Nat) : Nat → List Value → World
  | _, [] => W
  | i, v :: l => setAll (W.setCell ⟨g, i, none⟩ v) g (i + 1) l

theorem setAll_size (g : Nat) : ∀ (l : List Value) (W : World) (i : Nat), (setAll W g i l).heap.size = W.heap.size := by
  intro l
  induction l with
  | nil => intro W i; rfl
  | cons v l ih => intro W i; rw [setAll, ih]; simp

theorem setAll_keep {w : World} (g : Nat) {lo hi : Nat} (hg : w.heap.size ≤ g) (hl : g < lo) {r : List Fl} {us : List Value} : ∀ (l : List Value) (W : World) (i : Nat), Below w.heap.size w W → RecHas W lo hi r us → Below w.heap.size w (setAll W g i l) ∧ RecHas (setAll W g i l) lo hi r us := by
  intro l
  induction l with
  | nil => intro W i a b; exact ⟨a, b⟩
  | cons v l ih => intro W i a b; exact ih _ _ (a.setCell (by simpa using hg) v) (b.stays (Stays.put (.inl hl)))

theorem TS.finish {w W : World} {TA TR : TypeId} {A Z cur : List Value} {r : List Fl} {us : List Value} (t : TS w W TA TR A Z cur r us) :
    RecHas (setAll W (w.heap.size + 1) 0 cur) w.heap.size (setAll W (w.heap.size + 1) 0 cur).heap.size r us ∧ Below w.heap.size w (setAll W (w.heap.size + 1) 0 cur) := by
  obtain ⟨h1, h2⟩ := setAll_keep (w := w) (w.heap.size + 1) (lo := w.heap.size + 3) (by omega) (by omega) cur W 0 t.y t.h
  rw [setAll_size]
  exact ⟨h2.wide (by omega) (Nat.le_refl _), h1⟩

theorem has_n (x : Int) : ∀ W lo hi, (Fl.n x).Has W lo hi (.int .i64 x) := by intro W lo hi; unfold Fl.Has; rfl
theorem has_t (x : Bool) : ∀ W lo hi, (Fl.t x).Has W lo hi (.bool x) := by intro W lo hi; unfold Fl.Has; rfl

set_option maxHeartbeats 4000000 in
theorem toArg0 (t0 : Bool) (p1 : Int) (w : World)
     :
    Calls Try.prog 51 #[.agg #[.bool t0, .int .i64 p1]] w fun e w' => ∃ us, e = .returned (.agg (List.toArray us)) ∧ us.length = 2 ∧ RecHas w' w.heap.size w'.heap.size [.t t0, .n p1] us ∧ Below w.heap.size w w' := by
  go_enter Try.func51, Try.ntmps51
  go_upto_region 2 with fail
  have h0 := TS.start w 95 89 [.bool t0, .int .i64 p1] [.bool false, .int .i64 0]
  simp only [List.toArray] at h0
  generalize ((w.alloc (.cells #[.bool t0, .int .i64 p1] 95 (0, 0))).alloc (.cells #[.bool false, .int .i64 0] 89 (0, 0))).alloc (.cells #[.bool false, .int .i64 0] 89 (0, 0)) = w0 at *
  have q0 := h0.a.cell (i := 0) rfl
  have z0 := h0.o.free 0
  have x0 := h0.o.cell (i := 0) rfl
  go_upto_region 3 with fail
  have h1 := h0.plain 0 (.t t0) (.bool t0) (has_t _)
  generalize w0.setCell ⟨w.heap.size + 1 + 1, 0, none⟩ (.bool t0) = w1 at *
  clear z0 x0 h0 q0
  have q1 := h1.a.cell (i := 1) rfl
  have z1 := h1.o.free 1
  have x1 := h1.o.cell (i := 1) rfl
  have hr := h1.z
  have d0 := hr.cell (i := 0) rfl
  have d1 := hr.cell (i := 1) rfl
  have e0 := hr.free 0
  have e1 := hr.free 1
  have o0 := h1.o.cell (i := 0) rfl
  have o1 := h1.o.cell (i := 1) rfl
  go_wp2_with fail
  have h2 := h1.plain 1 (.n p1) (.int .i64 p1) (has_n _)
  have hf := h2.finish
  refine bodyPost_ret (v := .agg #[.bool t0, .int .i64 p1]) (by simp only [results, Try.results51]; simp [go_sem, d0, d1]) rfl ⟨[.bool t0, .int .i64 p1], rfl, rfl, hf.1, hf.2⟩

set_option maxHeartbeats 4000000 in
theorem toWord0 (t0 : Bool) (p1 : Int) (p2 : Int) (p3 : Int) (p4 : Int) (p5 : Int) (p6 : Int) (w : World)
     :
    Calls Try.prog 36 #[.agg #[.bool t0, .int .i64 p1, .int .i64 p2, .int .i64 p3, .int .i64 p4, .int .i64 p5, .int .i64 p6]] w fun e w' => ∃ us, e = .returned (.agg (List.toArray us)) ∧ us.length = 7 ∧ RecHas w' w.heap.size w'.heap.size [.t t0, .n p1, .n p2, .n p3, .n p4, .n p5, .n p6] us ∧ Below w.heap.size w w' := by
  go_enter Try.func36, Try.ntmps36
  go_upto_region 2 with fail
  have h0 := TS.start w 76 74 [.bool t0, .int .i64 p1, .int .i64 p2, .int .i64 p3, .int .i64 p4, .int .i64 p5, .int .i64 p6] [.bool false, .int .i64 0, .int .i64 0, .int .i64 0, .int .i64 0, .int .i64 0, .int .i64 0]
  simp only [List.toArray] at h0
  generalize ((w.alloc (.cells #[.bool t0, .int .i64 p1, .int .i64 p2, .int .i64 p3, .int .i64 p4, .int .i64 p5, .int .i64 p6] 76 (0, 0))).alloc (.cells #[.bool false, .int .i64 0, .int .i64 0, .int .i64 0, .int .i64 0, .int .i64 0, .int .i64 0] 74 (0, 0))).alloc (.cells #[.bool false, .int .i64 0, .int .i64 0, .int .i64 0, .int .i64 0, .int .i64 0, .int .i64 0] 74 (0, 0)) = w0 at *
  have q0 := h0.a.cell (i := 0) rfl
  have z0 := h0.o.free 0
  have x0 := h0.o.cell (i := 0) rfl
  go_upto_region 3 with fail
  have h1 := h0.plain 0 (.t t0) (.bool t0) (has_t _)
  generalize w0.setCell ⟨w.heap.size + 1 + 1, 0, none⟩ (.bool t0) = w1 at *
  clear z0 x0 h0 q0
  have q1 := h1.a.cell (i := 1) rfl
  have z1 := h1.o.free 1
  have x1 := h1.o.cell (i := 1) rfl
  go_upto_region 4 with fail
  have h2 := h1.plain 1 (.n p1) (.int .i64 p1) (has_n _)
  generalize w1.setCell ⟨w.heap.size + 1 + 1, 1, none⟩ (.int .i64 p1) = w2 at *
  clear z1 x1 h1 q1
  have q2 := h2.a.cell (i := 2) rfl
  have z2 := h2.o.free 2
  have x2 := h2.o.cell (i := 2) rfl
  go_upto_region 5 with fail
  have h3 := h2.plain 2 (.n p2) (.int .i64 p2) (has_n _)
  generalize w2.setCell ⟨w.heap.size + 1 + 1, 2, none⟩ (.int .i64 p2) = w3 at *
  clear z2 x2 h2 q2
  have q3 := h3.a.cell (i := 3) rfl
  have z3 := h3.o.free 3
  have x3 := h3.o.cell (i := 3) rfl
  go_upto_region 6 with fail
  have h4 := h3.plain 3 (.n p3) (.int .i64 p3) (has_n _)
  generalize w3.setCell ⟨w.heap.size + 1 + 1, 3, none⟩ (.int .i64 p3) = w4 at *
  clear z3 x3 h3 q3
  have q4 := h4.a.cell (i := 4) rfl
  have z4 := h4.o.free 4
  have x4 := h4.o.cell (i := 4) rfl
  go_upto_region 7 with fail
  have h5 := h4.plain 4 (.n p4) (.int .i64 p4) (has_n _)
  generalize w4.setCell ⟨w.heap.size + 1 + 1, 4, none⟩ (.int .i64 p4) = w5 at *
  clear z4 x4 h4 q4
  have q5 := h5.a.cell (i := 5) rfl
  have z5 := h5.o.free 5
  have x5 := h5.o.cell (i := 5) rfl
  go_upto_region 8 with fail
  have h6 := h5.plain 5 (.n p5) (.int .i64 p5) (has_n _)
  generalize w5.setCell ⟨w.heap.size + 1 + 1, 5, none⟩ (.int .i64 p5) = w6 at *
  clear z5 x5 h5 q5
  have q6 := h6.a.cell (i := 6) rfl
  have z6 := h6.o.free 6
  have x6 := h6.o.cell (i := 6) rfl
  have hr := h6.z
  have d0 := hr.cell (i := 0) rfl
  have d1 := hr.cell (i := 1) rfl
  have d2 := hr.cell (i := 2) rfl
  have d3 := hr.cell (i := 3) rfl
  have d4 := hr.cell (i := 4) rfl
  have d5 := hr.cell (i := 5) rfl
  have d6 := hr.cell (i := 6) rfl
  have e0 := hr.free 0
  have e1 := hr.free 1
  have e2 := hr.free 2
  have e3 := hr.free 3
  have e4 := hr.free 4
  have e5 := hr.free 5
  have e6 := hr.free 6
  have o0 := h6.o.cell (i := 0) rfl
  have o1 := h6.o.cell (i := 1) rfl
  have o2 := h6.o.cell (i := 2) rfl
  have o3 := h6.o.cell (i := 3) rfl
  have o4 := h6.o.cell (i := 4) rfl
  have o5 := h6.o.cell (i := 5) rfl
  have o6 := h6.o.cell (i := 6) rfl
  go_wp2_with fail
  have h7 := h6.plain 6 (.n p6) (.int .i64 p6) (has_n _)
  have hf := h7.finish
  refine bodyPost_ret (v := .agg #[.bool t0, .int .i64 p1, .int .i64 p2, .int .i64 p3, .int .i64 p4, .int .i64 p5, .int .i64 p6]) (by simp only [results, Try.results36]; simp [go_sem, d0, d1, d2, d3, d4, d5, d6]) rfl ⟨[.bool t0, .int .i64 p1, .int .i64 p2, .int .i64 p3, .int .i64 p4, .int .i64 p5, .int .i64 p6], rfl, rfl, hf.1, hf.2⟩

set_option maxHeartbeats 4000000 in
theorem toEvent0 (p0 : Int) (p1 : Int) (p2 : Int) (p3 : Int) (a4 : Option Addr) (n4 c4 : Nat) (f4 : Fl) (p5 : Int) (w : World)
    (H4 : ToV w 46 f4 (.slice a4 n4 c4)) :
    Calls Try.prog 35 #[.agg #[.int .i64 p0, .int .i64 p1, .int .i64 p2, .int .i64 p3, .slice a4 n4 c4, .int .i64 p5]] w fun e w' => ∃ us, e = .returned (.agg (List.toArray us)) ∧ us.length = 6 ∧ RecHas w' w.heap.size w'.heap.size [.n p0, .n p1, .n p2, .n p3, f4, .n p5] us ∧ Below w.heap.size w w' := by
  go_enter Try.func35, Try.ntmps35
  go_upto_region 2 with fail
  have h0 := TS.start w 71 50 [.int .i64 p0, .int .i64 p1, .int .i64 p2, .int .i64 p3, .slice a4 n4 c4, .int .i64 p5] [.int .i64 0, .int .i64 0, .int .i64 0, .int .i64 0, .slice none 0 0, .int .i64 0]
  simp only [List.toArray] at h0
  generalize ((w.alloc (.cells #[.int .i64 p0, .int .i64 p1, .int .i64 p2, .int .i64 p3, .slice a4 n4 c4, .int .i64 p5] 71 (0, 0))).alloc (.cells #[.int .i64 0, .int .i64 0, .int .i64 0, .int .i64 0, .slice none 0 0, .int .i64 0] 50 (0, 0))).alloc (.cells #[.int .i64 0, .int .i64 0, .int .i64 0, .int .i64 0, .slice none 0 0, .int .i64 0] 50 (0, 0)) = w0 at *
  have q0 := h0.a.cell (i := 0) rfl
  have z0 := h0.o.free 0
  have x0 := h0.o.cell (i := 0) rfl
  go_upto_region 3 with fail
  have h1 := h0.plain 0 (.n p0) (.int .i64 p0) (has_n _)
  generalize w0.setCell ⟨w.heap.size + 1 + 1, 0, none⟩ (.int .i64 p0) = w1 at *
  clear z0 x0 h0 q0
  have q1 := h1.a.cell (i := 1) rfl
  have z1 := h1.o.free 1
  have x1 := h1.o.cell (i := 1) rfl
  go_upto_region 4 with fail
  have h2 := h1.plain 1 (.n p1) (.int .i64 p1) (has_n _)
  generalize w1.setCell ⟨w.heap.size + 1 + 1, 1, none⟩ (.int .i64 p1) = w2 at *
  clear z1 x1 h1 q1
  have q2 := h2.a.cell (i := 2) rfl
  have z2 := h2.o.free 2
  have x2 := h2.o.cell (i := 2) rfl
  go_upto_region 5 with fail
  have h3 := h2.plain 2 (.n p2) (.int .i64 p2) (has_n _)
  generalize w2.setCell ⟨w.heap.size + 1 + 1, 2, none⟩ (.int .i64 p2) = w3 at *
  clear z2 x2 h2 q2
  have q3 := h3.a.cell (i := 3) rfl
  have z3 := h3.o.free 3
  have x3 := h3.o.cell (i := 3) rfl
  go_upto_region 6 with fail
  have h4 := h3.plain 3 (.n p3) (.int .i64 p3) (has_n _)
  generalize w3.setCell ⟨w.heap.size + 1 + 1, 3, none⟩ (.int .i64 p3) = w4 at *
  clear z3 x3 h3 q3
  have q4 := h4.a.cell (i := 4) rfl
  have z4 := h4.o.free 4
  have x4 := h4.o.cell (i := 4) rfl
  go_wp2_with fail
  refine (H4 w4 h4.y).mono ?_
  rintro e w5 ⟨g4, m4, rfl, hh4, hb4⟩
  have h5 := h4.call hh4 hb4
  clear q4 z4 x4 h4 hh4 hb4 H4
  have z4 := h5.o.free 4
  have x4 := h5.o.cell (i := 4) rfl
  go_upto_region 7 with fail
  have h6 := h5.put 4 (.slice (some ⟨g4, 0, none⟩) m4 m4)
  generalize w5.setCell ⟨w.heap.size + 1 + 1, 4, none⟩ (.slice (some ⟨g4, 0, none⟩) m4 m4) = w6 at *
  clear z4 x4 h5
  have q5 := h6.a.cell (i := 5) rfl
  have z5 := h6.o.free 5
  have x5 := h6.o.cell (i := 5) rfl
  have hr := h6.z
  have d0 := hr.cell (i := 0) rfl
  have d1 := hr.cell (i := 1) rfl
  have d2 := hr.cell (i := 2) rfl
  have d3 := hr.cell (i := 3) rfl
  have d4 := hr.cell (i := 4) rfl
  have d5 := hr.cell (i := 5) rfl
  have e0 := hr.free 0
  have e1 := hr.free 1
  have e2 := hr.free 2
  have e3 := hr.free 3
  have e4 := hr.free 4
  have e5 := hr.free 5
  have o0 := h6.o.cell (i := 0) rfl
  have o1 := h6.o.cell (i := 1) rfl
  have o2 := h6.o.cell (i := 2) rfl
  have o3 := h6.o.cell (i := 3) rfl
  have o4 := h6.o.cell (i := 4) rfl
  have o5 := h6.o.cell (i := 5) rfl
  go_wp2_with fail
  have h7 := h6.plain 5 (.n p5) (.int .i64 p5) (has_n _)
  have hf := h7.finish
  refine bodyPost_ret (v := .agg #[.int .i64 p0, .int .i64 p1, .int .i64 p2, .int .i64 p3, .slice (some ⟨g4, 0, none⟩) m4 m4, .int .i64 p5]) (by simp only [results, Try.results35]; simp [go_sem, d0, d1, d2, d3, d4, d5]) rfl ⟨[.int .i64 p0, .int .i64 p1, .int .i64 p2, .int .i64 p3, .slice (some ⟨g4, 0, none⟩) m4 m4, .int .i64 p5], rfl, rfl, hf.1, hf.2⟩

set_option maxHeartbeats 4000000 in
theorem toResult0 (p0 : Int) (p1 : Int) (p2 : Int) (p3 : Int) (p4 : Int) (p5 : Int) (a6 : Option Addr) (n6 c6 : Nat) (f6 : Fl) (a7 : Option Addr) (n7 c7 : Nat) (f7 : Fl) (a8 : Option Addr) (n8 c8 : Nat) (f8 : Fl) (a9 : Option Addr) (n9 c9 : Nat) (f9 : Fl) (a10 : Option Addr) (n10 c10 : Nat) (f10 : Fl) (w : World)
    (H6 : ToV w 20 f6 (.slice a6 n6 c6)) (H7 : ToV w 21 f7 (.slice a7 n7 c7)) (H8 : ToV w 21 f8 (.slice a8 n8 c8)) (H9 : ToV w 22 f9 (.slice a9 n9 c9)) (H10 : ToV w 22 f10 (.slice a10 n10 c10)) :
    Calls Try.prog 6 #[.agg #[.int .i64 p0, .int .i64 p1, .int .i64 p2, .int .i64 p3, .int .i64 p4, .int .i64 p5, .slice a6 n6 c6, .slice a7 n7 c7, .slice a8 n8 c8, .slice a9 n9 c9, .slice a10 n10 c10]] w fun e w' => ∃ us, e = .returned (.agg (List.toArray us)) ∧ us.length = 11 ∧ RecHas w' w.heap.size w'.heap.size [.n p0, .n p1, .n p2, .n p3, .n p4, .n p5, f6, f7, f8, f9, f10] us ∧ Below w.heap.size w w' := by
  go_enter Try.func6, Try.ntmps6
  go_upto_region 2 with fail
  have h0 := TS.start w 26 35 [.int .i64 p0, .int .i64 p1, .int .i64 p2, .int .i64 p3, .int .i64 p4, .int .i64 p5, .slice a6 n6 c6, .slice a7 n7 c7, .slice a8 n8 c8, .slice a9 n9 c9, .slice a10 n10 c10] [.int .i64 0, .int .i64 0, .int .i64 0, .int .i64 0, .int .i64 0, .int .i64 0, .slice none 0 0, .slice none 0 0, .slice none 0 0, .slice none 0 0, .slice none 0 0]
  simp only [List.toArray] at h0
  generalize ((w.alloc (.cells #[.int .i64 p0, .int .i64 p1, .int .i64 p2, .int .i64 p3, .int .i64 p4, .int .i64 p5, .slice a6 n6 c6, .slice a7 n7 c7, .slice a8 n8 c8, .slice a9 n9 c9, .slice a10 n10 c10] 26 (0, 0))).alloc (.cells #[.int .i64 0, .int .i64 0, .int .i64 0, .int .i64 0, .int .i64 0, .int .i64 0, .slice none 0 0, .slice none 0 0, .slice none 0 0, .slice none 0 0, .slice none 0 0] 35 (0, 0))).alloc (.cells #[.int .i64 0, .int .i64 0, .int .i64 0, .int .i64 0, .int .i64 0, .int .i64 0, .slice none 0 0, .slice none 0 0, .slice none 0 0, .slice none 0 0, .slice none 0 0] 35 (0, 0)) = w0 at *
  have q0 := h0.a.cell (i := 0) rfl
  have z0 := h0.o.free 0
  have x0 := h0.o.cell (i := 0) rfl
  go_upto_region 3 with fail
  have h1 := h0.plain 0 (.n p0) (.int .i64 p0) (has_n _)
  generalize w0.setCell ⟨w.heap.size + 1 + 1, 0, none⟩ (.int .i64 p0) = w1 at *
  clear z0 x0 h0 q0
  have q1 := h1.a.cell (i := 1) rfl
  have z1 := h1.o.free 1
  have x1 := h1.o.cell (i := 1) rfl
  go_upto_region 4 with fail
  have h2 := h1.plain 1 (.n p1) (.int .i64 p1) (has_n _)
  generalize w1.setCell ⟨w.heap.size + 1 + 1, 1, none⟩ (.int .i64 p1) = w2 at *
  clear z1 x1 h1 q1
  have q2 := h2.a.cell (i := 2) rfl
  have z2 := h2.o.free 2
  have x2 := h2.o.cell (i := 2) rfl
  go_upto_region 5 with fail
  have h3 := h2.plain 2 (.n p2) (.int .i64 p2) (has_n _)
  generalize w2.setCell ⟨w.heap.size + 1 + 1, 2, none⟩ (.int .i64 p2) = w3 at *
  clear z2 x2 h2 q2
  have q3 := h3.a.cell (i := 3) rfl
  have z3 := h3.o.free 3
  have x3 := h3.o.cell (i := 3) rfl
  go_upto_region 6 with fail
  have h4 := h3.plain 3 (.n p3) (.int .i64 p3) (has_n _)
  generalize w3.setCell ⟨w.heap.size + 1 + 1, 3, none⟩ (.int .i64 p3) = w4 at *
  clear z3 x3 h3 q3
  have q4 := h4.a.cell (i := 4) rfl
  have z4 := h4.o.free 4
  have x4 := h4.o.cell (i := 4) rfl
  go_upto_region 7 with fail
  have h5 := h4.plain 4 (.n p4) (.int .i64 p4) (has_n _)
  generalize w4.setCell ⟨w.heap.size + 1 + 1, 4, none⟩ (.int .i64 p4) = w5 at *
  clear z4 x4 h4 q4
  have q5 := h5.a.cell (i := 5) rfl
  have z5 := h5.o.free 5
  have x5 := h5.o.cell (i := 5) rfl
  go_upto_region 8 with fail
  have h6 := h5.plain 5 (.n p5) (.int .i64 p5) (has_n _)
  generalize w5.setCell ⟨w.heap.size + 1 + 1, 5, none⟩ (.int .i64 p5) = w6 at *
  clear z5 x5 h5 q5
  have q6 := h6.a.cell (i := 6) rfl
  have z6 := h6.o.free 6
  have x6 := h6.o.cell (i := 6) rfl
  go_wp2_with fail
  refine (H6 w6 h6.y).mono ?_
  rintro e w7 ⟨g6, m6, rfl, hh6, hb6⟩
  have h7 := h6.call hh6 hb6
  clear q6 z6 x6 h6 hh6 hb6 H6
  have z6 := h7.o.free 6
  have x6 := h7.o.cell (i := 6) rfl
  go_upto_region 9 with fail
  have h8 := h7.put 6 (.slice (some ⟨g6, 0, none⟩) m6 m6)
  generalize w7.setCell ⟨w.heap.size + 1 + 1, 6, none⟩ (.slice (some ⟨g6, 0, none⟩) m6 m6) = w8 at *
  clear z6 x6 h7
  have q7 := h8.a.cell (i := 7) rfl
  have z7 := h8.o.free 7
  have x7 := h8.o.cell (i := 7) rfl
  go_wp2_with fail
  refine (H7 w8 h8.y).mono ?_
  rintro e w9 ⟨g7, m7, rfl, hh7, hb7⟩
  have h9 := h8.call hh7 hb7
  clear q7 z7 x7 h8 hh7 hb7 H7
  have z7 := h9.o.free 7
  have x7 := h9.o.cell (i := 7) rfl
  go_upto_region 10 with fail
  have h10 := h9.put 7 (.slice (some ⟨g7, 0, none⟩) m7 m7)
  generalize w9.setCell ⟨w.heap.size + 1 + 1, 7, none⟩ (.slice (some ⟨g7, 0, none⟩) m7 m7) = w10 at *
  clear z7 x7 h9
  have q8 := h10.a.cell (i := 8) rfl
  have z8 := h10.o.free 8
  have x8 := h10.o.cell (i := 8) rfl
  go_wp2_with fail
  refine (H8 w10 h10.y).mono ?_
  rintro e w11 ⟨g8, m8, rfl, hh8, hb8⟩
  have h11 := h10.call hh8 hb8
  clear q8 z8 x8 h10 hh8 hb8 H8
  have z8 := h11.o.free 8
  have x8 := h11.o.cell (i := 8) rfl
  go_upto_region 11 with fail
  have h12 := h11.put 8 (.slice (some ⟨g8, 0, none⟩) m8 m8)
  generalize w11.setCell ⟨w.heap.size + 1 + 1, 8, none⟩ (.slice (some ⟨g8, 0, none⟩) m8 m8) = w12 at *
  clear z8 x8 h11
  have q9 := h12.a.cell (i := 9) rfl
  have z9 := h12.o.free 9
  have x9 := h12.o.cell (i := 9) rfl
  go_wp2_with fail
  refine (H9 w12 h12.y).mono ?_
  rintro e w13 ⟨g9, m9, rfl, hh9, hb9⟩
  have h13 := h12.call hh9 hb9
  clear q9 z9 x9 h12 hh9 hb9 H9
  have z9 := h13.o.free 9
  have x9 := h13.o.cell (i := 9) rfl
  go_upto_region 12 with fail
  have h14 := h13.put 9 (.slice (some ⟨g9, 0, none⟩) m9 m9)
  generalize w13.setCell ⟨w.heap.size + 1 + 1, 9, none⟩ (.slice (some ⟨g9, 0, none⟩) m9 m9) = w14 at *
  clear z9 x9 h13
  have q10 := h14.a.cell (i := 10) rfl
  have z10 := h14.o.free 10
  have x10 := h14.o.cell (i := 10) rfl
  go_wp2_with fail
  refine (H10 w14 h14.y).mono ?_
  rintro e w15 ⟨g10, m10, rfl, hh10, hb10⟩
  have h15 := h14.call hh10 hb10
  clear q10 z10 x10 h14 hh10 hb10 H10
  have z10 := h15.o.free 10
  have x10 := h15.o.cell (i := 10) rfl
  have hr := h15.z
  have d0 := hr.cell (i := 0) rfl
  have d1 := hr.cell (i := 1) rfl
  have d2 := hr.cell (i := 2) rfl
  have d3 := hr.cell (i := 3) rfl
  have d4 := hr.cell (i := 4) rfl
  have d5 := hr.cell (i := 5) rfl
  have d6 := hr.cell (i := 6) rfl
  have d7 := hr.cell (i := 7) rfl
  have d8 := hr.cell (i := 8) rfl
  have d9 := hr.cell (i := 9) rfl
  have d10 := hr.cell (i := 10) rfl
  have e0 := hr.free 0
  have e1 := hr.free 1
  have e2 := hr.free 2
  have e3 := hr.free 3
  have e4 := hr.free 4
  have e5 := hr.free 5
  have e6 := hr.free 6
  have e7 := hr.free 7
  have e8 := hr.free 8
  have e9 := hr.free 9
  have e10 := hr.free 10
  have o0 := h15.o.cell (i := 0) rfl
  have o1 := h15.o.cell (i := 1) rfl
  have o2 := h15.o.cell (i := 2) rfl
  have o3 := h15.o.cell (i := 3) rfl
  have o4 := h15.o.cell (i := 4) rfl
  have o5 := h15.o.cell (i := 5) rfl
  have o6 := h15.o.cell (i := 6) rfl
  have o7 := h15.o.cell (i := 7) rfl
  have o8 := h15.o.cell (i := 8) rfl
  have o9 := h15.o.cell (i := 9) rfl
  have o10 := h15.o.cell (i := 10) rfl
  go_wp2_with fail
  have h16 := h15.put 10 (.slice (some ⟨g10, 0, none⟩) m10 m10)
  have hf := h16.finish
  refine bodyPost_ret (v := .agg #[.int .i64 p0, .int .i64 p1, .int .i64 p2, .int .i64 p3, .int .i64 p4, .int .i64 p5, .slice (some ⟨g6, 0, none⟩) m6 m6, .slice (some ⟨g7, 0, none⟩) m7 m7, .slice (some ⟨g8, 0, none⟩) m8 m8, .slice (some ⟨g9, 0, none⟩) m9 m9, .slice (some ⟨g10, 0, none⟩) m10 m10]) (by simp only [results, Try.results6]; simp [go_sem, d0, d1, d2, d3, d4, d5, d6, d7, d8, d9, d10]) rfl ⟨[.int .i64 p0, .int .i64 p1, .int .i64 p2, .int .i64 p3, .int .i64 p4, .int .i64 p5, .slice (some ⟨g6, 0, none⟩) m6 m6, .slice (some ⟨g7, 0, none⟩) m7 m7, .slice (some ⟨g8, 0, none⟩) m8 m8, .slice (some ⟨g9, 0, none⟩) m9 m9, .slice (some ⟨g10, 0, none⟩) m10 m10], rfl, rfl, hf.1, hf.2⟩

end Go.Proofs.Ytpkbeeicffoaoaa
