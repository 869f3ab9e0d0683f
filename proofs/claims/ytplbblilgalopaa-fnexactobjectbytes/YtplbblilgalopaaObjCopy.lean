/- A copy of an object by the laws' own helper: all of its memory is its own. -/
import Derived.Test.YtplbblilgalopaaObj
import Derived.Test.YtplbblilgalopaaObjTo
namespace Go.Proofs.Ytplbblilgalopaa
open Go.RowKit
set_option linter.unusedVariables false
set_option linter.unusedSimpArgs false
set_option maxRecDepth 100000

/-- The stores at the end: the last field, then all five into the block that is handed back. -/
theorem lay_obj {w0 w : World} {B g k : Nat} {t : TypeId} {o o' : O5} (h : B5 w k t o') (hb : Below B w0 w) (hg : B ≤ g) (hk : B ≤ k) (hne : k ≠ g) :
    B5 ((((((w.setCell ⟨g, 4, none⟩ o.c).setCell ⟨k, 0, none⟩ o.x).setCell ⟨k, 1, none⟩ o.e).setCell ⟨k, 2, none⟩ o.i).setCell ⟨k, 3, none⟩ o.d).setCell ⟨k, 4, none⟩ o.c) k t o ∧
    Below B w0 ((((((w.setCell ⟨g, 4, none⟩ o.c).setCell ⟨k, 0, none⟩ o.x).setCell ⟨k, 1, none⟩ o.e).setCell ⟨k, 2, none⟩ o.i).setCell ⟨k, 3, none⟩ o.d).setCell ⟨k, 4, none⟩ o.c) ∧
    (∀ lo, g < lo → k < lo → Same lo w ((((((w.setCell ⟨g, 4, none⟩ o.c).setCell ⟨k, 0, none⟩ o.x).setCell ⟨k, 1, none⟩ o.e).setCell ⟨k, 2, none⟩ o.i).setCell ⟨k, 3, none⟩ o.d).setCell ⟨k, 4, none⟩ o.c)) :=
  ⟨(((((h.other hne).set0 o.x).set1 o.e).set2 o.i).set3 o.d).set4 o.c, (((((hb.setCell hg _).setCell hk _).setCell hk _).setCell hk _).setCell hk _).setCell hk _,
    fun lo h1 h2 => ((((Same.put h1).trans (Same.put h2)).trans (Same.put h2)).trans (Same.put h2)).trans ((Same.put h2).trans (Same.put h2))⟩

set_option maxHeartbeats 4000000 in
theorem toObjectM (o : O5) (b : Ob) (w : World) (h : ORead w o b) (hs : osz b ≤ 1048576) :
    Calls Try.prog 8 #[.agg #[o.x, o.e, o.i, o.d, o.c]] w fun e w' => ∃ o' lE lI, e = .returned (.agg #[o'.x, o'.e, o'.i, o'.d, o'.c]) ∧ OOwn w' w.heap.size o' b lE lI ∧ Below w.heap.size w w' := by
  obtain ⟨x, xe, xi, xd, xc⟩ := o
  have EX : Hid (∀ d ∈ b.ex, ∃ l p q, d = (⟨.b l, .n p, .n q⟩ : D3) ∧ l.length ≤ 1048576) := osz_ex hs h.exs
  have IM : Hid (∀ d ∈ b.im, ∃ l l2 p, d = (⟨.b l, .b l2, .n p⟩ : D3) ∧ l.length ≤ 1048576 ∧ l2.length ≤ 1048576) := osz_im hs h.ims
  obtain ⟨nm, ex, im, dt, cd, _, _⟩ := h
  simp only at nm ex im dt cd
  obtain ⟨a1, c1, rfl, r1, _⟩ := nm
  obtain ⟨a2, c2, rfl, r2, _⟩ := ex
  obtain ⟨a3, c3, rfl, r3, _⟩ := im
  obtain ⟨a4, c4, rfl, r4, _⟩ := cd
  subst dt
  have R2 : Hid (DRow w a2 b.ex.length b.ex) := r2
  have R3 : Hid (DRow w a3 b.im.length b.im) := r3
  clear r2 r3
  unfold osz at hs
  have hx : ((w.alloc (.cells #[.slice a1 b.name.length c1, .slice a2 b.ex.length c2, .slice a3 b.im.length c3, .int .i64 b.data, .slice a4 b.code.length c4] 26 (0, 0))).alloc (.cells #[.slice none 0 0, .slice none 0 0, .slice none 0 0, .int .i64 0, .slice none 0 0] 32 (0, 0))).heap.size = w.heap.size + 2 := by simp
  have x0 := ((B5.new w 26 ⟨.slice a1 b.name.length c1, .slice a2 b.ex.length c2, .slice a3 b.im.length c3, .int .i64 b.data, .slice a4 b.code.length c4⟩).old (ob := .cells #[.slice none 0 0, .slice none 0 0, .slice none 0 0, .int .i64 0, .slice none 0 0] 32 (0, 0))).old (ob := .cells #[.slice none 0 0, .slice none 0 0, .slice none 0 0, .int .i64 0, .slice none 0 0] 32 (0, 0))
  have x1 := (B5.new (w.alloc (.cells #[.slice a1 b.name.length c1, .slice a2 b.ex.length c2, .slice a3 b.im.length c3, .int .i64 b.data, .slice a4 b.code.length c4] 26 (0, 0))) 32 ⟨.slice none 0 0, .slice none 0 0, .slice none 0 0, .int .i64 0, .slice none 0 0⟩).old (ob := .cells #[.slice none 0 0, .slice none 0 0, .slice none 0 0, .int .i64 0, .slice none 0 0] 32 (0, 0))
  have x2 := B5.new ((w.alloc (.cells #[.slice a1 b.name.length c1, .slice a2 b.ex.length c2, .slice a3 b.im.length c3, .int .i64 b.data, .slice a4 b.code.length c4] 26 (0, 0))).alloc (.cells #[.slice none 0 0, .slice none 0 0, .slice none 0 0, .int .i64 0, .slice none 0 0] 32 (0, 0))) 32 ⟨.slice none 0 0, .slice none 0 0, .slice none 0 0, .int .i64 0, .slice none 0 0⟩
  have y0 : Below w.heap.size w (((w.alloc (.cells #[.slice a1 b.name.length c1, .slice a2 b.ex.length c2, .slice a3 b.im.length c3, .int .i64 b.data, .slice a4 b.code.length c4] 26 (0, 0))).alloc (.cells #[.slice none 0 0, .slice none 0 0, .slice none 0 0, .int .i64 0, .slice none 0 0] 32 (0, 0))).alloc (.cells #[.slice none 0 0, .slice none 0 0, .slice none 0 0, .int .i64 0, .slice none 0 0] 32 (0, 0))) := (((Below.refl _ _).alloc (Nat.le_refl _) _).alloc (by simp) _).alloc (by simp; omega) _
  have z0 : (((w.alloc (.cells #[.slice a1 b.name.length c1, .slice a2 b.ex.length c2, .slice a3 b.im.length c3, .int .i64 b.data, .slice a4 b.code.length c4] 26 (0, 0))).alloc (.cells #[.slice none 0 0, .slice none 0 0, .slice none 0 0, .int .i64 0, .slice none 0 0] 32 (0, 0))).alloc (.cells #[.slice none 0 0, .slice none 0 0, .slice none 0 0, .int .i64 0, .slice none 0 0] 32 (0, 0))).heap.size = w.heap.size + 3 := by simp
  rw [show (w.alloc (.cells #[.slice a1 b.name.length c1, .slice a2 b.ex.length c2, .slice a3 b.im.length c3, .int .i64 b.data, .slice a4 b.code.length c4] 26 (0, 0))).heap.size = w.heap.size + 1 by simp] at x1
  rw [hx] at x2
  simp only at x0 x1 x2
  clear hx
  go_enter Try.func8, Try.ntmps8
  go_upto_region 2 with fail
  generalize ((w.alloc (.cells #[.slice a1 b.name.length c1, .slice a2 b.ex.length c2, .slice a3 b.im.length c3, .int .i64 b.data, .slice a4 b.code.length c4] 26 (0, 0))).alloc (.cells #[.slice none 0 0, .slice none 0 0, .slice none 0 0, .int .i64 0, .slice none 0 0] 32 (0, 0))).alloc (.cells #[.slice none 0 0, .slice none 0 0, .slice none 0 0, .int .i64 0, .slice none 0 0] 32 (0, 0)) = w0 at *
  have H1 := copyB a1 b.name.length c1 b.name w0 (r1.below y0) (by omega)
  clear r1
  obtain ⟨q0, _, _, _, _⟩ := x0.facts
  go_wp2_with fail
  refine H1.mono ?_
  rintro e w1 ⟨rfl, hN, _, hb, hlt⟩
  rw [z0] at hN hb hlt ⊢
  replace x0 := x0.below hb (by omega)
  replace x1 := x1.below hb (by omega)
  replace x2 := x2.below hb (by omega)
  replace y0 : Below w.heap.size w w1 := y0.trans (hb.mono (by omega))
  have kN : Bk (w.heap.size + 3) w1.heap.size [some (w.heap.size + 3)] := Bk.one (Nat.le_refl _) hlt
  clear H1 q0 z0 hb
  obtain ⟨_, _, _, _, _⟩ := x2.facts
  obtain ⟨d0, d1, d2, d3, d4⟩ := x2.facts
  obtain ⟨f0, f1, f2, f3, f4⟩ := x2.frozen
  go_upto_region 3 with fail
  have S : Same (w.heap.size + 3) w1 (w1.setCell ⟨w.heap.size + 1 + 1, 0, none⟩ (.slice (some ⟨w.heap.size + 3, 0, none⟩) b.name.length b.name.length)) := Same.put (by omega)
  replace x0 := x0.other (k := w.heap.size + 1 + 1) (i := 0) (v := .slice (some ⟨w.heap.size + 3, 0, none⟩) b.name.length b.name.length) (by omega)
  replace x1 := x1.other (k := w.heap.size + 1 + 1) (i := 0) (v := .slice (some ⟨w.heap.size + 3, 0, none⟩) b.name.length b.name.length) (by omega)
  replace x2 := x2.set0 (.slice (some ⟨w.heap.size + 3, 0, none⟩) b.name.length b.name.length)
  replace y0 : Below w.heap.size w (w1.setCell ⟨w.heap.size + 1 + 1, 0, none⟩ (.slice (some ⟨w.heap.size + 3, 0, none⟩) b.name.length b.name.length)) := y0.setCell (by simp; omega) _
  have zz : (w1.setCell ⟨w.heap.size + 1 + 1, 0, none⟩ (.slice (some ⟨w.heap.size + 3, 0, none⟩) b.name.length b.name.length)).heap.size = w1.heap.size := by simp
  generalize w1.setCell ⟨w.heap.size + 1 + 1, 0, none⟩ (.slice (some ⟨w.heap.size + 3, 0, none⟩) b.name.length b.name.length) = w2 at *
  replace hN := hN.same S
  rw [← zz] at kN
  have g2 : w.heap.size + 3 < w2.heap.size := by rw [zz]; exact hlt
  clear zz hlt
  simp only at x2
  clear S d0 d1 d2 d3 d4 f0 f1 f2 f3 f4
  have H2 := toExportsM a2 b.ex.length c2 b.ex w2 (DRow.below (show DRow w a2 b.ex.length b.ex from R2.out) y0) (by omega) EX.out
  obtain ⟨_, q0, _, _, _⟩ := x0.facts
  go_wp2_with fail
  refine H2.mono ?_
  rintro e w3 ⟨lE, rfl, hE, kE, hb⟩
  have hE' := hE.row.lt w2.heap.size rfl
  replace x0 := x0.below hb (by omega)
  replace x1 := x1.below hb (by omega)
  replace x2 := x2.below hb (by omega)
  replace y0 : Below w.heap.size w w3 := y0.trans (hb.mono y0.size)
  replace hN := hN.below hb
  replace kN := kN.append kE (by omega) hb.size
  clear H2 q0 hb kE
  generalize w2.heap.size = sE at *
  obtain ⟨_, _, _, _, _⟩ := x2.facts
  obtain ⟨d0, d1, d2, d3, d4⟩ := x2.facts
  obtain ⟨f0, f1, f2, f3, f4⟩ := x2.frozen
  go_upto_region 4 with fail
  have S : Same (w.heap.size + 3) w3 (w3.setCell ⟨w.heap.size + 1 + 1, 1, none⟩ (.slice (some ⟨sE, 0, none⟩) b.ex.length b.ex.length)) := Same.put (by omega)
  replace x0 := x0.other (k := w.heap.size + 1 + 1) (i := 1) (v := .slice (some ⟨sE, 0, none⟩) b.ex.length b.ex.length) (by omega)
  replace x1 := x1.other (k := w.heap.size + 1 + 1) (i := 1) (v := .slice (some ⟨sE, 0, none⟩) b.ex.length b.ex.length) (by omega)
  replace x2 := x2.set1 (.slice (some ⟨sE, 0, none⟩) b.ex.length b.ex.length)
  replace y0 : Below w.heap.size w (w3.setCell ⟨w.heap.size + 1 + 1, 1, none⟩ (.slice (some ⟨sE, 0, none⟩) b.ex.length b.ex.length)) := y0.setCell (by simp; omega) _
  have zz : (w3.setCell ⟨w.heap.size + 1 + 1, 1, none⟩ (.slice (some ⟨sE, 0, none⟩) b.ex.length b.ex.length)).heap.size = w3.heap.size := by simp
  generalize w3.setCell ⟨w.heap.size + 1 + 1, 1, none⟩ (.slice (some ⟨sE, 0, none⟩) b.ex.length b.ex.length) = w4 at *
  replace hN := hN.same S
  replace hE := hE.same (S.mono (by omega))
  rw [← zz] at kN
  have g4 : sE < w4.heap.size := by rw [zz]; exact hE'.2
  clear zz hE'
  simp only at x2
  clear S d0 d1 d2 d3 d4 f0 f1 f2 f3 f4
  have H3 := toImportsM a3 b.im.length c3 b.im w4 (DRow.below (show DRow w a3 b.im.length b.im from R3.out) y0) (by omega) IM.out
  obtain ⟨_, _, q0, _, _⟩ := x0.facts
  go_wp2_with fail
  refine H3.mono ?_
  rintro e w5 ⟨lI, rfl, hI, kI, hb⟩
  have hI' := hI.row.lt w4.heap.size rfl
  replace x0 := x0.below hb (by omega)
  replace x1 := x1.below hb (by omega)
  replace x2 := x2.below hb (by omega)
  replace y0 : Below w.heap.size w w5 := y0.trans (hb.mono y0.size)
  replace hN := hN.below hb
  replace hE := hE.below hb
  replace kN := kN.append kI (by omega) hb.size
  clear H3 q0 hb kI
  generalize w4.heap.size = sI at *
  obtain ⟨_, _, _, _, _⟩ := x2.facts
  obtain ⟨d0, d1, d2, d3, d4⟩ := x2.facts
  obtain ⟨f0, f1, f2, f3, f4⟩ := x2.frozen
  go_upto_region 5 with fail
  have S : Same (w.heap.size + 3) w5 (w5.setCell ⟨w.heap.size + 1 + 1, 2, none⟩ (.slice (some ⟨sI, 0, none⟩) b.im.length b.im.length)) := Same.put (by omega)
  replace x0 := x0.other (k := w.heap.size + 1 + 1) (i := 2) (v := .slice (some ⟨sI, 0, none⟩) b.im.length b.im.length) (by omega)
  replace x1 := x1.other (k := w.heap.size + 1 + 1) (i := 2) (v := .slice (some ⟨sI, 0, none⟩) b.im.length b.im.length) (by omega)
  replace x2 := x2.set2 (.slice (some ⟨sI, 0, none⟩) b.im.length b.im.length)
  replace y0 : Below w.heap.size w (w5.setCell ⟨w.heap.size + 1 + 1, 2, none⟩ (.slice (some ⟨sI, 0, none⟩) b.im.length b.im.length)) := y0.setCell (by simp; omega) _
  have zz : (w5.setCell ⟨w.heap.size + 1 + 1, 2, none⟩ (.slice (some ⟨sI, 0, none⟩) b.im.length b.im.length)).heap.size = w5.heap.size := by simp
  generalize w5.setCell ⟨w.heap.size + 1 + 1, 2, none⟩ (.slice (some ⟨sI, 0, none⟩) b.im.length b.im.length) = w6 at *
  replace hN := hN.same S
  replace hE := hE.same (S.mono (by omega))
  replace hI := hI.same (S.mono (by omega))
  rw [← zz] at kN
  have g6 : sI < w6.heap.size := by rw [zz]; exact hI'.2
  clear zz hI'
  simp only at x2
  clear S d0 d1 d2 d3 d4 f0 f1 f2 f3 f4
  obtain ⟨_, _, _, q0, _⟩ := x0.facts
  obtain ⟨_, _, _, _, _⟩ := x2.facts
  obtain ⟨d0, d1, d2, d3, d4⟩ := x2.facts
  obtain ⟨f0, f1, f2, f3, f4⟩ := x2.frozen
  go_upto_region 6 with fail
  have S : Same (w.heap.size + 3) w6 (w6.setCell ⟨w.heap.size + 1 + 1, 3, none⟩ (.int .i64 b.data)) := Same.put (by omega)
  replace x0 := x0.other (k := w.heap.size + 1 + 1) (i := 3) (v := .int .i64 b.data) (by omega)
  replace x1 := x1.other (k := w.heap.size + 1 + 1) (i := 3) (v := .int .i64 b.data) (by omega)
  replace x2 := x2.set3 (.int .i64 b.data)
  replace y0 : Below w.heap.size w (w6.setCell ⟨w.heap.size + 1 + 1, 3, none⟩ (.int .i64 b.data)) := y0.setCell (by simp; omega) _
  have zz : (w6.setCell ⟨w.heap.size + 1 + 1, 3, none⟩ (.int .i64 b.data)).heap.size = w6.heap.size := by simp
  generalize w6.setCell ⟨w.heap.size + 1 + 1, 3, none⟩ (.int .i64 b.data) = w7 at *
  replace hN := hN.same S
  replace hE := hE.same (S.mono (by omega))
  replace hI := hI.same (S.mono (by omega))
  rw [← zz] at kN
  rw [← zz] at g6
  clear zz q0
  simp only at x2
  clear S d0 d1 d2 d3 d4 f0 f1 f2 f3 f4
  have H4 := copyB a4 b.code.length c4 b.code w7 (r4.below y0) (by omega)
  obtain ⟨_, _, _, _, q0⟩ := x0.facts
  clear r4
  go_wp2_with fail
  refine H4.mono ?_
  rintro e w8 ⟨rfl, hC, _, hb, hlt⟩
  replace x0 := x0.below hb (by omega)
  replace x1 := x1.below hb (by omega)
  replace x2 := x2.below hb (by omega)
  replace y0 : Below w.heap.size w w8 := y0.trans (hb.mono y0.size)
  replace hN := hN.below hb
  replace hE := hE.below hb
  replace hI := hI.below hb
  replace kN := kN.append (Bk.one (Nat.le_refl w7.heap.size) hlt) (by omega) hb.size
  clear H4 q0 hb
  generalize w7.heap.size = sC at *
  obtain ⟨d0, d1, d2, d3, d4⟩ := x2.facts
  obtain ⟨f0, f1, f2, f3, f4⟩ := x2.frozen
  obtain ⟨k0, k1, k2, k3, k4⟩ := x1.facts
  obtain ⟨l0, l1, l2, l3, l4⟩ := x1.frozen
  simp only at d0 d1 d2 d3 d4 k0 k1 k2 k3 k4
  have HH : Hid (Own w8 (w.heap.size + 3) (.slice (some ⟨w.heap.size + 3, 0, none⟩) b.name.length b.name.length) b.name.length b.name ∧ DOwn w8 49 sE (.slice (some ⟨sE, 0, none⟩) b.ex.length b.ex.length) b.ex.length lE b.ex ∧ DOwn w8 52 sI (.slice (some ⟨sI, 0, none⟩) b.im.length b.im.length) b.im.length lI b.im ∧ Own w8 sC (.slice (some ⟨sC, 0, none⟩) b.code.length b.code.length) b.code.length b.code) := ⟨hN, hE, hI, hC⟩
  have KK : Hid (Bk (w.heap.size + 3) w8.heap.size ([some (w.heap.size + 3)] ++ some sE :: owners lE ++ some sI :: owners lI ++ [some sC])) := kN
  clear hN hE hI hC kN
  go_wp2_with fail
  obtain ⟨W5, WB, WS⟩ := lay_obj (o := ⟨.slice (some ⟨w.heap.size + 3, 0, none⟩) b.name.length b.name.length, .slice (some ⟨sE, 0, none⟩) b.ex.length b.ex.length, .slice (some ⟨sI, 0, none⟩) b.im.length b.im.length, .int .i64 b.data, .slice (some ⟨sC, 0, none⟩) b.code.length b.code.length⟩) (g := w.heap.size + 1 + 1) x1 y0 (by omega) (by omega) (by omega)
  have T := WS (w.heap.size + 3) (by omega) (by omega)
  obtain ⟨hN, hE, hI, hC⟩ := HH.out
  have kN : Bk (w.heap.size + 3) w8.heap.size ([some (w.heap.size + 3)] ++ some sE :: owners lE ++ some sI :: owners lI ++ [some sC]) := KK.out
  simp only at W5 WB T
  have FO : OOwn _ w.heap.size ⟨.slice (some ⟨w.heap.size + 3, 0, none⟩) b.name.length b.name.length, .slice (some ⟨sE, 0, none⟩) b.ex.length b.ex.length, .slice (some ⟨sI, 0, none⟩) b.im.length b.im.length, .int .i64 b.data, .slice (some ⟨sC, 0, none⟩) b.code.length b.code.length⟩ b lE lI :=
    ⟨⟨_, _, rfl, (hN.same T).mono (by omega)⟩, (hE.same (T.mono (by omega))).mono (by omega), (hI.same (T.mono (by omega))).mono (by omega), rfl, ⟨_, _, rfl, (hC.same (T.mono (by omega))).mono (by omega)⟩, (kN.low (by omega)).mono T.size⟩
  refine bodyPost_ret (v := .agg #[.slice (some ⟨w.heap.size + 3, 0, none⟩) b.name.length b.name.length, .slice (some ⟨sE, 0, none⟩) b.ex.length b.ex.length, .slice (some ⟨sI, 0, none⟩) b.im.length b.im.length, .int .i64 b.data, .slice (some ⟨sC, 0, none⟩) b.code.length b.code.length]) (by simp only [results, Try.results8]; simp [go_sem, k0, k1, k2, k3, k4]) rfl ⟨_, _, _, rfl, FO, WB⟩
end Go.Proofs.Ytplbblilgalopaa
