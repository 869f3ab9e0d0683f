/- Contracts of the laws' own helpers over objects: how large, a copy, a comparison. -/
import Derived.Test.YtplbblilgalopaaObj
import Derived.Test.YtplbblilgalopaaObjTo
import Derived.Test.YtplbblilgalopaaObjEq
namespace Go.Proofs.Ytplbblilgalopaa
open Go.RowKit
set_option linter.unusedVariables false
set_option linter.unusedSimpArgs false
set_option maxRecDepth 100000

theorem Fd.Read.room {w : World} {v : Value} {l : List Int} (h : (Fd.b l).Read w v) : ∃ a c, v = .slice a l.length c ∧ BRow w a l.length l ∧ l.length ≤ 9223372036854775807 := by
  obtain ⟨a, c, e, hr, h1, h2, _⟩ := h
  unfold maxLen at h2
  exact ⟨a, c, e, hr, by omega⟩
theorem DV.room {w : World} {v : Value} {ds : List D3} (h : DV w v ds) : ∃ a c, v = .slice a ds.length c ∧ DRow w a ds.length ds ∧ ds.length ≤ 9223372036854775807 := by
  obtain ⟨a, c, e, hr, h1, h2, _⟩ := h
  unfold maxLen at h2
  exact ⟨a, c, e, hr, by omega⟩

theorem szObjectM (o : O5) (b : Ob) (w : World) (h : ORead w o b) :
    Calls Try.prog 6 #[.agg #[o.x, o.e, o.i, o.d, o.c], .int .i64 1048576] w fun e w' => e = .returned (.int .i64 (szL 1048576 (osz b))) ∧ Below w.heap.size w w' := by
  obtain ⟨x, xe, xi, xd, xc⟩ := o
  obtain ⟨nm, ex, im, dt, cd, exs, ims⟩ := h
  simp only at nm ex im dt cd
  obtain ⟨a1, c1, rfl, r1, m1⟩ := nm.room
  obtain ⟨a2, c2, rfl, r2, m2⟩ := ex.room
  obtain ⟨a3, c3, rfl, r3, m3⟩ := im.room
  obtain ⟨a4, c4, rfl, r4, m4⟩ := cd.room
  subst dt
  clear nm ex im cd r1 r4
  obtain ⟨w0, e0⟩ : ∃ w0, w0 = w.alloc (.cells #[.slice a1 b.name.length c1, .slice a2 b.ex.length c2, .slice a3 b.im.length c3, .int .i64 b.data, .slice a4 b.code.length c4] 26 (0, 0)) := ⟨_, rfl⟩
  have x0 := B5.new w 26 ⟨.slice a1 b.name.length c1, .slice a2 b.ex.length c2, .slice a3 b.im.length c3, .int .i64 b.data, .slice a4 b.code.length c4⟩
  have y0 : Below w.heap.size w (w.alloc (.cells #[.slice a1 b.name.length c1, .slice a2 b.ex.length c2, .slice a3 b.im.length c3, .int .i64 b.data, .slice a4 b.code.length c4] 26 (0, 0))) := (Below.refl _ _).alloc (Nat.le_refl _) _
  simp only at x0
  rw [← e0] at x0 y0
  have H1 := fun w => szByteM a1 b.name.length c1 1048576 w (by omega) (by omega) m1
  have R2 : Hid (DRow w a2 b.ex.length b.ex) := r2
  have R3 : Hid (DRow w a3 b.im.length b.im) := r3
  have E2 : Hid (∀ d ∈ b.ex, isE d) := exs
  have E3 : Hid (∀ d ∈ b.im, isM d) := ims
  have ho : Hid (osz b = b.name.length + (b.ex.length + dsum b.ex) + (b.im.length + dsum b.im) + b.code.length) := rfl
  clear r2 r3 exs ims
  go_enter Try.func6, Try.ntmps6
  go_upto_region 1 with fail
  rw [← e0]
  clear e0
  obtain ⟨q0, _, _, _, _⟩ := x0.facts
  by_cases k1 : ((b.name.length : Nat) : Int) ≤ 1048576
  · simp only [szL_yes k1] at H1
    go_wp2_with fail
    refine (H1 _).mono ?_
    rintro e w0 ⟨rfl, rfl⟩
    have n1 : ¬ ((1048576 : Int) - (b.name.length : Int) < 0) := by omega
    have H2 := szExportsM a2 b.ex.length c2 b.ex (1048576 - (b.name.length : Int)) w0 (DRow.below (show DRow w a2 _ b.ex from R2.out) y0) (by omega) (by omega) m2 E2.out
    clear q0 H1
    obtain ⟨_, q1, _, _, _⟩ := x0.facts
    by_cases k2 : ((b.ex.length + dsum b.ex : Nat) : Int) ≤ 1048576 - (b.name.length : Int)
    · simp only [szL_yes k2] at H2
      go_wp2_with fail
      refine H2.mono ?_
      rintro e w1 ⟨rfl, hb1⟩
      have x1 := x0.below hb1 x0.lt
      have y1 : Below w.heap.size w w1 := y0.trans (hb1.mono y0.size)
      have n2 : ¬ ((1048576 : Int) - (b.name.length : Int) - ((b.ex.length + dsum b.ex : Nat) : Int) < 0) := by omega
      have H3 := szImportsM a3 b.im.length c3 b.im (1048576 - (b.name.length : Int) - ((b.ex.length + dsum b.ex : Nat) : Int)) w1 (DRow.below (show DRow w a3 _ b.im from R3.out) y1) (by omega) (by omega) m3 E3.out
      clear H2 q1 x0 y0 hb1
      obtain ⟨_, _, q2, _, _⟩ := x1.facts
      generalize hs2 : b.ex.length + dsum b.ex = s2 at *
      by_cases k3 : ((b.im.length + dsum b.im : Nat) : Int) ≤ 1048576 - (b.name.length : Int) - (s2 : Int)
      · simp only [szL_yes k3] at H3
        go_wp2_with fail
        refine H3.mono ?_
        rintro e w2 ⟨rfl, hb2⟩
        have x2 := x1.below hb2 x1.lt
        have y2 : Below w.heap.size w w2 := y1.trans (hb2.mono y1.size)
        generalize hs3 : b.im.length + dsum b.im = s3 at *
        have n3 : ¬ ((1048576 : Int) - (b.name.length : Int) - (s2 : Int) - (s3 : Int) < 0) := by omega
        have H4 := fun w => szByteM a4 b.code.length c4 (1048576 - (b.name.length : Int) - (s2 : Int) - (s3 : Int)) w (by omega) (by omega) m4
        clear H3 q2 x1 y1 hb2
        obtain ⟨_, _, _, _, q4⟩ := x2.facts
        by_cases k4 : ((b.code.length : Nat) : Int) ≤ 1048576 - (b.name.length : Int) - (s2 : Int) - (s3 : Int)
        · simp only [szL_yes k4] at H4
          have n4 : ¬ ((1048576 : Int) - (b.name.length : Int) - (s2 : Int) - (s3 : Int) - (b.code.length : Int) < 0) := by omega
          have HE : Hid ((1048576 : Int) - (b.name.length : Int) - (s2 : Int) - (s3 : Int) - (b.code.length : Int) = szL 1048576 (osz b)) := by
            show _ = _
            rw [szL_yes (by rw [ho.out]; omega), ho.out]
            omega
          go_wp2_with fail
          refine (H4 _).mono ?_
          rintro e w3 ⟨rfl, rfl⟩
          go_wp2_with fail
          go_ret
          exact ⟨ret_int HE.out, y2⟩
        · simp only [szL_no k4] at H4
          have HE : Hid (szL 1048576 (osz b) = -1) := szL_no (by rw [ho.out]; omega)
          go_wp2_with fail
          refine (H4 _).mono ?_
          rintro e w3 ⟨rfl, rfl⟩
          go_wp2_with fail
          go_ret
          exact ⟨ret_int HE.out.symm, y2⟩
      · simp only [szL_no k3] at H3
        have HE : Hid (szL 1048576 (osz b) = -1) := szL_no (by rw [ho.out]; omega)
        go_wp2_with fail
        refine H3.mono ?_
        rintro e w2 ⟨rfl, hb2⟩
        have y2 : Below w.heap.size w w2 := y1.trans (hb2.mono y1.size)
        go_wp2_with fail
        go_ret
        exact ⟨ret_int HE.out.symm, y2⟩
    · simp only [szL_no k2] at H2
      have HE : Hid (szL 1048576 (osz b) = -1) := szL_no (by rw [ho.out]; omega)
      go_wp2_with fail
      refine H2.mono ?_
      rintro e w1 ⟨rfl, hb1⟩
      have y1 : Below w.heap.size w w1 := y0.trans (hb1.mono y0.size)
      go_wp2_with fail
      go_ret
      exact ⟨ret_int HE.out.symm, y1⟩
  · simp only [szL_no k1] at H1
    have HE : Hid (szL 1048576 (osz b) = -1) := szL_no (by rw [ho.out]; omega)
    go_wp2_with fail
    refine (H1 _).mono ?_
    rintro e w0 ⟨rfl, rfl⟩
    go_wp2_with fail
    go_ret
    exact ⟨ret_int HE.out.symm, y0⟩

set_option maxHeartbeats 4000000 in
theorem eqObjectM (o o' : O5) (b : Ob) (w : World) (h : ORead w o b) (h' : ORead w o' b) (hs : osz b ≤ 1048576) :
    Calls Try.prog 10 #[.agg #[o.x, o.e, o.i, o.d, o.c], .agg #[o'.x, o'.e, o'.i, o'.d, o'.c]] w fun e w' => e = .returned (.bool true) ∧ Below w.heap.size w w' := by
  obtain ⟨x, xe, xi, xd, xc⟩ := o
  obtain ⟨x', xe', xi', xd', xc'⟩ := o'
  have EX := osz_ex hs h.exs
  have IM := osz_im hs h.ims
  obtain ⟨nm, ex, im, dt, cd, exs, ims⟩ := h
  obtain ⟨nm', ex', im', dt', cd', _, _⟩ := h'
  simp only at nm ex im dt cd nm' ex' im' dt' cd'
  obtain ⟨a1, c1, rfl, r1, _⟩ := nm
  obtain ⟨a2, c2, rfl, r2, _⟩ := ex
  obtain ⟨a3, c3, rfl, r3, _⟩ := im
  obtain ⟨a4, c4, rfl, r4, _⟩ := cd
  obtain ⟨a1', c1', rfl, r1', _⟩ := nm'
  obtain ⟨a2', c2', rfl, r2', _⟩ := ex'
  obtain ⟨a3', c3', rfl, r3', _⟩ := im'
  obtain ⟨a4', c4', rfl, r4', _⟩ := cd'
  subst dt
  subst dt'
  unfold osz at hs
  have hp : (b.data != b.data) = false := by simp
  have x0 := (B5.new w 32 ⟨.slice a1 b.name.length c1, .slice a2 b.ex.length c2, .slice a3 b.im.length c3, .int .i64 b.data, .slice a4 b.code.length c4⟩).old (ob := .cells #[.slice a1' b.name.length c1', .slice a2' b.ex.length c2', .slice a3' b.im.length c3', .int .i64 b.data, .slice a4' b.code.length c4'] 32 (0, 0))
  have x0' := B5.new (w.alloc (.cells #[.slice a1 b.name.length c1, .slice a2 b.ex.length c2, .slice a3 b.im.length c3, .int .i64 b.data, .slice a4 b.code.length c4] 32 (0, 0))) 32 ⟨.slice a1' b.name.length c1', .slice a2' b.ex.length c2', .slice a3' b.im.length c3', .int .i64 b.data, .slice a4' b.code.length c4'⟩
  have y0 : Below w.heap.size w ((w.alloc (.cells #[.slice a1 b.name.length c1, .slice a2 b.ex.length c2, .slice a3 b.im.length c3, .int .i64 b.data, .slice a4 b.code.length c4] 32 (0, 0))).alloc (.cells #[.slice a1' b.name.length c1', .slice a2' b.ex.length c2', .slice a3' b.im.length c3', .int .i64 b.data, .slice a4' b.code.length c4'] 32 (0, 0))) := ((Below.refl _ _).alloc (Nat.le_refl _) _).alloc (by simp) _
  rw [show (w.alloc (.cells #[.slice a1 b.name.length c1, .slice a2 b.ex.length c2, .slice a3 b.im.length c3, .int .i64 b.data, .slice a4 b.code.length c4] 32 (0, 0))).heap.size = w.heap.size + 1 by simp] at x0'
  simp only at x0 x0'
  go_enter Try.func10, Try.ntmps10
  go_upto_region 1 with fail
  generalize (w.alloc (.cells #[.slice a1 b.name.length c1, .slice a2 b.ex.length c2, .slice a3 b.im.length c3, .int .i64 b.data, .slice a4 b.code.length c4] 32 (0, 0))).alloc (.cells #[.slice a1' b.name.length c1', .slice a2' b.ex.length c2', .slice a3' b.im.length c3', .int .i64 b.data, .slice a4' b.code.length c4'] 32 (0, 0)) = w0 at *
  have H1 := eqT a1 b.name.length c1 b.name a1' b.name.length c1' w0 (r1.below y0) (r1'.below y0) (by omega)
  obtain ⟨q0, _, _, _, _⟩ := x0.facts
  obtain ⟨p0, _, _, _, _⟩ := x0'.facts
  clear r1 r1'
  go_wp2_with fail
  refine H1.mono ?_
  rintro e w1 ⟨rfl, hb1⟩
  have x1 := x0.below hb1 x0.lt
  have x1' := x0'.below hb1 x0'.lt
  have y1 : Below w.heap.size w w1 := y0.trans (hb1.mono y0.size)
  clear q0 p0 H1 x0 x0' hb1 y0
  have H2 := eqExportsM a2 b.ex.length c2 b.ex a2' c2' w1 (r2.below y1) (r2'.below y1) (by omega) EX
  obtain ⟨_, q0, _, _, _⟩ := x1.facts
  obtain ⟨_, p0, _, _, _⟩ := x1'.facts
  clear r2 r2'
  go_wp2_with fail
  refine H2.mono ?_
  rintro e w2 ⟨rfl, hb2⟩
  have x2 := x1.below hb2 x1.lt
  have x2' := x1'.below hb2 x1'.lt
  have y2 : Below w.heap.size w w2 := y1.trans (hb2.mono y1.size)
  clear q0 p0 H2 x1 x1' hb2 y1
  have H3 := eqImportsM a3 b.im.length c3 b.im a3' c3' w2 (r3.below y2) (r3'.below y2) (by omega) IM
  obtain ⟨_, _, q0, _, _⟩ := x2.facts
  obtain ⟨_, _, p0, _, _⟩ := x2'.facts
  clear r3 r3'
  go_wp2_with fail
  refine H3.mono ?_
  rintro e w3 ⟨rfl, hb3⟩
  have x3 := x2.below hb3 x2.lt
  have x3' := x2'.below hb3 x2'.lt
  have y3 : Below w.heap.size w w3 := y2.trans (hb3.mono y2.size)
  clear q0 p0 H3 x2 x2' hb3 y2
  have H4 := eqT a4 b.code.length c4 b.code a4' b.code.length c4' w3 (r4.below y3) (r4'.below y3) (by omega)
  obtain ⟨_, _, _, q0, q4⟩ := x3.facts
  obtain ⟨_, _, _, p0, p4⟩ := x3'.facts
  clear r4 r4'
  go_wp2_with fail
  refine H4.mono ?_
  rintro e w4 ⟨rfl, hb4⟩
  have y4 : Below w.heap.size w w4 := y3.trans (hb4.mono y3.size)
  clear q0 p0 q4 p4 x3 x3' hb4 y3 H4
  go_wp2_with fail
  go_ret
  exact ⟨rfl, y4⟩
end Go.Proofs.Ytplbblilgalopaa
