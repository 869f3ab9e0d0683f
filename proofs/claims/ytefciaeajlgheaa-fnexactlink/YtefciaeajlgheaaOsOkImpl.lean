/- What the program tells of an object. -/
import Derived.Test.YtefciaeajlgheaaOsImpl
import Derived.Test.YtefciaeajlgheaaOsPure
namespace Go.Proofs.Ytefciaeajlgheaa
open Go.RowKit
set_option linter.unusedVariables false
set_option linter.unusedSimpArgs false
set_option maxRecDepth 100000

set_option maxHeartbeats 4000000 in
theorem implObjectOkM (o : O5) (b : Ob) (w : World) (h : ORead w o b) (hs : osz b ≤ 1048576) :
    Calls Try.prog 22 #[.agg #[o.x, o.e, o.i, o.d, o.c]] w fun e w' => e = .returned (.bool (objOk b)) ∧ Below w.heap.size w w' := by
  obtain ⟨x, xe, xi, xd, xc⟩ := o
  have EX := osz_ex hs h.exs
  have IM := osz_im hs h.ims
  obtain ⟨nm, ex, im, dt, cd, _, _⟩ := h
  simp only at nm ex im dt cd
  obtain ⟨a1, c1, rfl, r1, v1, _⟩ := nm
  obtain ⟨a2, c2, rfl, r2, v2, _⟩ := ex
  obtain ⟨a3, c3, rfl, r3, _⟩ := im
  obtain ⟨a4, c4, rfl, r4, _⟩ := cd
  subst dt
  clear r4
  unfold osz at hs
  have x0 := B5.new w 47 ⟨.slice a1 b.name.length c1, .slice a2 b.ex.length c2, .slice a3 b.im.length c3, .int .i64 b.data, .slice a4 b.code.length c4⟩
  have y0 : Below w.heap.size w (w.alloc (.cells #[.slice a1 b.name.length c1, .slice a2 b.ex.length c2, .slice a3 b.im.length c3, .int .i64 b.data, .slice a4 b.code.length c4] 47 (0, 0))) := (Below.refl _ _).alloc (Nat.le_refl _) _
  simp only at x0
  have HO : Hid (objOk b = (nameOk b.name true && exsOk b.ex && imsOk b.im && inB b.data 0 200 && decide (b.code.length ≤ 9000))) := rfl
  go_enter Try.func22, Try.ntmps22
  go_upto_region 1 with fail
  generalize w.alloc (.cells #[.slice a1 b.name.length c1, .slice a2 b.ex.length c2, .slice a3 b.im.length c3, .int .i64 b.data, .slice a4 b.code.length c4] 47 (0, 0)) = w0 at *
  have H1 := implNameOk a1 b.name.length c1 b.name true w0 (r1.below y0) (by omega) v1
  have H2 := implExportsM a2 b.ex.length c2 b.ex w0 (r2.below y0) v2 EX (by omega)
  obtain ⟨k0, k1, _, _, _⟩ := x0.facts
  clear r1 r2
  cases e1 : nameOk b.name true
  · have HF : Hid (objOk b = false) := by show _ = _; rw [HO.out, e1]; rfl
    rw [e1] at H1
    go_wp2_with fail
    refine H1.mono ?_
    rintro e w0 ⟨rfl, rfl⟩
    go_wp2_with fail
    go_ret
    exact ⟨ret_bool HF.out.symm, y0⟩
  rw [e1] at H1
  have HO1 : Hid (objOk b = (exsOk b.ex && imsOk b.im && inB b.data 0 200 && decide (b.code.length ≤ 9000))) := by show _ = _; rw [HO.out, e1]; rfl
  clear e1 HO
  go_wp2_with fail
  refine H1.mono ?_
  rintro e w0 ⟨rfl, rfl⟩
  go_wp2_with fail
  refine H2.mono ?_
  rintro e w1 ⟨rfl, hb1⟩
  have x1 := x0.below hb1 x0.lt
  have y1 : Below w.heap.size w w1 := y0.trans (hb1.mono y0.size)
  have H3 := implImportsM a3 b.im.length c3 b.im w1 (r3.below y1) IM (by omega)
  clear x0 y0 hb1 H1 H2 k0 k1 r3
  obtain ⟨_, _, k2, _, _⟩ := x1.facts
  cases e1 : exsOk b.ex
  · have HF : Hid (objOk b = false) := by show _ = _; rw [HO1.out, e1]; rfl
    go_wp2_with fail
    go_ret
    exact ⟨ret_bool HF.out.symm, y1⟩
  have HO2 : Hid (objOk b = (imsOk b.im && inB b.data 0 200 && decide (b.code.length ≤ 9000))) := by show _ = _; rw [HO1.out, e1]; rfl
  clear e1 HO1
  go_wp2_with fail
  refine H3.mono ?_
  rintro e w2 ⟨rfl, hb2⟩
  have x2 := x1.below hb2 x1.lt
  have y2 : Below w.heap.size w w2 := y1.trans (hb2.mono y1.size)
  have H4 := inRangeC b.data 0 200 w2
  clear x1 y1 hb2 H3 k2
  obtain ⟨_, _, _, k3, k4⟩ := x2.facts
  cases e1 : imsOk b.im
  · have HF : Hid (objOk b = false) := by show _ = _; rw [HO2.out, e1]; rfl
    go_wp2_with fail
    go_ret
    exact ⟨ret_bool HF.out.symm, y2⟩
  have HO3 : Hid (objOk b = (inB b.data 0 200 && decide (b.code.length ≤ 9000))) := by show _ = _; rw [HO2.out, e1]; rfl
  clear e1 HO2
  go_wp2_with fail
  refine H4.mono ?_
  rintro e w2 ⟨rfl, rfl⟩
  have HB : Hid (inB b.data 0 200 = (decide (0 ≤ b.data) && decide (b.data ≤ 200))) := rfl
  cases e1 : (decide (0 ≤ b.data) && decide (b.data ≤ 200))
  · have HF : Hid (objOk b = false) := by show _ = _; rw [HO3.out, HB.out, e1]; rfl
    clear e1 H4
    go_wp2_with fail
    go_ret
    exact ⟨ret_bool HF.out.symm, y2⟩
  have HF : Hid (objOk b = decide (b.code.length ≤ 9000)) := by show _ = _; rw [HO3.out, HB.out, e1]; rfl
  clear e1 H4
  go_wp2_with fail
  go_ret
  exact ⟨ret_bool (by rw [HF.out]; apply decide_eq_decide.2; omega), y2⟩
end Go.Proofs.Ytefciaeajlgheaa
