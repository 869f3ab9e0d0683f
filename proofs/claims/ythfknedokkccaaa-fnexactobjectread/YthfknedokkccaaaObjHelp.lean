/- Contracts of the laws' own helpers over objects: how large, a copy, a comparison. -/
import Derived.Test.YthfknedokkccaaaObj
import Derived.Test.YthfknedokkccaaaObjTo
import Derived.Test.YthfknedokkccaaaObjEq
namespace Go.Proofs.Ythfknedokkccaaa
open Go.RowKit
set_option linter.unusedVariables false
set_option linter.unusedSimpArgs false
set_option maxRecDepth 100000

theorem Fd.Read.room {w : World} {v : Value} {l : List Int} (h : (Fd.b l).Read w v) : ∃ a c, v = .slice a l.length c ∧ BRow w a l.length l ∧ l.length ≤ 9223372036854775807 := by
  obtain ⟨a, c, e, hr, h1, h2, _⟩ := h
  unfold maxLen at h2
  exact ⟨a, c, e, hr, by omega⟩
theorem DV.room {w : World} {v : Value} {ds : List D3} (h : DV w v ds) : ∃ a c, v = .slice a ds.length c ∧ DRow w a ds.length ds ∧ ds.length ≤ 9223372036854775807 := by
  obtain ⟨a, c, e, hr, h1, h2, _⟩ := h
  unfold maxLen at h2
  exact ⟨a, c, e, hr, by omega⟩

set_option maxHeartbeats 4000000 in
theorem eqObjectM (o o' : O5) (b : Ob) (w : World) (h : ORead w o b) (h' : ORead w o' b) (hs : osz b ≤ 1048576) :
    Calls Try.prog 7 #[.agg #[o.x, o.e, o.i, o.d, o.c], .agg #[o'.x, o'.e, o'.i, o'.d, o'.c]] w fun e w' => e = .returned (.bool true) ∧ Below w.heap.size w w' := by
  obtain ⟨x, xe, xi, xd, xc⟩ := o
  obtain ⟨x', xe', xi', xd', xc'⟩ := o'
  have EX := osz_ex hs h.exs
  have IM := osz_im hs h.ims
  obtain ⟨nm, ex, im, dt, cd, exs, ims⟩ := h
  obtain ⟨nm', ex', im', dt', cd', _, _⟩ := h'
  simp only at nm ex im dt cd nm' ex' im' dt' cd'
  obtain ⟨a1, c1, rfl, r1, _⟩ := nm
  obtain ⟨a2, c2, rfl, r2, _⟩ := ex
  obtain ⟨a3, c3, rfl, r3, _⟩ := im
  obtain ⟨a4, c4, rfl, r4, _⟩ := cd
  obtain ⟨a1', c1', rfl, r1', _⟩ := nm'
  obtain ⟨a2', c2', rfl, r2', _⟩ := ex'
  obtain ⟨a3', c3', rfl, r3', _⟩ := im'
  obtain ⟨a4', c4', rfl, r4', _⟩ := cd'
  subst dt
  subst dt'
  unfold osz at hs
  have hp : (b.data != b.data) = false := by simp
  have x0 := (B5.new w 26 ⟨.slice a1 b.name.length c1, .slice a2 b.ex.length c2, .slice a3 b.im.length c3, .int .i64 b.data, .slice a4 b.code.length c4⟩).old (ob := .cells #[.slice a1' b.name.length c1', .slice a2' b.ex.length c2', .slice a3' b.im.length c3', .int .i64 b.data, .slice a4' b.code.length c4'] 26 (0, 0))
  have x0' := B5.new (w.alloc (.cells #[.slice a1 b.name.length c1, .slice a2 b.ex.length c2, .slice a3 b.im.length c3, .int .i64 b.data, .slice a4 b.code.length c4] 26 (0, 0))) 26 ⟨.slice a1' b.name.length c1', .slice a2' b.ex.length c2', .slice a3' b.im.length c3', .int .i64 b.data, .slice a4' b.code.length c4'⟩
  have y0 : Below w.heap.size w ((w.alloc (.cells #[.slice a1 b.name.length c1, .slice a2 b.ex.length c2, .slice a3 b.im.length c3, .int .i64 b.data, .slice a4 b.code.length c4] 26 (0, 0))).alloc (.cells #[.slice a1' b.name.length c1', .slice a2' b.ex.length c2', .slice a3' b.im.length c3', .int .i64 b.data, .slice a4' b.code.length c4'] 26 (0, 0))) := ((Below.refl _ _).alloc (Nat.le_refl _) _).alloc (by simp) _
  rw [show (w.alloc (.cells #[.slice a1 b.name.length c1, .slice a2 b.ex.length c2, .slice a3 b.im.length c3, .int .i64 b.data, .slice a4 b.code.length c4] 26 (0, 0))).heap.size = w.heap.size + 1 by simp] at x0'
  simp only at x0 x0'
  go_enter Try.func7, Try.ntmps7
  go_upto_region 1 with fail
  generalize (w.alloc (.cells #[.slice a1 b.name.length c1, .slice a2 b.ex.length c2, .slice a3 b.im.length c3, .int .i64 b.data, .slice a4 b.code.length c4] 26 (0, 0))).alloc (.cells #[.slice a1' b.name.length c1', .slice a2' b.ex.length c2', .slice a3' b.im.length c3', .int .i64 b.data, .slice a4' b.code.length c4'] 26 (0, 0)) = w0 at *
  have H1 := eqT a1 b.name.length c1 b.name a1' b.name.length c1' w0 (r1.below y0) (r1'.below y0) (by omega)
  obtain ⟨q0, _, _, _, _⟩ := x0.facts
  obtain ⟨p0, _, _, _, _⟩ := x0'.facts
  clear r1 r1'
  go_wp2_with fail
  refine H1.mono ?_
  rintro e w1 ⟨rfl, hb1⟩
  have x1 := x0.below hb1 x0.lt
  have x1' := x0'.below hb1 x0'.lt
  have y1 : Below w.heap.size w w1 := y0.trans (hb1.mono y0.size)
  clear q0 p0 H1 x0 x0' hb1 y0
  have H2 := eqExportsM a2 b.ex.length c2 b.ex a2' c2' w1 (r2.below y1) (r2'.below y1) (by omega) EX
  obtain ⟨_, q0, _, _, _⟩ := x1.facts
  obtain ⟨_, p0, _, _, _⟩ := x1'.facts
  clear r2 r2'
  go_wp2_with fail
  refine H2.mono ?_
  rintro e w2 ⟨rfl, hb2⟩
  have x2 := x1.below hb2 x1.lt
  have x2' := x1'.below hb2 x1'.lt
  have y2 : Below w.heap.size w w2 := y1.trans (hb2.mono y1.size)
  clear q0 p0 H2 x1 x1' hb2 y1
  have H3 := eqImportsM a3 b.im.length c3 b.im a3' c3' w2 (r3.below y2) (r3'.below y2) (by omega) IM
  obtain ⟨_, _, q0, _, _⟩ := x2.facts
  obtain ⟨_, _, p0, _, _⟩ := x2'.facts
  clear r3 r3'
  go_wp2_with fail
  refine H3.mono ?_
  rintro e w3 ⟨rfl, hb3⟩
  have x3 := x2.below hb3 x2.lt
  have x3' := x2'.below hb3 x2'.lt
  have y3 : Below w.heap.size w w3 := y2.trans (hb3.mono y2.size)
  clear q0 p0 H3 x2 x2' hb3 y2
  have H4 := eqT a4 b.code.length c4 b.code a4' b.code.length c4' w3 (r4.below y3) (r4'.below y3) (by omega)
  obtain ⟨_, _, _, q0, q4⟩ := x3.facts
  obtain ⟨_, _, _, p0, p4⟩ := x3'.facts
  clear r4 r4'
  go_wp2_with fail
  refine H4.mono ?_
  rintro e w4 ⟨rfl, hb4⟩
  have y4 : Below w.heap.size w w4 := y3.trans (hb4.mono y3.size)
  clear q0 p0 q4 p4 x3 x3' hb4 y3 H4
  go_wp2_with fail
  go_ret
  exact ⟨rfl, y4⟩
end Go.Proofs.Ythfknedokkccaaa
