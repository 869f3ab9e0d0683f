/- ObjectBytes: what both bodies answer. -/
import Derived.Test.YtnhebknckgffoaaObjPutSpec
import Derived.Test.YtnhebknckgffoaaObjPutList
import Derived.Test.YtnhebknckgffoaaObjOkSpec
import Derived.Test.YtnhebknckgffoaaPackK
import Derived.Lib.SlBytesConst
namespace Go.Proofs.Ytnhebknckgffoaa
open Go.RowKit
set_option linter.unusedVariables false
set_option linter.unusedSimpArgs false
set_option maxRecDepth 100000

/-- What ObjectBytes answers. -/
def obR (b : Ob) : List Int := if objOk b = true then objB b else []

theorem objOk_lens {b : Ob} (h : objOk b = true) : b.ex.length ≤ 8 ∧ b.im.length ≤ 8 ∧ b.code.length ≤ 9000 := by
  unfold objOk exsOk imsOk at h
  simp only [Bool.and_eq_true, decide_eq_true_eq] at h
  exact ⟨h.1.1.1.2.1, h.1.1.2.1, h.2⟩

set_option maxHeartbeats 4000000 in
theorem implObjectBytesM (o : O5) (b : Ob) (w : World) (h : ORead w o b) (hs : osz b ≤ 1048576) :
    Calls Try.prog 5 #[.agg #[o.x, o.e, o.i, o.d, o.c]] w fun e w' => ∃ a' c', e = .returned (.tuple #[.slice a' (obR b).length c', .bool (objOk b)]) ∧ Made w w' a' (obR b).length c' (obR b) := by
  have EX := osz_ex hs h.exs
  have IM := osz_im hs h.ims
  obtain ⟨a1, c1, a2, c2, a3, c3, a4, c4, eo⟩ := h.shape
  subst eo
  have Hh : Hid (ORead w ⟨.slice a1 b.name.length c1, .slice a2 b.ex.length c2, .slice a3 b.im.length c3, .int .i64 b.data, .slice a4 b.code.length c4⟩ b) := h
  obtain ⟨⟨_, _, e1, r1, _⟩, ⟨_, _, e2, r2, _⟩, ⟨_, _, e3, r3, _⟩, _, ⟨_, _, e4, r4, _⟩, _, _⟩ := h
  simp only [Value.slice.injEq, true_and] at e1 e2 e3 e4
  obtain ⟨rfl, rfl⟩ := e1
  obtain ⟨rfl, rfl⟩ := e2
  obtain ⟨rfl, rfl⟩ := e3
  obtain ⟨rfl, rfl⟩ := e4
  have x0 := B5.new w 26 ⟨.slice a1 b.name.length c1, .slice a2 b.ex.length c2, .slice a3 b.im.length c3, .int .i64 b.data, .slice a4 b.code.length c4⟩
  have y0 : Below w.heap.size w (w.alloc (.cells #[.slice a1 b.name.length c1, .slice a2 b.ex.length c2, .slice a3 b.im.length c3, .int .i64 b.data, .slice a4 b.code.length c4] 26 (0, 0))) := (Below.refl _ _).alloc (Nat.le_refl _) _
  simp only at x0 ⊢
  have kc := fun (w : World) (C : Array Value) (n c : Nat) => Lib.run_convert_bytes_const (P := Try.prog) w 22 5 C n c Try.underlying22 Try.underlying5
  go_enter Try.func5, Try.ntmps5
  go_upto_region 1 with fail
  generalize w.alloc (.cells #[.slice a1 b.name.length c1, .slice a2 b.ex.length c2, .slice a3 b.im.length c3, .int .i64 b.data, .slice a4 b.code.length c4] 26 (0, 0)) = w0 at *
  obtain ⟨k0, k1, k2, k3, k4⟩ := x0.facts
  have H1 := implObjectOkM ⟨.slice a1 b.name.length c1, .slice a2 b.ex.length c2, .slice a3 b.im.length c3, .int .i64 b.data, .slice a4 b.code.length c4⟩ b w0 (ORead.below Hh.out y0) hs
  simp only at H1 k0 k1 k2 k3 k4
  go_wp2_with fail
  refine H1.mono ?_
  rintro e w1 ⟨rfl, hb⟩
  have x1 := x0.below hb x0.lt
  have y1 : Below w.heap.size w w1 := y0.trans (hb.mono y0.size)
  clear H1 k0 k1 k2 k3 k4 x0 y0 hb
  cases hv : objOk b
  · have HR : Hid (obR b = []) := by show _ = _; unfold obR; rw [hv]; rfl
    have HV : Hid (objOk b = false) := hv
    clear hv
    go_wp2_with fail
    go_ret2
    rw [HR.out, HV.out]
    exact ⟨none, 0, rfl, ⟨⟨World.ownsRow_nil _ _ _ _, by simp⟩, ⟨rfl, by simp, by simp⟩, by simp, by unfold maxLen; simp, fun _ => rfl, (by intro k hk; cases hk), y1⟩⟩
  have HR : Hid (obR b = objB b) := by show _ = _; unfold obR; rw [hv]; rfl
  obtain ⟨l1, l2, l3⟩ := objOk_lens hv
  have HV : Hid (objOk b = true) := hv
  clear hv
  unfold osz at hs
  have t1 := textL_le b.name
  have t2 := putL_len (b.ex.length : Int)
  have t3 := listB_len exB_len b.ex
  have t4 := putL_len (b.im.length : Int)
  have t5 := listB_len imB_len b.im
  have t6 := putL_len b.data
  have t7 := putL_len (b.code.length : Int)
  have x2 := x1.old (ob := .cells #[.int .u8 66, .int .u8 72] 5 (2, 3))
  have y2 := y1.alloc y1.size (.cells #[.int .u8 66, .int .u8 72] 5 (2, 3))
  have H1 := implTextM (some ⟨w1.heap.size, 0, none⟩) 2 2 [66, 72] a1 b.name.length c1 b.name _ (bh_row w1) (r1.below y2) (by omega) (by omega)
  obtain ⟨k0, k1, k2, k3, k4⟩ := x2.facts
  simp only at k0 k1 k2 k3 k4
  clear r1
  go_wp2_with fail
  refine H1.mono ?_
  rintro e w3 ⟨a5, c5, rfl, m3⟩
  have x3 := x2.below m3.below x2.lt
  have y3 : Below w.heap.size w w3 := y2.trans (m3.below.mono y2.size)
  have H2 := putExportsM a5 (2 + (textL b.name).length) c5 ([66, 72] ++ textL b.name) a2 c2 b.ex w3 m3.row (by omega) (r2.below y3) l1 EX
  clear H1 k0 k1 k2 k3 k4 x1 x2 y1 y2 kc m3 r2
  obtain ⟨k0, k1, k2, k3, k4⟩ := x3.facts
  simp only at k0 k1 k2 k3 k4
  go_wp2_with fail
  refine H2.mono ?_
  rintro e w4 ⟨a6, c6, rfl, m4⟩
  have x4 := x3.below m4.below x3.lt
  have y4 : Below w.heap.size w w4 := y3.trans (m4.below.mono y3.size)
  have H3 := putImportsM a6 _ c6 _ a3 c3 b.im w4 m4.row (by omega) (r3.below y4) l2 IM
  clear H2 k0 k1 k2 k3 k4 x3 y3 m4 r3
  obtain ⟨k0, k1, k2, k3, k4⟩ := x4.facts
  simp only at k0 k1 k2 k3 k4
  go_wp2_with fail
  refine H3.mono ?_
  rintro e w5 ⟨a7, c7, rfl, m5⟩
  have x5 := x4.below m5.below x4.lt
  have y5 : Below w.heap.size w w5 := y4.trans (m5.below.mono y4.size)
  have H4 := implPutM a7 _ c7 _ b.data w5 m5.row (by omega)
  clear H3 k0 k1 k2 k3 k4 x4 y4 m5
  obtain ⟨k0, k1, k2, k3, k4⟩ := x5.facts
  simp only at k0 k1 k2 k3 k4
  go_wp2_with fail
  refine H4.mono ?_
  rintro e w6 ⟨a8, c8, rfl, m6⟩
  have x6 := x5.below m6.below x5.lt
  have y6 : Below w.heap.size w w6 := y5.trans (m6.below.mono y5.size)
  have H5 := implPutM a8 _ c8 _ (b.code.length : Int) w6 m6.row (by omega)
  clear H4 k0 k1 k2 k3 k4 x5 y5 m6
  obtain ⟨k0, k1, k2, k3, k4⟩ := x6.facts
  simp only at k0 k1 k2 k3 k4
  go_wp2_with fail
  refine H5.mono ?_
  rintro e w7 ⟨a9, c9, rfl, m7⟩
  have x7 := x6.below m7.below x6.lt
  have y7 : Below w.heap.size w w7 := y6.trans (m7.below.mono y6.size)
  have H6 := joinedV a9 _ c9 _ a4 b.code.length c4 b.code w7 m7.row (r4.below y7) (by omega) (by omega)
  clear H5 k0 k1 k2 k3 k4 x6 y6 m7 r4
  obtain ⟨k0, k1, k2, k3, k4⟩ := x7.facts
  simp only at k0 k1 k2 k3 k4
  go_wp2_with fail
  refine H6.mono ?_
  rintro e w8 ⟨v8, rfl, o8, hb8⟩
  have y8 : Below w.heap.size w w8 := y7.trans (hb8.mono y7.size)
  have o9 : Own w8 w.heap.size v8 (obR b).length (obR b) := by
    rw [HR.out]
    have := o8.mono y7.size
    have eB : objB b = [66, 72] ++ textL b.name ++ putL b.ex.length ++ listB exB b.ex ++ putL b.im.length ++ listB imB b.im ++ putL b.data ++ putL b.code.length ++ b.code := rfl
    have eL : (objB b).length = 2 + (textL b.name).length + (putL b.ex.length).length + (listB exB b.ex).length + (putL b.im.length).length + (listB imB b.im).length + (putL b.data).length + (putL b.code.length).length + b.code.length := by rw [eB]; simp only [List.length_append, List.length_cons, List.length_nil]
    rw [eL, eB]
    exact this
  clear H6 k0 k1 k2 k3 k4 x7 y7 o8 hb8
  obtain ⟨a', c', rfl, hm⟩ := o9.made y8
  go_wp2_with fail
  go_ret2
  rw [HV.out]
  exact ⟨_, _, rfl, hm⟩
end Go.Proofs.Ytnhebknckgffoaa
