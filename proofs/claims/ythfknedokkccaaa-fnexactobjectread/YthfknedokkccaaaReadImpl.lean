/- impl.ObjectRead: the object whose bytes these are, all of its memory its own; nothing and no, where they are none's. -/
import Derived.Test.YthfknedokkccaaaReadObj
import Derived.Test.YthfknedokkccaaaReadOf
import Derived.Test.YthfknedokkccaaaReadPre
import Derived.Test.YthfknedokkccaaaObjOkImpl
import Derived.Lib.SlBytesConst
namespace Go.Proofs.Ythfknedokkccaaa
open Go.RowKit
set_option linter.unusedVariables false
set_option linter.unusedSimpArgs false
set_option maxRecDepth 100000

theorem bh_new (w : World) : BRow (w.alloc (.cells #[.int .u8 66, .int .u8 72] 5 (2, 3))) (some ⟨w.heap.size, 0, none⟩) 2 [66, 72] := by
  refine ⟨rfl, by decide, fun _ => ⟨w.heap.size, 0, rfl, fun i hi => ?_⟩⟩
  rw [Nat.zero_add, World.cell?_alloc_mark]
  have : i = 0 ∨ i = 1 := by omega
  rcases this with rfl | rfl <;> rfl

set_option maxHeartbeats 8000000 in
theorem implObjectReadM (a : Option Addr) (n c : Nat) (l : List Int) (w : World) (h : BRow w a n l) (hn : n ≤ 1048576) (hnc : n ≤ c) (hcm : c ≤ maxLen) (hnil : a = none → c = 0) :
    Calls Try.prog 6 #[.slice a n c] w fun e w' => ∃ o : O5, e = .returned (.tuple #[.agg #[o.x, o.e, o.i, o.d, o.c], .bool (rdOk l)]) ∧ (∃ lE lI, OOwn w' w.heap.size o (rdR l) lE lI) ∧ Below w.heap.size w w' := by
  have HBY : Hid (∀ x ∈ l, 0 ≤ x ∧ x ≤ 255) := h.2.1
  have HL : Hid (l.length = n) := h.1
  have H : Hid (BRow w a n l) := h
  clear h
  have x0 := B5.new w 26 ⟨.slice none 0 0, .slice none 0 0, .slice none 0 0, .int .i64 0, .slice none 0 0⟩
  have y0 : Below w.heap.size w (w.alloc (.cells #[.slice none 0 0, .slice none 0 0, .slice none 0 0, .int .i64 0, .slice none 0 0] 26 (0, 0))) := (Below.refl _ _).alloc (Nat.le_refl _) _
  simp only at x0
  have kc := fun (w : World) (C : Array Value) (n c : Nat) => Lib.run_convert_bytes_const (P := Try.prog) w 22 5 C n c Try.underlying22 Try.underlying5
  go_enter Try.func6, Try.ntmps6
  go_upto_region 1 with fail
  generalize w.alloc (.cells #[.slice none 0 0, .slice none 0 0, .slice none 0 0, .int .i64 0, .slice none 0 0] 26 (0, 0)) = w0 at *
  have x1 := x0.old (ob := .cells #[.int .u8 66, .int .u8 72] 5 (2, 3))
  have y1 := y0.alloc y0.size (.cells #[.int .u8 66, .int .u8 72] 5 (2, 3))
  have H1 := hasPrefixM a n c l (some ⟨w0.heap.size, 0, none⟩) 2 _ (BRow.below H.out y1) hnc hcm (bh_new w0)
  go_wp2_with fail
  refine H1.mono ?_
  rintro e w1 ⟨rfl, rfl⟩
  clear H1 x0 y0
  generalize w0.alloc (.cells #[.int .u8 66, .int .u8 72] 5 (2, 3)) = w1 at *
  cases hv : startsL l
  · have HNO : Hid (rdOk l = false) := rd_noStart hv
    clear hv
    obtain ⟨_, _, _, _, _⟩ := x1.facts
    obtain ⟨f0, f1, f2, f3, f4⟩ := x1.frozen
    go_wp2_with fail
    have R9 : B5 (((((w1.setCell ⟨w.heap.size, 0, none⟩ (.slice none 0 0)).setCell ⟨w.heap.size, 1, none⟩ (.slice none 0 0)).setCell ⟨w.heap.size, 2, none⟩ (.slice none 0 0)).setCell ⟨w.heap.size, 3, none⟩ (.int .i64 0)).setCell ⟨w.heap.size, 4, none⟩ (.slice none 0 0)) w.heap.size 26 ⟨.slice none 0 0, .slice none 0 0, .slice none 0 0, .int .i64 0, .slice none 0 0⟩ := ((((x1.set0 _).set1 _).set2 _).set3 _).set4 _
    have Y9 : Below w.heap.size w (((((w1.setCell ⟨w.heap.size, 0, none⟩ (.slice none 0 0)).setCell ⟨w.heap.size, 1, none⟩ (.slice none 0 0)).setCell ⟨w.heap.size, 2, none⟩ (.slice none 0 0)).setCell ⟨w.heap.size, 3, none⟩ (.int .i64 0)).setCell ⟨w.heap.size, 4, none⟩ (.slice none 0 0)) := ((((y1.setCell (Nat.le_refl _) _).setCell (Nat.le_refl _) _).setCell (Nat.le_refl _) _).setCell (Nat.le_refl _) _).setCell (Nat.le_refl _) _
    generalize (((((w1.setCell ⟨w.heap.size, 0, none⟩ (.slice none 0 0)).setCell ⟨w.heap.size, 1, none⟩ (.slice none 0 0)).setCell ⟨w.heap.size, 2, none⟩ (.slice none 0 0)).setCell ⟨w.heap.size, 3, none⟩ (.int .i64 0)).setCell ⟨w.heap.size, 4, none⟩ (.slice none 0 0)) = w9 at *
    obtain ⟨d0, d1, d2, d3, d4⟩ := R9.facts
    simp only at d0 d1 d2 d3 d4
    refine bodyPost_ret (v := .tuple #[.agg #[.slice none 0 0, .slice none 0 0, .slice none 0 0, .int .i64 0, .slice none 0 0], .bool false]) (by simp [results, Try.results6, go_sem, d0, d1, d2, d3, d4]) rfl ⟨⟨.slice none 0 0, .slice none 0 0, .slice none 0 0, .int .i64 0, .slice none 0 0⟩, ?_, ?_, Y9⟩
    · rw [HNO.out]
    · rw [rdR_no HNO.out]
      exact ⟨[], [], OOwn.zero _ _⟩
  have HST : Hid (startsL l = true) := hv
  clear hv
  have H2 := sourceOfM a n c l w1 (BRow.below H.out y1) hn hnc hcm hnil
  unfold fNum fText fCount fBytes fEnded at H2
  go_wp2_with fail
  refine H2.mono ?_
  rintro e w2 ⟨pb, pa, ps, rfl, s2, hb⟩
  have x2 := x1.below hb x1.lt
  have y2 : Below w.heap.size w w2 := y1.trans (hb.mono y1.size)
  have hR1 : w.heap.size < w1.heap.size := x1.lt
  have hPA : w1.heap.size ≤ pa := s2.low
  have hPL : pa < w2.heap.size := lt_of_block s2.p
  have S2 : Hid (Src w1 w2 pb pa ps a n c l 2) := s2
  clear H2 x1 y1 hb s2 kc
  have g3 := B5.new w2 51 ⟨.func (Fn.func 31) #[] #[.pointer (some ⟨pb, 0, none⟩), .pointer (some ⟨pa, 0, none⟩)], .func (Fn.func 33) #[] #[.pointer (some ⟨pb, 0, none⟩), .pointer (some ⟨pa, 0, none⟩)], .func (Fn.func 35) #[] #[.pointer (some ⟨ps, 0, none⟩), .pointer (some ⟨pa, 0, none⟩)], .func (Fn.func 36) #[] #[.pointer (some ⟨pa, 0, none⟩), .pointer (some ⟨pb, 0, none⟩)], .func (Fn.func 38) #[] #[.pointer (some ⟨pa, 0, none⟩), .pointer (some ⟨pb, 0, none⟩)]⟩
  have x3 := x2.old (ob := .cells #[.func (Fn.func 31) #[] #[.pointer (some ⟨pb, 0, none⟩), .pointer (some ⟨pa, 0, none⟩)], .func (Fn.func 33) #[] #[.pointer (some ⟨pb, 0, none⟩), .pointer (some ⟨pa, 0, none⟩)], .func (Fn.func 35) #[] #[.pointer (some ⟨ps, 0, none⟩), .pointer (some ⟨pa, 0, none⟩)], .func (Fn.func 36) #[] #[.pointer (some ⟨pa, 0, none⟩), .pointer (some ⟨pb, 0, none⟩)], .func (Fn.func 38) #[] #[.pointer (some ⟨pa, 0, none⟩), .pointer (some ⟨pb, 0, none⟩)]] 51 (0, 0))
  have y3 := y2.alloc y2.size (.cells #[.func (Fn.func 31) #[] #[.pointer (some ⟨pb, 0, none⟩), .pointer (some ⟨pa, 0, none⟩)], .func (Fn.func 33) #[] #[.pointer (some ⟨pb, 0, none⟩), .pointer (some ⟨pa, 0, none⟩)], .func (Fn.func 35) #[] #[.pointer (some ⟨ps, 0, none⟩), .pointer (some ⟨pa, 0, none⟩)], .func (Fn.func 36) #[] #[.pointer (some ⟨pa, 0, none⟩), .pointer (some ⟨pb, 0, none⟩)], .func (Fn.func 38) #[] #[.pointer (some ⟨pa, 0, none⟩), .pointer (some ⟨pb, 0, none⟩)]] 51 (0, 0))
  have S3 : Hid (Src w1 (w2.alloc (.cells #[.func (Fn.func 31) #[] #[.pointer (some ⟨pb, 0, none⟩), .pointer (some ⟨pa, 0, none⟩)], .func (Fn.func 33) #[] #[.pointer (some ⟨pb, 0, none⟩), .pointer (some ⟨pa, 0, none⟩)], .func (Fn.func 35) #[] #[.pointer (some ⟨ps, 0, none⟩), .pointer (some ⟨pa, 0, none⟩)], .func (Fn.func 36) #[] #[.pointer (some ⟨pa, 0, none⟩), .pointer (some ⟨pb, 0, none⟩)], .func (Fn.func 38) #[] #[.pointer (some ⟨pa, 0, none⟩), .pointer (some ⟨pb, 0, none⟩)]] 51 (0, 0))) pb pa ps a n c l 2) := S2.out.below ((Below.refl _ _).alloc (Nat.le_refl _) _)
  have hz3 : (w2.alloc (.cells #[.func (Fn.func 31) #[] #[.pointer (some ⟨pb, 0, none⟩), .pointer (some ⟨pa, 0, none⟩)], .func (Fn.func 33) #[] #[.pointer (some ⟨pb, 0, none⟩), .pointer (some ⟨pa, 0, none⟩)], .func (Fn.func 35) #[] #[.pointer (some ⟨ps, 0, none⟩), .pointer (some ⟨pa, 0, none⟩)], .func (Fn.func 36) #[] #[.pointer (some ⟨pa, 0, none⟩), .pointer (some ⟨pb, 0, none⟩)], .func (Fn.func 38) #[] #[.pointer (some ⟨pa, 0, none⟩), .pointer (some ⟨pb, 0, none⟩)]] 51 (0, 0))).heap.size = w2.heap.size + 1 := by simp
  simp only at g3
  go_upto_region 4 with fail
  generalize (w2.alloc (.cells #[.func (Fn.func 31) #[] #[.pointer (some ⟨pb, 0, none⟩), .pointer (some ⟨pa, 0, none⟩)], .func (Fn.func 33) #[] #[.pointer (some ⟨pb, 0, none⟩), .pointer (some ⟨pa, 0, none⟩)], .func (Fn.func 35) #[] #[.pointer (some ⟨ps, 0, none⟩), .pointer (some ⟨pa, 0, none⟩)], .func (Fn.func 36) #[] #[.pointer (some ⟨pa, 0, none⟩), .pointer (some ⟨pb, 0, none⟩)], .func (Fn.func 38) #[] #[.pointer (some ⟨pa, 0, none⟩), .pointer (some ⟨pb, 0, none⟩)]] 51 (0, 0))) = w3 at *
  have HZ3 : Hid (w3.heap.size = w2.heap.size + 1) := hz3
  clear hz3 x2 y2 S2
  generalize w2.heap.size = gS at *
  obtain ⟨q0, q1, q2, q3, q4⟩ := g3.facts
  simp only at q0 q1 q2 q3 q4
  have H3 := objectM S3.out (.func (Fn.func 38) #[] #[.pointer (some ⟨pa, 0, none⟩), .pointer (some ⟨pb, 0, none⟩)])
  go_wp2_with fail
  refine H3.mono ?_
  rintro e w4 ⟨o, rfl, ⟨lE, lI, hO⟩, s4, k4⟩
  have R4 := hO.read (obL_exs l) (obL_ims l)
  obtain ⟨a1, c1, a2, c2, a3, c3, a4, c4, e4⟩ := R4.shape
  subst e4
  simp only
  have x4 := B5.keep x3 k4 (by simp; omega)
  have g4 := B5.keep g3 k4 (by simp; omega)
  have y4 : Below w.heap.size w w4 := y3.trans ((k4.below (fun k hk => by simp at hk; omega) (by have := HZ3.out; omega)).mono (Nat.le_refl _))
  have S4 : Hid (Src w1 w4 pb pa ps a n c l (r8 l).2) := s4
  have O4 : Hid (OOwn w4 w3.heap.size ⟨.slice a1 (obL l).name.length c1, .slice a2 (obL l).ex.length c2, .slice a3 (obL l).im.length c3, .int .i64 (obL l).data, .slice a4 (obL l).code.length c4⟩ (obL l) lE lI) := hO
  have R4' : Hid (ORead w4 ⟨.slice a1 (obL l).name.length c1, .slice a2 (obL l).ex.length c2, .slice a3 (obL l).im.length c3, .int .i64 (obL l).data, .slice a4 (obL l).code.length c4⟩ (obL l)) := R4
  have hz4 : gS < w4.heap.size := by have := k4.size; have := HZ3.out; omega
  clear H3 x3 g3 y3 S3 q0 q1 q2 q3 q4 s4 k4 hO R4
  have o5 := B5.new w4 26 ⟨.slice a1 (obL l).name.length c1, .slice a2 (obL l).ex.length c2, .slice a3 (obL l).im.length c3, .int .i64 (obL l).data, .slice a4 (obL l).code.length c4⟩
  have x5 := x4.old (ob := .cells #[.slice a1 (obL l).name.length c1, .slice a2 (obL l).ex.length c2, .slice a3 (obL l).im.length c3, .int .i64 (obL l).data, .slice a4 (obL l).code.length c4] 26 (0, 0))
  have g5 := g4.old (ob := .cells #[.slice a1 (obL l).name.length c1, .slice a2 (obL l).ex.length c2, .slice a3 (obL l).im.length c3, .int .i64 (obL l).data, .slice a4 (obL l).code.length c4] 26 (0, 0))
  have b5 : Below w4.heap.size w4 (w4.alloc (.cells #[.slice a1 (obL l).name.length c1, .slice a2 (obL l).ex.length c2, .slice a3 (obL l).im.length c3, .int .i64 (obL l).data, .slice a4 (obL l).code.length c4] 26 (0, 0))) := (Below.refl _ _).alloc (Nat.le_refl _) _
  have y5 := y4.trans (b5.mono y4.size)
  have S5 : Hid (Src w1 (w4.alloc (.cells #[.slice a1 (obL l).name.length c1, .slice a2 (obL l).ex.length c2, .slice a3 (obL l).im.length c3, .int .i64 (obL l).data, .slice a4 (obL l).code.length c4] 26 (0, 0))) pb pa ps a n c l (r8 l).2) := S4.out.below b5
  have O5' : Hid (OOwn (w4.alloc (.cells #[.slice a1 (obL l).name.length c1, .slice a2 (obL l).ex.length c2, .slice a3 (obL l).im.length c3, .int .i64 (obL l).data, .slice a4 (obL l).code.length c4] 26 (0, 0))) w3.heap.size ⟨.slice a1 (obL l).name.length c1, .slice a2 (obL l).ex.length c2, .slice a3 (obL l).im.length c3, .int .i64 (obL l).data, .slice a4 (obL l).code.length c4⟩ (obL l) lE lI) := O4.out.below b5
  have R5 : Hid (ORead (w4.alloc (.cells #[.slice a1 (obL l).name.length c1, .slice a2 (obL l).ex.length c2, .slice a3 (obL l).im.length c3, .int .i64 (obL l).data, .slice a4 (obL l).code.length c4] 26 (0, 0))) ⟨.slice a1 (obL l).name.length c1, .slice a2 (obL l).ex.length c2, .slice a3 (obL l).im.length c3, .int .i64 (obL l).data, .slice a4 (obL l).code.length c4⟩ (obL l)) := R4'.out.below b5
  simp only at o5
  go_upto_region 5 with fail
  generalize (w4.alloc (.cells #[.slice a1 (obL l).name.length c1, .slice a2 (obL l).ex.length c2, .slice a3 (obL l).im.length c3, .int .i64 (obL l).data, .slice a4 (obL l).code.length c4] 26 (0, 0))) = w5 at *
  clear x4 y4 g4 S4 O4 R4' b5
  generalize w4.heap.size = gO at *
  obtain ⟨q0, q1, q2, q3, q4⟩ := g5.facts
  simp only at q0 q1 q2 q3 q4
  have H4 := endedM S5.out
  clear q0 q1 q2 q3
  by_cases hE : (r8 l).2 = (n : Int)
  · rw [decide_eq_true hE] at H4
    have HEQ : Hid (rdOk l = objOk (obL l)) := rd_end HST.out (by rw [HL.out]; exact hE)
    clear hE
    go_wp2_with fail
    refine H4.mono ?_
    rintro e w5 ⟨rfl, rfl⟩
    obtain ⟨j0, j1, j2, j3, j4⟩ := o5.facts
    simp only at j0 j1 j2 j3 j4
    have H5 := implObjectOkM ⟨.slice a1 (obL l).name.length c1, .slice a2 (obL l).ex.length c2, .slice a3 (obL l).im.length c3, .int .i64 (obL l).data, .slice a4 (obL l).code.length c4⟩ (obL l) _ R5.out (obL_size HBY.out)
    simp only at H5
    clear H4
    go_wp2_with fail
    refine H5.mono ?_
    rintro e w6 ⟨rfl, hb⟩
    have x6 := x5.below hb x5.lt
    have o6 := o5.below hb o5.lt
    have y6 : Below w.heap.size w w6 := y5.trans (hb.mono y5.size)
    have O6 : Hid (OOwn w6 w3.heap.size ⟨.slice a1 (obL l).name.length c1, .slice a2 (obL l).ex.length c2, .slice a3 (obL l).im.length c3, .int .i64 (obL l).data, .slice a4 (obL l).code.length c4⟩ (obL l) lE lI) := O5'.out.below hb
    clear H5 j0 j1 j2 j3 j4 x5 o5 y5 g5 q4 hb S5 O5' R5
    cases hv : objOk (obL l)
    · have HNO : Hid (rdOk l = false) := by show _ = _; rw [HEQ.out]; exact hv
      clear hv
      obtain ⟨_, _, _, _, _⟩ := x6.facts
      obtain ⟨f0, f1, f2, f3, f4⟩ := x6.frozen
      go_wp2_with fail
      have R9 : B5 (((((w6.setCell ⟨w.heap.size, 0, none⟩ (.slice none 0 0)).setCell ⟨w.heap.size, 1, none⟩ (.slice none 0 0)).setCell ⟨w.heap.size, 2, none⟩ (.slice none 0 0)).setCell ⟨w.heap.size, 3, none⟩ (.int .i64 0)).setCell ⟨w.heap.size, 4, none⟩ (.slice none 0 0)) w.heap.size 26 ⟨.slice none 0 0, .slice none 0 0, .slice none 0 0, .int .i64 0, .slice none 0 0⟩ := ((((x6.set0 _).set1 _).set2 _).set3 _).set4 _
      have Y9 : Below w.heap.size w (((((w6.setCell ⟨w.heap.size, 0, none⟩ (.slice none 0 0)).setCell ⟨w.heap.size, 1, none⟩ (.slice none 0 0)).setCell ⟨w.heap.size, 2, none⟩ (.slice none 0 0)).setCell ⟨w.heap.size, 3, none⟩ (.int .i64 0)).setCell ⟨w.heap.size, 4, none⟩ (.slice none 0 0)) := ((((y6.setCell (Nat.le_refl _) _).setCell (Nat.le_refl _) _).setCell (Nat.le_refl _) _).setCell (Nat.le_refl _) _).setCell (Nat.le_refl _) _
      generalize (((((w6.setCell ⟨w.heap.size, 0, none⟩ (.slice none 0 0)).setCell ⟨w.heap.size, 1, none⟩ (.slice none 0 0)).setCell ⟨w.heap.size, 2, none⟩ (.slice none 0 0)).setCell ⟨w.heap.size, 3, none⟩ (.int .i64 0)).setCell ⟨w.heap.size, 4, none⟩ (.slice none 0 0)) = w9 at *
      obtain ⟨d0, d1, d2, d3, d4⟩ := R9.facts
      simp only at d0 d1 d2 d3 d4
      refine bodyPost_ret (v := .tuple #[.agg #[.slice none 0 0, .slice none 0 0, .slice none 0 0, .int .i64 0, .slice none 0 0], .bool false]) (by simp [results, Try.results6, go_sem, d0, d1, d2, d3, d4]) rfl ⟨⟨.slice none 0 0, .slice none 0 0, .slice none 0 0, .int .i64 0, .slice none 0 0⟩, ?_, ?_, Y9⟩
      · rw [HNO.out]
      · rw [rdR_no HNO.out]
        exact ⟨[], [], OOwn.zero _ _⟩
    · have HYES : Hid (rdOk l = true) := by show _ = _; rw [HEQ.out]; exact hv
      clear hv
      obtain ⟨j0, j1, j2, j3, j4⟩ := o6.facts
      simp only at j0 j1 j2 j3 j4
      obtain ⟨_, _, _, _, _⟩ := x6.facts
      obtain ⟨f0, f1, f2, f3, f4⟩ := x6.frozen
      go_wp2_with fail
      have R9 : B5 (((((w6.setCell ⟨w.heap.size, 0, none⟩ (.slice a1 (obL l).name.length c1)).setCell ⟨w.heap.size, 1, none⟩ (.slice a2 (obL l).ex.length c2)).setCell ⟨w.heap.size, 2, none⟩ (.slice a3 (obL l).im.length c3)).setCell ⟨w.heap.size, 3, none⟩ (.int .i64 (obL l).data)).setCell ⟨w.heap.size, 4, none⟩ (.slice a4 (obL l).code.length c4)) w.heap.size 26 ⟨.slice a1 (obL l).name.length c1, .slice a2 (obL l).ex.length c2, .slice a3 (obL l).im.length c3, .int .i64 (obL l).data, .slice a4 (obL l).code.length c4⟩ := ((((x6.set0 _).set1 _).set2 _).set3 _).set4 _
      have Y9 : Below w.heap.size w (((((w6.setCell ⟨w.heap.size, 0, none⟩ (.slice a1 (obL l).name.length c1)).setCell ⟨w.heap.size, 1, none⟩ (.slice a2 (obL l).ex.length c2)).setCell ⟨w.heap.size, 2, none⟩ (.slice a3 (obL l).im.length c3)).setCell ⟨w.heap.size, 3, none⟩ (.int .i64 (obL l).data)).setCell ⟨w.heap.size, 4, none⟩ (.slice a4 (obL l).code.length c4)) := ((((y6.setCell (Nat.le_refl _) _).setCell (Nat.le_refl _) _).setCell (Nat.le_refl _) _).setCell (Nat.le_refl _) _).setCell (Nat.le_refl _) _
      have hlw : w.heap.size < w3.heap.size := by have := HZ3.out; omega
      have C9 : Same w3.heap.size w6 (((((w6.setCell ⟨w.heap.size, 0, none⟩ (.slice a1 (obL l).name.length c1)).setCell ⟨w.heap.size, 1, none⟩ (.slice a2 (obL l).ex.length c2)).setCell ⟨w.heap.size, 2, none⟩ (.slice a3 (obL l).im.length c3)).setCell ⟨w.heap.size, 3, none⟩ (.int .i64 (obL l).data)).setCell ⟨w.heap.size, 4, none⟩ (.slice a4 (obL l).code.length c4)) := ((((Same.put hlw).trans (Same.put hlw)).trans (Same.put hlw)).trans (Same.put hlw)).trans (Same.put hlw)
      generalize (((((w6.setCell ⟨w.heap.size, 0, none⟩ (.slice a1 (obL l).name.length c1)).setCell ⟨w.heap.size, 1, none⟩ (.slice a2 (obL l).ex.length c2)).setCell ⟨w.heap.size, 2, none⟩ (.slice a3 (obL l).im.length c3)).setCell ⟨w.heap.size, 3, none⟩ (.int .i64 (obL l).data)).setCell ⟨w.heap.size, 4, none⟩ (.slice a4 (obL l).code.length c4)) = w9 at *
      obtain ⟨d0, d1, d2, d3, d4⟩ := R9.facts
      simp only at d0 d1 d2 d3 d4
      refine bodyPost_ret (v := .tuple #[.agg #[.slice a1 (obL l).name.length c1, .slice a2 (obL l).ex.length c2, .slice a3 (obL l).im.length c3, .int .i64 (obL l).data, .slice a4 (obL l).code.length c4], .bool true]) (by simp [results, Try.results6, go_sem, d0, d1, d2, d3, d4]) rfl ⟨⟨.slice a1 (obL l).name.length c1, .slice a2 (obL l).ex.length c2, .slice a3 (obL l).im.length c3, .int .i64 (obL l).data, .slice a4 (obL l).code.length c4⟩, ?_, ?_, Y9⟩
      · rw [HYES.out]
      · rw [rdR_yes HYES.out]
        exact ⟨lE, lI, (O6.out.same C9).mono (by omega)⟩
  · rw [decide_eq_false hE] at H4
    have HNO : Hid (rdOk l = false) := rd_noEnd (by rw [HL.out]; exact hE)
    clear hE
    go_wp2_with fail
    refine H4.mono ?_
    rintro e w5 ⟨rfl, rfl⟩
    clear H4
    obtain ⟨_, _, _, _, _⟩ := x5.facts
    obtain ⟨f0, f1, f2, f3, f4⟩ := x5.frozen
    go_wp2_with fail
    have R9 : B5 (((((w5.setCell ⟨w.heap.size, 0, none⟩ (.slice none 0 0)).setCell ⟨w.heap.size, 1, none⟩ (.slice none 0 0)).setCell ⟨w.heap.size, 2, none⟩ (.slice none 0 0)).setCell ⟨w.heap.size, 3, none⟩ (.int .i64 0)).setCell ⟨w.heap.size, 4, none⟩ (.slice none 0 0)) w.heap.size 26 ⟨.slice none 0 0, .slice none 0 0, .slice none 0 0, .int .i64 0, .slice none 0 0⟩ := ((((x5.set0 _).set1 _).set2 _).set3 _).set4 _
    have Y9 : Below w.heap.size w (((((w5.setCell ⟨w.heap.size, 0, none⟩ (.slice none 0 0)).setCell ⟨w.heap.size, 1, none⟩ (.slice none 0 0)).setCell ⟨w.heap.size, 2, none⟩ (.slice none 0 0)).setCell ⟨w.heap.size, 3, none⟩ (.int .i64 0)).setCell ⟨w.heap.size, 4, none⟩ (.slice none 0 0)) := ((((y5.setCell (Nat.le_refl _) _).setCell (Nat.le_refl _) _).setCell (Nat.le_refl _) _).setCell (Nat.le_refl _) _).setCell (Nat.le_refl _) _
    generalize (((((w5.setCell ⟨w.heap.size, 0, none⟩ (.slice none 0 0)).setCell ⟨w.heap.size, 1, none⟩ (.slice none 0 0)).setCell ⟨w.heap.size, 2, none⟩ (.slice none 0 0)).setCell ⟨w.heap.size, 3, none⟩ (.int .i64 0)).setCell ⟨w.heap.size, 4, none⟩ (.slice none 0 0)) = w9 at *
    obtain ⟨d0, d1, d2, d3, d4⟩ := R9.facts
    simp only at d0 d1 d2 d3 d4
    refine bodyPost_ret (v := .tuple #[.agg #[.slice none 0 0, .slice none 0 0, .slice none 0 0, .int .i64 0, .slice none 0 0], .bool false]) (by simp [results, Try.results6, go_sem, d0, d1, d2, d3, d4]) rfl ⟨⟨.slice none 0 0, .slice none 0 0, .slice none 0 0, .int .i64 0, .slice none 0 0⟩, ?_, ?_, Y9⟩
    · rw [HNO.out]
    · rw [rdR_no HNO.out]
      exact ⟨[], [], OOwn.zero _ _⟩
end Go.Proofs.Ythfknedokkccaaa
