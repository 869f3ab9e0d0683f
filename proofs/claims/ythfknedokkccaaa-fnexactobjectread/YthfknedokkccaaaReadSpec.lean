/- spec.ObjectRead: the object whose bytes these are; nothing and no, where they are none's. -/
import Derived.Test.YthfknedokkccaaaReadKeep
import Derived.Test.YthfknedokkccaaaReadZero
import Derived.Test.YthfknedokkccaaaObjOkSpec
import Derived.Deep.Cut
namespace Go.Proofs.Ythfknedokkccaaa
open Go.RowKit
set_option linter.unusedVariables false
set_option linter.unusedSimpArgs false
set_option maxRecDepth 100000

theorem starts_two {w : World} {a : Option Addr} {n : Nat} {l : List Int} (h : BRow w a n l) (hn : 2 ≤ n) : ∃ b off x y, a = some ⟨b, off, none⟩ ∧ w.cell? ⟨b, off, none⟩ = some (.int .u8 x) ∧ w.cell? ⟨b, off + 1, none⟩ = some (.int .u8 y) ∧ startsL l = decide (x = 66 ∧ y = 72) := by
  obtain ⟨b, off, e, hc⟩ := h.2.2 (by omega)
  have hl := h.1
  match l, hl with
  | [], hl => simp at hl; omega
  | [x], hl => simp at hl; omega
  | x :: y :: r, hl =>
    refine ⟨b, off, x, y, e, ?_, ?_, ?_⟩
    · have := hc 0 (by omega); simpa using this
    · have := hc 1 (by omega); simpa using this
    · unfold startsL; simp

set_option maxHeartbeats 16000000 in
theorem specObjectReadM (a : Option Addr) (n c : Nat) (l : List Int) (w : World) (h : BRow w a n l) (hn : n ≤ 1048576) (hnc : n ≤ c) (hcm : c ≤ maxLen) (hnil : a = none → c = 0) :
    Calls Try.prog 4 #[.slice a n c] w fun e w' => ∃ o : O5, e = .returned (.tuple #[.agg #[o.x, o.e, o.i, o.d, o.c], .bool (rdOk l)]) ∧ ORead w' o (rdR l) ∧ Below w.heap.size w w' := by
  have HBY : Hid (∀ x ∈ l, 0 ≤ x ∧ x ≤ 255) := h.2.1
  have HL : Hid (l.length = n) := h.1
  have H : Hid (BRow w a n l) := h
  have HCM : Hid (c ≤ maxLen) := hcm
  clear hcm
  have x0 := B5.new w 26 ⟨.slice none 0 0, .slice none 0 0, .slice none 0 0, .int .i64 0, .slice none 0 0⟩
  have y0 : Below w.heap.size w (w.alloc (.cells #[.slice none 0 0, .slice none 0 0, .slice none 0 0, .int .i64 0, .slice none 0 0] 26 (0, 0))) := (Below.refl _ _).alloc (Nat.le_refl _) _
  have hz0 : (w.alloc (.cells #[.slice none 0 0, .slice none 0 0, .slice none 0 0, .int .i64 0, .slice none 0 0] 26 (0, 0))).heap.size = w.heap.size + 1 := by simp
  simp only at x0
  by_cases hlt : n < 2
  · have HNO : Hid (rdOk l = false) := rd_noStart (by
      unfold startsL; rw [decide_eq_false]; intro e; have := congrArg List.length e; simp [HL.out] at this; omega)
    clear h
    go_enter Try.func4, Try.ntmps4
    go_upto_region 1 with fail
    generalize w.alloc (.cells #[.slice none 0 0, .slice none 0 0, .slice none 0 0, .int .i64 0, .slice none 0 0] 26 (0, 0)) = w0 at *
    obtain ⟨_, _, _, _, _⟩ := x0.facts
    obtain ⟨f0, f1, f2, f3, f4⟩ := x0.frozen
    go_wp2_with fail
    have R9 : B5 (((((w0.setCell ⟨w.heap.size, 0, none⟩ (.slice none 0 0)).setCell ⟨w.heap.size, 1, none⟩ (.slice none 0 0)).setCell ⟨w.heap.size, 2, none⟩ (.slice none 0 0)).setCell ⟨w.heap.size, 3, none⟩ (.int .i64 0)).setCell ⟨w.heap.size, 4, none⟩ (.slice none 0 0)) w.heap.size 26 ⟨.slice none 0 0, .slice none 0 0, .slice none 0 0, .int .i64 0, .slice none 0 0⟩ := ((((x0.set0 _).set1 _).set2 _).set3 _).set4 _
    have Y9 : Below w.heap.size w (((((w0.setCell ⟨w.heap.size, 0, none⟩ (.slice none 0 0)).setCell ⟨w.heap.size, 1, none⟩ (.slice none 0 0)).setCell ⟨w.heap.size, 2, none⟩ (.slice none 0 0)).setCell ⟨w.heap.size, 3, none⟩ (.int .i64 0)).setCell ⟨w.heap.size, 4, none⟩ (.slice none 0 0)) := ((((y0.setCell (Nat.le_refl _) _).setCell (Nat.le_refl _) _).setCell (Nat.le_refl _) _).setCell (Nat.le_refl _) _).setCell (Nat.le_refl _) _
    generalize (((((w0.setCell ⟨w.heap.size, 0, none⟩ (.slice none 0 0)).setCell ⟨w.heap.size, 1, none⟩ (.slice none 0 0)).setCell ⟨w.heap.size, 2, none⟩ (.slice none 0 0)).setCell ⟨w.heap.size, 3, none⟩ (.int .i64 0)).setCell ⟨w.heap.size, 4, none⟩ (.slice none 0 0)) = w9 at *
    obtain ⟨d0, d1, d2, d3, d4⟩ := R9.facts
    simp only at d0 d1 d2 d3 d4
    refine bodyPost_ret (v := .tuple #[.agg #[.slice none 0 0, .slice none 0 0, .slice none 0 0, .int .i64 0, .slice none 0 0], .bool false]) (by simp [results, Try.results4, go_sem, d0, d1, d2, d3, d4]) rfl ⟨⟨.slice none 0 0, .slice none 0 0, .slice none 0 0, .int .i64 0, .slice none 0 0⟩, ?_, ?_, Y9⟩
    · rw [HNO.out]
    · rw [rdR_no HNO.out]
      exact (OOwn.zero _ 0).read (by intro d hd; cases hd) (by intro d hd; cases hd)
  obtain ⟨b, off, x, y, rfl, hx, hy, hst⟩ := starts_two h (by omega)
  have hx0 := (y0.cell (World.block_lt_of_cell? w _ hx)).trans hx
  have hy0 := (y0.cell (World.block_lt_of_cell? w _ hy)).trans hy
  clear h hx hy
  by_cases hs : ¬ (x = 66 ∧ y = 72)
  · have HNO : Hid (rdOk l = false) := rd_noStart (by rw [hst, decide_eq_false hs])
    clear hst
    by_cases hx66 : x = 66
    · have hy72 : y ≠ 72 := fun e => hs ⟨hx66, e⟩
      subst hx66
      have hyb : (y != 72) = true := by simpa using hy72
      go_enter Try.func4, Try.ntmps4
      go_upto_region 1 with fail
      generalize w.alloc (.cells #[.slice none 0 0, .slice none 0 0, .slice none 0 0, .int .i64 0, .slice none 0 0] 26 (0, 0)) = w0 at *
      obtain ⟨_, _, _, _, _⟩ := x0.facts
      obtain ⟨f0, f1, f2, f3, f4⟩ := x0.frozen
      go_wp2_with fail
      have R9 : B5 (((((w0.setCell ⟨w.heap.size, 0, none⟩ (.slice none 0 0)).setCell ⟨w.heap.size, 1, none⟩ (.slice none 0 0)).setCell ⟨w.heap.size, 2, none⟩ (.slice none 0 0)).setCell ⟨w.heap.size, 3, none⟩ (.int .i64 0)).setCell ⟨w.heap.size, 4, none⟩ (.slice none 0 0)) w.heap.size 26 ⟨.slice none 0 0, .slice none 0 0, .slice none 0 0, .int .i64 0, .slice none 0 0⟩ := ((((x0.set0 _).set1 _).set2 _).set3 _).set4 _
      have Y9 : Below w.heap.size w (((((w0.setCell ⟨w.heap.size, 0, none⟩ (.slice none 0 0)).setCell ⟨w.heap.size, 1, none⟩ (.slice none 0 0)).setCell ⟨w.heap.size, 2, none⟩ (.slice none 0 0)).setCell ⟨w.heap.size, 3, none⟩ (.int .i64 0)).setCell ⟨w.heap.size, 4, none⟩ (.slice none 0 0)) := ((((y0.setCell (Nat.le_refl _) _).setCell (Nat.le_refl _) _).setCell (Nat.le_refl _) _).setCell (Nat.le_refl _) _).setCell (Nat.le_refl _) _
      generalize (((((w0.setCell ⟨w.heap.size, 0, none⟩ (.slice none 0 0)).setCell ⟨w.heap.size, 1, none⟩ (.slice none 0 0)).setCell ⟨w.heap.size, 2, none⟩ (.slice none 0 0)).setCell ⟨w.heap.size, 3, none⟩ (.int .i64 0)).setCell ⟨w.heap.size, 4, none⟩ (.slice none 0 0)) = w9 at *
      obtain ⟨d0, d1, d2, d3, d4⟩ := R9.facts
      simp only at d0 d1 d2 d3 d4
      refine bodyPost_ret (v := .tuple #[.agg #[.slice none 0 0, .slice none 0 0, .slice none 0 0, .int .i64 0, .slice none 0 0], .bool false]) (by simp [results, Try.results4, go_sem, d0, d1, d2, d3, d4]) rfl ⟨⟨.slice none 0 0, .slice none 0 0, .slice none 0 0, .int .i64 0, .slice none 0 0⟩, ?_, ?_, Y9⟩
      · rw [HNO.out]
      · rw [rdR_no HNO.out]
        exact (OOwn.zero _ 0).read (by intro d hd; cases hd) (by intro d hd; cases hd)
    · have hxb : (x != 66) = true := by simpa using hx66
      go_enter Try.func4, Try.ntmps4
      go_upto_region 1 with fail
      generalize w.alloc (.cells #[.slice none 0 0, .slice none 0 0, .slice none 0 0, .int .i64 0, .slice none 0 0] 26 (0, 0)) = w0 at *
      obtain ⟨_, _, _, _, _⟩ := x0.facts
      obtain ⟨f0, f1, f2, f3, f4⟩ := x0.frozen
      go_wp2_with fail
      have R9 : B5 (((((w0.setCell ⟨w.heap.size, 0, none⟩ (.slice none 0 0)).setCell ⟨w.heap.size, 1, none⟩ (.slice none 0 0)).setCell ⟨w.heap.size, 2, none⟩ (.slice none 0 0)).setCell ⟨w.heap.size, 3, none⟩ (.int .i64 0)).setCell ⟨w.heap.size, 4, none⟩ (.slice none 0 0)) w.heap.size 26 ⟨.slice none 0 0, .slice none 0 0, .slice none 0 0, .int .i64 0, .slice none 0 0⟩ := ((((x0.set0 _).set1 _).set2 _).set3 _).set4 _
      have Y9 : Below w.heap.size w (((((w0.setCell ⟨w.heap.size, 0, none⟩ (.slice none 0 0)).setCell ⟨w.heap.size, 1, none⟩ (.slice none 0 0)).setCell ⟨w.heap.size, 2, none⟩ (.slice none 0 0)).setCell ⟨w.heap.size, 3, none⟩ (.int .i64 0)).setCell ⟨w.heap.size, 4, none⟩ (.slice none 0 0)) := ((((y0.setCell (Nat.le_refl _) _).setCell (Nat.le_refl _) _).setCell (Nat.le_refl _) _).setCell (Nat.le_refl _) _).setCell (Nat.le_refl _) _
      generalize (((((w0.setCell ⟨w.heap.size, 0, none⟩ (.slice none 0 0)).setCell ⟨w.heap.size, 1, none⟩ (.slice none 0 0)).setCell ⟨w.heap.size, 2, none⟩ (.slice none 0 0)).setCell ⟨w.heap.size, 3, none⟩ (.int .i64 0)).setCell ⟨w.heap.size, 4, none⟩ (.slice none 0 0)) = w9 at *
      obtain ⟨d0, d1, d2, d3, d4⟩ := R9.facts
      simp only at d0 d1 d2 d3 d4
      refine bodyPost_ret (v := .tuple #[.agg #[.slice none 0 0, .slice none 0 0, .slice none 0 0, .int .i64 0, .slice none 0 0], .bool false]) (by simp [results, Try.results4, go_sem, d0, d1, d2, d3, d4]) rfl ⟨⟨.slice none 0 0, .slice none 0 0, .slice none 0 0, .int .i64 0, .slice none 0 0⟩, ?_, ?_, Y9⟩
      · rw [HNO.out]
      · rw [rdR_no HNO.out]
        exact (OOwn.zero _ 0).read (by intro d hd; cases hd) (by intro d hd; cases hd)
  obtain ⟨rfl, rfl⟩ := Decidable.of_not_not hs
  have HST : Hid (startsL l = true) := by show _ = _; rw [hst]; simp
  clear hs hst
  go_enter Try.func4, Try.ntmps4
  go_upto_region 1 with fail
  generalize w.alloc (.cells #[.slice none 0 0, .slice none 0 0, .slice none 0 0, .int .i64 0, .slice none 0 0] 26 (0, 0)) = w0 at *
  go_upto_region 4 with fail
  have x1 := x0.old (ob := .cells #[.slice (some ⟨b, off, none⟩) n c, .int .i64 2] 37 (0, 0))
  have s1 : Hid (Sc w (w0.alloc (.cells #[.slice (some ⟨b, off, none⟩) n c, .int .i64 2] 37 (0, 0))) w0.heap.size (some ⟨b, off, none⟩) n c l 2) :=
    ⟨heap_alloc_new _ _, H.out, y0.alloc y0.size _, by omega, hn, hnc, HCM.out, .inr rfl⟩
  have z1 : (w0.alloc (.cells #[.slice (some ⟨b, off, none⟩) n c, .int .i64 2] 37 (0, 0))).heap.size = w.heap.size + 2 := by simp [hz0]
  generalize (w0.alloc (.cells #[.slice (some ⟨b, off, none⟩) n c, .int .i64 2] 37 (0, 0))) = w1 at *
  clear x0 y0 hx0 hy0
  generalize hgr : w.heap.size = gr at *
  have HGR : Hid (w.heap.size = gr) := hgr
  clear hgr
  rw [hz0] at s1
  have Z1 : Hid (w1.heap.size = gr + 2) := z1
  clear z1
  go_wp2_with fail
  refine (l5textM s1.out).mono ?_
  rintro e w2 ⟨a1, n1, c1, rfl, en, hh, ss, kk⟩
  subst en
  have e1 : getT l 2 = r1 l := rfl
  rw [e1] at *
  clear e1
  have HN2 : Hid ((Fd.b (r1 l).1).Has w2 (gr + 2) (.slice a1 (r1 l).1.length c1)) := by have := Z1.out; rw [this] at hh; exact hh
  have hw2 : gr + 2 ≤ w2.heap.size := by have := kk.size; have := Z1.out; omega
  have x2 := B5.keep x1 kk (by simp)
  have S2 : Hid (Sc w w2 (gr + 1) (some ⟨b, off, none⟩) n c l (r1 l).2) := ss
  clear x1 s1 Z1 hh ss kk
  have x3 := x2.old (ob := .cells #[.slice a1 (r1 l).1.length c1, .slice none 0 0, .slice none 0 0, .int .i64 0, .slice none 0 0] 26 (0, 0))
  have g3 := B5.new w2 26 ⟨.slice a1 (r1 l).1.length c1, .slice none 0 0, .slice none 0 0, .int .i64 0, .slice none 0 0⟩
  have b3 : Below w2.heap.size w2 (w2.alloc (.cells #[.slice a1 (r1 l).1.length c1, .slice none 0 0, .slice none 0 0, .int .i64 0, .slice none 0 0] 26 (0, 0))) := (Below.refl _ _).alloc (Nat.le_refl _) _
  have N3 : Hid ((Fd.b (r1 l).1).Has (w2.alloc (.cells #[.slice a1 (r1 l).1.length c1, .slice none 0 0, .slice none 0 0, .int .i64 0, .slice none 0 0] 26 (0, 0))) (gr + 2) (.slice a1 (r1 l).1.length c1)) := HN2.out.below b3
  have NB : Hid (∀ g, (Value.ownBlock (.slice a1 (r1 l).1.length c1)) = some g → g ≠ w2.heap.size) := fun g hg => by have := (HN2.out.lt g hg).2; omega
  have hz3 : (w2.alloc (.cells #[.slice a1 (r1 l).1.length c1, .slice none 0 0, .slice none 0 0, .int .i64 0, .slice none 0 0] 26 (0, 0))).heap.size = w2.heap.size + 1 := by simp
  have I3 : Hid (RI w (w2.alloc (.cells #[.slice a1 (r1 l).1.length c1, .slice none 0 0, .slice none 0 0, .int .i64 0, .slice none 0 0] 26 (0, 0))) (w2.alloc (.cells #[.slice a1 (r1 l).1.length c1, .slice none 0 0, .slice none 0 0, .int .i64 0, .slice none 0 0] 26 (0, 0))) (gr + 1) w2.heap.size ⟨.slice a1 (r1 l).1.length c1, .slice none 0 0, .slice none 0 0, .int .i64 0, .slice none 0 0⟩ (some ⟨b, off, none⟩) n c l (r1 l).2) :=
    ⟨S2.out.below b3, g3, KeepO.refl _ _, by omega, by rw [hz3]; omega, by have := HGR.out; omega⟩
  go_upto_region 5 with fail
  generalize (w2.alloc (.cells #[.slice a1 (r1 l).1.length c1, .slice none 0 0, .slice none 0 0, .int .i64 0, .slice none 0 0] 26 (0, 0))) = w3 at *
  clear x2 g3 b3 HN2 S2
  have hgo : gr + 2 ≤ w2.heap.size := hw2
  clear hw2
  generalize w2.heap.size = go at *
  have HZ3 : Hid (w3.heap.size = go + 1) := hz3
  clear hz3
  go_wp2_with fail
  refine (l5getM I3.out.sc 8 (by decide)).mono ?_
  rintro e w4 ⟨rfl, ss, kk⟩
  have I4 : Hid (RI w w3 w4 (gr + 1) go ⟨.slice a1 (r1 l).1.length c1, .slice none 0 0, .slice none 0 0, .int .i64 0, .slice none 0 0⟩ (some ⟨b, off, none⟩) n c l (r2 l).2) := I3.out.call ss kk
  have hcn : Hid (((n2 l : Nat) : Int) = (r2 l).1 ∧ n2 l ≤ 8) := by
    have := cnt_num HBY.out (m := 8) (by decide) (r1 l).2
    show ((n2 l : Nat) : Int) = (r2 l).1 ∧ n2 l ≤ 8
    unfold n2 r2
    omega
  have ec : (cnt l 8 (r1 l).2).1 = ((n2 l : Nat) : Int) := hcn.out.1.symm
  rw [ec]
  clear ec ss kk I3
  have hn8 : n2 l ≤ 8 := hcn.out.2
  have A4 : Hid (AL w4 41 w3.heap.size (.slice none 0 0) [] []) := AL.nil _ _ _
  go_wp2_with fail
  go_loopw [7, 8] (fun i x wr => ∃ j : Nat, j ≤ n2 l ∧ i = .int .i64 j ∧ Hid (∃ ae ce le, AL wr 41 w3.heap.size (.slice ae j ce) le (rep (exN l) j (r2 l).2).1 ∧ RI w w3 wr (gr + 1) go ⟨.slice a1 (r1 l).1.length c1, .slice ae j ce, .slice none 0 0, .int .i64 0, .slice none 0 0⟩ (some ⟨b, off, none⟩) n c l (rep (exN l) j (r2 l).2).2)) (fun i _ _ => n2 l - (intOf i).toNat)
  case atStart => exact ⟨0, Nat.zero_le _, rfl, none, 0, [], A4.out, I4.out⟩
  case round =>
    obtain ⟨j, hj, rfl, HR⟩ := hrel
    obtain ⟨ae, ce, le, hA, hI⟩ := HR.out
    clear HR
    obtain ⟨t, ht⟩ : ∃ t, t = (rep (exN l) j (r2 l).2).2 := ⟨_, rfl⟩
    rw [← ht] at hI
    have HT : Hid (t = (rep (exN l) j (r2 l).2).2) := ht
    clear ht
    have hzr : w3.heap.size ≤ wr.heap.size := hI.size
    have hgc := hI.lt
    have HA : Hid (AL wr 41 w3.heap.size (.slice ae j ce) le (rep (exN l) j (r2 l).2).1) := hA
    clear hA
    have HI : Hid (RI w w3 wr (gr + 1) go ⟨.slice a1 (r1 l).1.length c1, .slice ae j ce, .slice none 0 0, .int .i64 0, .slice none 0 0⟩ (some ⟨b, off, none⟩) n c l t) := hI
    clear hI
    have k2 := HI.out.sc.cells.2
    by_cases hgo1 : j < n2 l ∧ 0 ≤ t
    · obtain ⟨hlt1, ht0⟩ := hgo1
      have L0 := l5textM HI.out.sc
      go_wp2_with fail
      refine L0.mono ?_
      rintro e wA ⟨ax, nx, cx, rfl, en, hh, ss, kk⟩
      subst en
      clear L0 k2
      have IA : Hid (RI w w3 wA (gr + 1) go ⟨.slice a1 (r1 l).1.length c1, .slice ae j ce, .slice none 0 0, .int .i64 0, .slice none 0 0⟩ (some ⟨b, off, none⟩) n c l (getT l t).2) := HI.out.call ss kk
      have KA : Hid (KeepO [some (gr + 1)] wr wA) := kk
      have F0 : Hid ((Fd.b (getT l t).1).Has wA wr.heap.size (.slice ax (getT l t).1.length cx)) := hh
      have hA1 : wr.heap.size ≤ wA.heap.size := kk.size
      have B0 : Hid (∀ g, (Value.ownBlock (.slice ax (getT l t).1.length cx)) = some g → wr.heap.size ≤ g ∧ g < wA.heap.size) := fun g hg => hh.lt g hg
      clear hh ss kk
      have X0 : Hid (B3 (wA.alloc (.cells #[.slice ax (getT l t).1.length cx, .int .i64 0, .int .i64 0] 41 (0, 0))) wA.heap.size 41 (.slice ax (getT l t).1.length cx) (.int .i64 0) (.int .i64 0)) := B3.new _ _ _ _ _
      have bB : Below wA.heap.size wA (wA.alloc (.cells #[.slice ax (getT l t).1.length cx, .int .i64 0, .int .i64 0] 41 (0, 0))) := (Below.refl _ _).alloc (Nat.le_refl _) _
      have IB : Hid (RI w w3 (wA.alloc (.cells #[.slice ax (getT l t).1.length cx, .int .i64 0, .int .i64 0] 41 (0, 0))) (gr + 1) go ⟨.slice a1 (r1 l).1.length c1, .slice ae j ce, .slice none 0 0, .int .i64 0, .slice none 0 0⟩ (some ⟨b, off, none⟩) n c l (getT l t).2) := IA.out.below bB
      have F1 : Hid ((Fd.b (getT l t).1).Has (wA.alloc (.cells #[.slice ax (getT l t).1.length cx, .int .i64 0, .int .i64 0] 41 (0, 0))) wr.heap.size (.slice ax (getT l t).1.length cx)) := F0.out.below bB
      have KB : Hid (KeepO [some (gr + 1)] wr (wA.alloc (.cells #[.slice ax (getT l t).1.length cx, .int .i64 0, .int .i64 0] 41 (0, 0)))) := KA.out.trans (Below.keepO bB _)
      have hB1 : wA.heap.size < (wA.alloc (.cells #[.slice ax (getT l t).1.length cx, .int .i64 0, .int .i64 0] 41 (0, 0))).heap.size := by simp
      go_upto_region 10 with fail
      generalize wA.alloc (.cells #[.slice ax (getT l t).1.length cx, .int .i64 0, .int .i64 0] 41 (0, 0)) = wB at *
      clear IA KA F0 bB
      generalize hgx : wA.heap.size = gx at *
      clear hgx
      have L1 := l5getM IB.out.sc 2147483647 (by decide)
      rw [cnt_max HBY.out] at L1
      go_wp2_with fail
      refine L1.mono ?_
      rintro e wC ⟨rfl, ss, kk⟩
      clear L1
      have I1 : Hid (RI w w3 wC (gr + 1) go ⟨.slice a1 (r1 l).1.length c1, .slice ae j ce, .slice none 0 0, .int .i64 0, .slice none 0 0⟩ (some ⟨b, off, none⟩) n c l (getL l (getT l t).2).2) := IB.out.call ss kk
      have K1 : Hid (KeepO [some (gr + 1)] wr wC) := KB.out.trans kk
      have hs1 : wB.heap.size ≤ wC.heap.size := kk.size
      have X1 : Hid (B3 wC gx 41 (.slice ax (getT l t).1.length cx) (.int .i64 0) (.int .i64 0)) := X0.out.keep kk (by simp; omega)
      have G1 : Hid ((Fd.b (getT l t).1).Has wC wr.heap.size (.slice ax (getT l t).1.length cx)) := F1.out.keep kk (.inr (by intro e; simp at e; have := B0.out _ e; omega))
      clear ss kk IB KB F1 X0
      obtain ⟨f0, f1, f2, e0, e1, e2⟩ := X1.out.facts
      go_upto_region 11 with fail
      have J1 : Hid (RI w w3 (wC.setCell ⟨gx, 1, none⟩ (.int .i64 (getL l (getT l t).2).1)) (gr + 1) go ⟨.slice a1 (r1 l).1.length c1, .slice ae j ce, .slice none 0 0, .int .i64 0, .slice none 0 0⟩ (some ⟨b, off, none⟩) n c l (getL l (getT l t).2).2) := I1.out.other (by omega) _ _
      have M1 : Hid (KeepO [some (gr + 1)] wr (wC.setCell ⟨gx, 1, none⟩ (.int .i64 (getL l (getT l t).2).1))) := K1.out.put (by omega) _ _
      have U1 : Hid (B3 (wC.setCell ⟨gx, 1, none⟩ (.int .i64 (getL l (getT l t).2).1)) gx 41 (.slice ax (getT l t).1.length cx) (.int .i64 (getL l (getT l t).2).1) (.int .i64 0)) := X1.out.set1 _
      have V1 : Hid ((Fd.b (getT l t).1).Has (wC.setCell ⟨gx, 1, none⟩ (.int .i64 (getL l (getT l t).2).1)) wr.heap.size (.slice ax (getT l t).1.length cx)) := G1.out.other (by intro e; have := B0.out _ e; omega)
      have hs1x : (wC.setCell ⟨gx, 1, none⟩ (.int .i64 (getL l (getT l t).2).1)).heap.size ≤ wC.heap.size ∧ wC.heap.size ≤ (wC.setCell ⟨gx, 1, none⟩ (.int .i64 (getL l (getT l t).2).1)).heap.size := by simp
      clear f0 f1 f2 e0 e1 e2 I1 K1 X1 G1
      generalize (wC.setCell ⟨gx, 1, none⟩ (.int .i64 (getL l (getT l t).2).1)) = wCx at *
      have L2 := l5getM J1.out.sc 2147483647 (by decide)
      rw [cnt_max HBY.out] at L2
      go_wp2_with fail
      refine L2.mono ?_
      rintro e wD ⟨rfl, ss, kk⟩
      clear L2
      have I2 : Hid (RI w w3 wD (gr + 1) go ⟨.slice a1 (r1 l).1.length c1, .slice ae j ce, .slice none 0 0, .int .i64 0, .slice none 0 0⟩ (some ⟨b, off, none⟩) n c l (getL l (getL l (getT l t).2).2).2) := J1.out.call ss kk
      have K2 : Hid (KeepO [some (gr + 1)] wr wD) := M1.out.trans kk
      have hs2 : wCx.heap.size ≤ wD.heap.size := kk.size
      have X2 : Hid (B3 wD gx 41 (.slice ax (getT l t).1.length cx) (.int .i64 (getL l (getT l t).2).1) (.int .i64 0)) := U1.out.keep kk (by simp; omega)
      have G2 : Hid ((Fd.b (getT l t).1).Has wD wr.heap.size (.slice ax (getT l t).1.length cx)) := V1.out.keep kk (.inr (by intro e; simp at e; have := B0.out _ e; omega))
      clear ss kk J1 M1 V1 U1
      obtain ⟨f0, f1, f2, e0, e1, e2⟩ := X2.out.facts
      go_upto_region 12 with fail
      have J2 : Hid (RI w w3 (wD.setCell ⟨gx, 2, none⟩ (.int .i64 (getL l (getL l (getT l t).2).2).1)) (gr + 1) go ⟨.slice a1 (r1 l).1.length c1, .slice ae j ce, .slice none 0 0, .int .i64 0, .slice none 0 0⟩ (some ⟨b, off, none⟩) n c l (getL l (getL l (getT l t).2).2).2) := I2.out.other (by omega) _ _
      have M2 : Hid (KeepO [some (gr + 1)] wr (wD.setCell ⟨gx, 2, none⟩ (.int .i64 (getL l (getL l (getT l t).2).2).1))) := K2.out.put (by omega) _ _
      have U2 : Hid (B3 (wD.setCell ⟨gx, 2, none⟩ (.int .i64 (getL l (getL l (getT l t).2).2).1)) gx 41 (.slice ax (getT l t).1.length cx) (.int .i64 (getL l (getT l t).2).1) (.int .i64 (getL l (getL l (getT l t).2).2).1)) := X2.out.set2 _
      have V2 : Hid ((Fd.b (getT l t).1).Has (wD.setCell ⟨gx, 2, none⟩ (.int .i64 (getL l (getL l (getT l t).2).2).1)) wr.heap.size (.slice ax (getT l t).1.length cx)) := G2.out.other (by intro e; have := B0.out _ e; omega)
      have hs2x : (wD.setCell ⟨gx, 2, none⟩ (.int .i64 (getL l (getL l (getT l t).2).2).1)).heap.size ≤ wD.heap.size ∧ wD.heap.size ≤ (wD.setCell ⟨gx, 2, none⟩ (.int .i64 (getL l (getL l (getT l t).2).2).1)).heap.size := by simp
      clear f0 f1 f2 e0 e1 e2 I2 K2 X2 G2
      generalize (wD.setCell ⟨gx, 2, none⟩ (.int .i64 (getL l (getL l (getT l t).2).2).1)) = wDx at *
      have HHs : Hid (Hs wDx wr.heap.size ⟨.slice ax (getT l t).1.length cx, .int .i64 (getL l (getT l t).2).1, .int .i64 (getL l (getL l (getT l t).2).2).1⟩ (exN l t).1) := ⟨V2.out, rfl, rfl⟩
      have HBk : Hid (Bk wr.heap.size wDx.heap.size (R3.owns ⟨.slice ax (getT l t).1.length cx, .int .i64 (getL l (getT l t).2).1, .int .i64 (getL l (getL l (getT l t).2).2).1⟩)) := bk_one (fun g hg => by have := B0.out g hg; omega) rfl rfl
      have hone := HHs.out.oneE
      obtain ⟨q0, q1, q2, _, _, _⟩ := U2.out.facts
      obtain ⟨p0, p1, p2, p3, p4⟩ := J2.out.g.facts
      simp only at p0 p1 p2 p3 p4
      have x5 := B3.new wDx 41 (.slice ax (getT l t).1.length cx) (.int .i64 (getL l (getT l t).2).1) (.int .i64 (getL l (getL l (getT l t).2).2).1)
      have y5 : Below wDx.heap.size wDx (wDx.alloc (.cells #[.slice ax (getT l t).1.length cx, .int .i64 (getL l (getT l t).2).1, .int .i64 (getL l (getL l (getT l t).2).2).1] 41 (0, 0))) := (Below.refl _ _).alloc (Nat.le_refl _) _
      have hsm : Same w3.heap.size wr wDx := M2.out.same (by omega)
      have HSM : Hid (Same w3.heap.size wr wDx) := hsm
      clear hsm
      have HO : Hid ((wDx.alloc (.cells #[.slice ax (getT l t).1.length cx, .int .i64 (getL l (getT l t).2).1, .int .i64 (getL l (getL l (getT l t).2).2).1] 41 (0, 0))).ownsRow w3.heap.size 41 3 (.slice ae j ce) j (flat3 le)) := by
        have h1 := (((HA.out.same HSM.out).below y5).own).row
        rwa [rep_len] at h1
      have hcu : w3.heap.size ≤ wDx.heap.size := by omega
      go_wp2_with (at_builtin; refine wpList_appendE rfl _ _ rfl w3.heap.size _ j le rfl HO.out wDx.heap.size ⟨.slice ax (getT l t).1.length cx, .int .i64 (getL l (getT l t).2).1, .int .i64 (getL l (getL l (getT l t).2).2).1⟩ rfl x5 hone (by omega) (by simp; omega) ?_)
      intro v3 w7 ho3 hg3
      have hA3 : AL w7 41 w3.heap.size v3 (le ++ [⟨.slice ax (getT l t).1.length cx, .int .i64 (getL l (getT l t).2).1, .int .i64 (getL l (getL l (getT l t).2).2).1⟩]) ((rep (exN l) j (r2 l).2).1 ++ [(exN l t).1]) :=
        HA.out.step (by decide) HSM.out hzr HHs.out HBk.out y5 (by rw [rep_len]; exact ho3) hg3
      have hI3 : RI w w3 w7 (gr + 1) go ⟨.slice a1 (r1 l).1.length c1, .slice ae j ce, .slice none 0 0, .int .i64 0, .slice none 0 0⟩ (some ⟨b, off, none⟩) n c l (exN l t).2 := (J2.out.below y5).grown hg3 HA.out.ge
      obtain ⟨a3, c3, e3, _⟩ := hA3.shape
      have e3v : v3 = .slice a3 (j + 1) c3 := by rw [e3]; simp [rep_len]
      subst e3v
      obtain ⟨m0, m1, m2, m3, m4⟩ := hI3.g.facts
      obtain ⟨n0, n1, n2, n3, n4⟩ := hI3.g.frozen
      simp only at m0 m1 m2 m3 m4
      have hI4 : RI w w3 (w7.setCell ⟨go, 1, none⟩ (.slice a3 (j + 1) c3)) (gr + 1) go ⟨.slice a1 (r1 l).1.length c1, .slice a3 (j + 1) c3, .slice none 0 0, .int .i64 0, .slice none 0 0⟩ (some ⟨b, off, none⟩) n c l (exN l t).2 := hI3.set (hI3.g.set1 _)
      have hA4 : AL (w7.setCell ⟨go, 1, none⟩ (.slice a3 (j + 1) c3)) 41 w3.heap.size (.slice a3 (j + 1) c3) (le ++ [⟨.slice ax (getT l t).1.length cx, .int .i64 (getL l (getT l t).2).1, .int .i64 (getL l (getL l (getT l t).2).2).1⟩]) ((rep (exN l) j (r2 l).2).1 ++ [(exN l t).1]) := hA3.same (Same.put (by omega))
      rw [HT.out] at hI4 hA4
      have HF : Hid (∃ ae ce le, AL (w7.setCell ⟨go, 1, none⟩ (.slice a3 (j + 1) c3)) 41 w3.heap.size (.slice ae (j + 1) ce) le (rep (exN l) (j + 1) (r2 l).2).1 ∧ RI w w3 (w7.setCell ⟨go, 1, none⟩ (.slice a3 (j + 1) c3)) (gr + 1) go ⟨.slice a1 (r1 l).1.length c1, .slice ae (j + 1) ce, .slice none 0 0, .int .i64 0, .slice none 0 0⟩ (some ⟨b, off, none⟩) n c l (rep (exN l) (j + 1) (r2 l).2).2) := ⟨_, _, _, hA4, hI4⟩
      clear hA3 hI3 hI4 hA4 ho3 hg3 HO x5 y5 HA HI HHs HBk HSM hone e3 q0 q1 q2 p0 p1 p2 p3 p4
      go_wp2_with fail
      go_roundw
      case rel => exact ⟨j + 1, by omega, by go_num, HF⟩
      case measure => simp [intOf]; omega
    · have HE1 : Hid ((t < 0 ∧ (r3 l).2 < 0) ∨ ((rep (exN l) j (r2 l).2).1, t) = r3 l) := by
        show (t < 0 ∧ (r3 l).2 < 0) ∨ ((rep (exN l) j (r2 l).2).1, t) = r3 l
        by_cases hq : j < n2 l
        · have ht : t < 0 := by have := fun h => hgo1 ⟨hq, h⟩; omega
          exact .inl ⟨ht, rep_neg (fun t h => exN_neg h) (Nat.le_of_lt hq) (by rw [← HT.out]; exact ht)⟩
        · have hq2 : j = n2 l := by omega
          right
          rw [HT.out, hq2]
          rfl
      by_cases hq : j < n2 l
      · have ht : t < 0 := by have := fun h => hgo1 ⟨hq, h⟩; omega
        clear hgo1
        go_upto_region 13 with fail
        have L9 := l5getM HI.out.sc 8 (by decide)
        go_wp2_with fail
        refine L9.mono ?_
        rintro e w5 ⟨rfl, ss, kk⟩
        obtain ⟨m2, hm2⟩ : ∃ m2 : Nat, m2 = (cnt l 8 t).1.toNat := ⟨_, rfl⟩
        have hcn2 := cnt_num HBY.out (m := 8) (by decide) t
        have hm8 : m2 ≤ 8 := by omega
        have ec : (cnt l 8 t).1 = ((m2 : Nat) : Int) := by omega
        rw [ec]
        obtain ⟨t4, ht4⟩ : ∃ t4, t4 = (cnt l 8 t).2 := ⟨_, rfl⟩
        rw [← ht4] at ss
        have HM2 : Hid (m2 = (cnt l 8 t).1.toNat ∧ t4 = (cnt l 8 t).2) := ⟨hm2, ht4⟩
        clear hm2 ht4 hcn2 ec L9 k2
        have hzA : wr.heap.size ≤ w5.heap.size := kk.size
        have I5' : RI w w3 w5 (gr + 1) go ⟨.slice a1 (r1 l).1.length c1, .slice ae j ce, .slice none 0 0, .int .i64 0, .slice none 0 0⟩ (some ⟨b, off, none⟩) n c l t4 := HI.out.call ss kk
        have I5 : Hid (RI w w5 w5 (gr + 1) go ⟨.slice a1 (r1 l).1.length c1, .slice ae j ce, .slice none 0 0, .int .i64 0, .slice none 0 0⟩ (some ⟨b, off, none⟩) n c l t4) := I5'.restart
        have N5 : Hid ((Fd.b (r1 l).1).Has w5 (gr + 2) (.slice a1 (r1 l).1.length c1)) := N3.out.keep2 I5'.k (by omega) NB.out
        have R5 : Hid (B5 w5 gr 26 ⟨.slice none 0 0, .slice none 0 0, .slice none 0 0, .int .i64 0, .slice none 0 0⟩) := B5.keep x3 I5'.k (by simp; omega)
        have E5 : Hid (AL w5 41 w3.heap.size (.slice ae j ce) le (rep (exN l) j (r2 l).2).1) := HA.out.keep2 (kk.more (os' := [some (gr + 1), some go]) (by simp)) (by omega) (by omega)
        have A5 : Hid (AL w5 43 w5.heap.size (.slice none 0 0) [] []) := AL.nil _ _ _
        clear I5' ss kk HI HA
        go_wp2_with fail
        go_loopw [9, 10] (fun i x wr => ∃ j2 : Nat, j2 ≤ m2 ∧ i = .int .i64 j2 ∧ Hid (∃ ai ci li, AL wr 43 w5.heap.size (.slice ai j2 ci) li (rep (imN l) j2 t4).1 ∧ RI w w5 wr (gr + 1) go ⟨.slice a1 (r1 l).1.length c1, .slice ae j ce, .slice ai j2 ci, .int .i64 0, .slice none 0 0⟩ (some ⟨b, off, none⟩) n c l (rep (imN l) j2 t4).2)) (fun i _ _ => m2 - (intOf i).toNat)
        case atStart => exact ⟨0, Nat.zero_le _, rfl, none, 0, [], A5.out, I5.out⟩
        case round =>
          obtain ⟨j2, hj2, rfl, HR⟩ := hrel
          obtain ⟨ai, ci, li, hA, hI⟩ := HR.out
          clear HR
          obtain ⟨t2, ht⟩ : ∃ t2, t2 = (rep (imN l) j2 t4).2 := ⟨_, rfl⟩
          rw [← ht] at hI
          have HT2 : Hid (t2 = (rep (imN l) j2 t4).2) := ht
          clear ht
          have hzr2 : w5.heap.size ≤ wr.heap.size := hI.size
          have hgc2 := hI.lt
          have HA2 : Hid (AL wr 43 w5.heap.size (.slice ai j2 ci) li (rep (imN l) j2 t4).1) := hA
          clear hA
          have HI2 : Hid (RI w w5 wr (gr + 1) go ⟨.slice a1 (r1 l).1.length c1, .slice ae j ce, .slice ai j2 ci, .int .i64 0, .slice none 0 0⟩ (some ⟨b, off, none⟩) n c l t2) := hI
          clear hI
          have k2 := HI2.out.sc.cells.2
          by_cases hgo1 : j2 < m2 ∧ 0 ≤ t2
          · obtain ⟨hlt1, ht0⟩ := hgo1
            have L0 := l5textM HI2.out.sc
            go_wp2_with fail
            refine L0.mono ?_
            rintro e wA ⟨ax, nx, cx, rfl, en, hh, ss, kk⟩
            subst en
            clear L0 k2
            have IA : Hid (RI w w5 wA (gr + 1) go ⟨.slice a1 (r1 l).1.length c1, .slice ae j ce, .slice ai j2 ci, .int .i64 0, .slice none 0 0⟩ (some ⟨b, off, none⟩) n c l (getT l t2).2) := HI2.out.call ss kk
            have KA : Hid (KeepO [some (gr + 1)] wr wA) := kk
            have F0 : Hid ((Fd.b (getT l t2).1).Has wA wr.heap.size (.slice ax (getT l t2).1.length cx)) := hh
            have hA1 : wr.heap.size ≤ wA.heap.size := kk.size
            have B0 : Hid (∀ g, (Value.ownBlock (.slice ax (getT l t2).1.length cx)) = some g → wr.heap.size ≤ g ∧ g < wA.heap.size) := fun g hg => hh.lt g hg
            clear hh ss kk
            have X0 : Hid (B3 (wA.alloc (.cells #[.slice ax (getT l t2).1.length cx, .slice none 0 0, .int .i64 0] 43 (0, 0))) wA.heap.size 43 (.slice ax (getT l t2).1.length cx) (.slice none 0 0) (.int .i64 0)) := B3.new _ _ _ _ _
            have bB : Below wA.heap.size wA (wA.alloc (.cells #[.slice ax (getT l t2).1.length cx, .slice none 0 0, .int .i64 0] 43 (0, 0))) := (Below.refl _ _).alloc (Nat.le_refl _) _
            have IB : Hid (RI w w5 (wA.alloc (.cells #[.slice ax (getT l t2).1.length cx, .slice none 0 0, .int .i64 0] 43 (0, 0))) (gr + 1) go ⟨.slice a1 (r1 l).1.length c1, .slice ae j ce, .slice ai j2 ci, .int .i64 0, .slice none 0 0⟩ (some ⟨b, off, none⟩) n c l (getT l t2).2) := IA.out.below bB
            have F1 : Hid ((Fd.b (getT l t2).1).Has (wA.alloc (.cells #[.slice ax (getT l t2).1.length cx, .slice none 0 0, .int .i64 0] 43 (0, 0))) wr.heap.size (.slice ax (getT l t2).1.length cx)) := F0.out.below bB
            have KB : Hid (KeepO [some (gr + 1)] wr (wA.alloc (.cells #[.slice ax (getT l t2).1.length cx, .slice none 0 0, .int .i64 0] 43 (0, 0)))) := KA.out.trans (Below.keepO bB _)
            have hB1 : wA.heap.size < (wA.alloc (.cells #[.slice ax (getT l t2).1.length cx, .slice none 0 0, .int .i64 0] 43 (0, 0))).heap.size := by simp
            go_upto_region 18 with fail
            generalize wA.alloc (.cells #[.slice ax (getT l t2).1.length cx, .slice none 0 0, .int .i64 0] 43 (0, 0)) = wB at *
            clear IA KA F0 bB
            generalize hgx : wA.heap.size = gx at *
            clear hgx
            have L1 := l5textM IB.out.sc
            go_wp2_with fail
            refine L1.mono ?_
            rintro e wC ⟨ay, ny, cy, rfl, en, hh, ss, kk⟩
            subst en
            clear L1
            have B1 : Hid (∀ g, (Value.ownBlock (.slice ay (getT l (getT l t2).2).1.length cy)) = some g → wB.heap.size ≤ g ∧ g < wC.heap.size) := fun g hg => hh.lt g hg
            have I1 : Hid (RI w w5 wC (gr + 1) go ⟨.slice a1 (r1 l).1.length c1, .slice ae j ce, .slice ai j2 ci, .int .i64 0, .slice none 0 0⟩ (some ⟨b, off, none⟩) n c l (getT l (getT l t2).2).2) := IB.out.call ss kk
            have K1 : Hid (KeepO [some (gr + 1)] wr wC) := KB.out.trans kk
            have hs1 : wB.heap.size ≤ wC.heap.size := kk.size
            have X1 : Hid (B3 wC gx 43 (.slice ax (getT l t2).1.length cx) (.slice none 0 0) (.int .i64 0)) := X0.out.keep kk (by simp; omega)
            have G1 : Hid ((Fd.b (getT l t2).1).Has wC wr.heap.size (.slice ax (getT l t2).1.length cx)) := F1.out.keep kk (.inr (by intro e; simp at e; have := B0.out _ e; omega))
            have Y1 : Hid ((Fd.b (getT l (getT l t2).2).1).Has wC wB.heap.size (.slice ay (getT l (getT l t2).2).1.length cy)) := hh
            clear ss kk IB KB F1 X0 hh
            obtain ⟨f0, f1, f2, e0, e1, e2⟩ := X1.out.facts
            go_upto_region 19 with fail
            have J1 : Hid (RI w w5 (wC.setCell ⟨gx, 1, none⟩ (.slice ay (getT l (getT l t2).2).1.length cy)) (gr + 1) go ⟨.slice a1 (r1 l).1.length c1, .slice ae j ce, .slice ai j2 ci, .int .i64 0, .slice none 0 0⟩ (some ⟨b, off, none⟩) n c l (getT l (getT l t2).2).2) := I1.out.other (by omega) _ _
            have M1 : Hid (KeepO [some (gr + 1)] wr (wC.setCell ⟨gx, 1, none⟩ (.slice ay (getT l (getT l t2).2).1.length cy))) := K1.out.put (by omega) _ _
            have U1 : Hid (B3 (wC.setCell ⟨gx, 1, none⟩ (.slice ay (getT l (getT l t2).2).1.length cy)) gx 43 (.slice ax (getT l t2).1.length cx) (.slice ay (getT l (getT l t2).2).1.length cy) (.int .i64 0)) := X1.out.set1 _
            have V1 : Hid ((Fd.b (getT l t2).1).Has (wC.setCell ⟨gx, 1, none⟩ (.slice ay (getT l (getT l t2).2).1.length cy)) wr.heap.size (.slice ax (getT l t2).1.length cx)) := G1.out.other (by intro e; have := B0.out _ e; omega)
            have W1 : Hid ((Fd.b (getT l (getT l t2).2).1).Has (wC.setCell ⟨gx, 1, none⟩ (.slice ay (getT l (getT l t2).2).1.length cy)) wB.heap.size (.slice ay (getT l (getT l t2).2).1.length cy)) := Y1.out.other (by intro e; have := B1.out _ e; omega)
            have hs1x : (wC.setCell ⟨gx, 1, none⟩ (.slice ay (getT l (getT l t2).2).1.length cy)).heap.size ≤ wC.heap.size ∧ wC.heap.size ≤ (wC.setCell ⟨gx, 1, none⟩ (.slice ay (getT l (getT l t2).2).1.length cy)).heap.size := by simp
            clear f0 f1 f2 e0 e1 e2 I1 K1 X1 G1 Y1
            generalize (wC.setCell ⟨gx, 1, none⟩ (.slice ay (getT l (getT l t2).2).1.length cy)) = wCx at *
            have L2 := l5getM J1.out.sc 2147483647 (by decide)
            rw [cnt_max HBY.out] at L2
            go_wp2_with fail
            refine L2.mono ?_
            rintro e wD ⟨rfl, ss, kk⟩
            clear L2
            have I2 : Hid (RI w w5 wD (gr + 1) go ⟨.slice a1 (r1 l).1.length c1, .slice ae j ce, .slice ai j2 ci, .int .i64 0, .slice none 0 0⟩ (some ⟨b, off, none⟩) n c l (getL l (getT l (getT l t2).2).2).2) := J1.out.call ss kk
            have K2 : Hid (KeepO [some (gr + 1)] wr wD) := M1.out.trans kk
            have hs2 : wCx.heap.size ≤ wD.heap.size := kk.size
            have X2 : Hid (B3 wD gx 43 (.slice ax (getT l t2).1.length cx) (.slice ay (getT l (getT l t2).2).1.length cy) (.int .i64 0)) := U1.out.keep kk (by simp; omega)
            have G2 : Hid ((Fd.b (getT l t2).1).Has wD wr.heap.size (.slice ax (getT l t2).1.length cx)) := V1.out.keep kk (.inr (by intro e; simp at e; have := B0.out _ e; omega))
            have Y2 : Hid ((Fd.b (getT l (getT l t2).2).1).Has wD wB.heap.size (.slice ay (getT l (getT l t2).2).1.length cy)) := W1.out.keep kk (.inr (by intro e; simp at e; have := B1.out _ e; omega))
            clear ss kk J1 M1 V1 U1 W1
            obtain ⟨f0, f1, f2, e0, e1, e2⟩ := X2.out.facts
            go_upto_region 20 with fail
            have J2 : Hid (RI w w5 (wD.setCell ⟨gx, 2, none⟩ (.int .i64 (getL l (getT l (getT l t2).2).2).1)) (gr + 1) go ⟨.slice a1 (r1 l).1.length c1, .slice ae j ce, .slice ai j2 ci, .int .i64 0, .slice none 0 0⟩ (some ⟨b, off, none⟩) n c l (getL l (getT l (getT l t2).2).2).2) := I2.out.other (by omega) _ _
            have M2 : Hid (KeepO [some (gr + 1)] wr (wD.setCell ⟨gx, 2, none⟩ (.int .i64 (getL l (getT l (getT l t2).2).2).1))) := K2.out.put (by omega) _ _
            have U2 : Hid (B3 (wD.setCell ⟨gx, 2, none⟩ (.int .i64 (getL l (getT l (getT l t2).2).2).1)) gx 43 (.slice ax (getT l t2).1.length cx) (.slice ay (getT l (getT l t2).2).1.length cy) (.int .i64 (getL l (getT l (getT l t2).2).2).1)) := X2.out.set2 _
            have V2 : Hid ((Fd.b (getT l t2).1).Has (wD.setCell ⟨gx, 2, none⟩ (.int .i64 (getL l (getT l (getT l t2).2).2).1)) wr.heap.size (.slice ax (getT l t2).1.length cx)) := G2.out.other (by intro e; have := B0.out _ e; omega)
            have W2 : Hid ((Fd.b (getT l (getT l t2).2).1).Has (wD.setCell ⟨gx, 2, none⟩ (.int .i64 (getL l (getT l (getT l t2).2).2).1)) wB.heap.size (.slice ay (getT l (getT l t2).2).1.length cy)) := Y2.out.other (by intro e; have := B1.out _ e; omega)
            have hs2x : (wD.setCell ⟨gx, 2, none⟩ (.int .i64 (getL l (getT l (getT l t2).2).2).1)).heap.size ≤ wD.heap.size ∧ wD.heap.size ≤ (wD.setCell ⟨gx, 2, none⟩ (.int .i64 (getL l (getT l (getT l t2).2).2).1)).heap.size := by simp
            clear f0 f1 f2 e0 e1 e2 I2 K2 X2 G2 Y2
            generalize (wD.setCell ⟨gx, 2, none⟩ (.int .i64 (getL l (getT l (getT l t2).2).2).1)) = wDx at *
            have HHs : Hid (Hs wDx wr.heap.size ⟨.slice ax (getT l t2).1.length cx, .slice ay (getT l (getT l t2).2).1.length cy, .int .i64 (getL l (getT l (getT l t2).2).2).1⟩ (imN l t2).1) := ⟨V2.out, W2.out.mono (by omega), rfl⟩
            have HBk : Hid (Bk wr.heap.size wDx.heap.size (R3.owns ⟨.slice ax (getT l t2).1.length cx, .slice ay (getT l (getT l t2).2).1.length cy, .int .i64 (getL l (getT l (getT l t2).2).2).1⟩)) := bk_two (mid := wB.heap.size) (fun g hg => by have := B0.out g hg; omega) (fun g hg => by have := B1.out g hg; omega) (by omega) (by omega) rfl
            have hone := HHs.out.oneE
            obtain ⟨q0, q1, q2, _, _, _⟩ := U2.out.facts
            obtain ⟨p0, p1, p2, p3, p4⟩ := J2.out.g.facts
            simp only at p0 p1 p2 p3 p4
            have x5 := B3.new wDx 43 (.slice ax (getT l t2).1.length cx) (.slice ay (getT l (getT l t2).2).1.length cy) (.int .i64 (getL l (getT l (getT l t2).2).2).1)
            have y5 : Below wDx.heap.size wDx (wDx.alloc (.cells #[.slice ax (getT l t2).1.length cx, .slice ay (getT l (getT l t2).2).1.length cy, .int .i64 (getL l (getT l (getT l t2).2).2).1] 43 (0, 0))) := (Below.refl _ _).alloc (Nat.le_refl _) _
            have hsm : Same w5.heap.size wr wDx := M2.out.same (by omega)
            have HSM : Hid (Same w5.heap.size wr wDx) := hsm
            clear hsm
            have HO : Hid ((wDx.alloc (.cells #[.slice ax (getT l t2).1.length cx, .slice ay (getT l (getT l t2).2).1.length cy, .int .i64 (getL l (getT l (getT l t2).2).2).1] 43 (0, 0))).ownsRow w5.heap.size 43 3 (.slice ai j2 ci) j2 (flat3 li)) := by
              have h1 := (((HA2.out.same HSM.out).below y5).own).row
              rwa [rep_len] at h1
            have hcu : w5.heap.size ≤ wDx.heap.size := by omega
            go_wp2_with (at_builtin; refine wpList_appendM rfl _ _ rfl w5.heap.size _ j2 li rfl HO.out wDx.heap.size ⟨.slice ax (getT l t2).1.length cx, .slice ay (getT l (getT l t2).2).1.length cy, .int .i64 (getL l (getT l (getT l t2).2).2).1⟩ rfl x5 hone (by omega) (by simp; omega) ?_)
            intro v3 w7 ho3 hg3
            have hA3 : AL w7 43 w5.heap.size v3 (li ++ [⟨.slice ax (getT l t2).1.length cx, .slice ay (getT l (getT l t2).2).1.length cy, .int .i64 (getL l (getT l (getT l t2).2).2).1⟩]) ((rep (imN l) j2 t4).1 ++ [(imN l t2).1]) :=
              HA2.out.step (by decide) HSM.out hzr2 HHs.out HBk.out y5 (by rw [rep_len]; exact ho3) hg3
            have hI3 : RI w w5 w7 (gr + 1) go ⟨.slice a1 (r1 l).1.length c1, .slice ae j ce, .slice ai j2 ci, .int .i64 0, .slice none 0 0⟩ (some ⟨b, off, none⟩) n c l (imN l t2).2 := (J2.out.below y5).grown hg3 HA2.out.ge
            obtain ⟨a3, c3, e3, _⟩ := hA3.shape
            have e3v : v3 = .slice a3 (j2 + 1) c3 := by rw [e3]; simp [rep_len]
            subst e3v
            obtain ⟨m0, m1, m2, m3, m4⟩ := hI3.g.facts
            obtain ⟨n0, n1, n2, n3, n4⟩ := hI3.g.frozen
            simp only at m0 m1 m2 m3 m4
            have hI4 : RI w w5 (w7.setCell ⟨go, 2, none⟩ (.slice a3 (j2 + 1) c3)) (gr + 1) go ⟨.slice a1 (r1 l).1.length c1, .slice ae j ce, .slice a3 (j2 + 1) c3, .int .i64 0, .slice none 0 0⟩ (some ⟨b, off, none⟩) n c l (imN l t2).2 := hI3.set (hI3.g.set2 _)
            have hA4 : AL (w7.setCell ⟨go, 2, none⟩ (.slice a3 (j2 + 1) c3)) 43 w5.heap.size (.slice a3 (j2 + 1) c3) (li ++ [⟨.slice ax (getT l t2).1.length cx, .slice ay (getT l (getT l t2).2).1.length cy, .int .i64 (getL l (getT l (getT l t2).2).2).1⟩]) ((rep (imN l) j2 t4).1 ++ [(imN l t2).1]) := hA3.same (Same.put (by omega))
            rw [HT2.out] at hI4 hA4
            have HF : Hid (∃ ai ci li, AL (w7.setCell ⟨go, 2, none⟩ (.slice a3 (j2 + 1) c3)) 43 w5.heap.size (.slice ai (j2 + 1) ci) li (rep (imN l) (j2 + 1) t4).1 ∧ RI w w5 (w7.setCell ⟨go, 2, none⟩ (.slice a3 (j2 + 1) c3)) (gr + 1) go ⟨.slice a1 (r1 l).1.length c1, .slice ae j ce, .slice ai (j2 + 1) ci, .int .i64 0, .slice none 0 0⟩ (some ⟨b, off, none⟩) n c l (rep (imN l) (j2 + 1) t4).2) := ⟨_, _, _, hA4, hI4⟩
            clear hA3 hI3 hI4 hA4 ho3 hg3 HO x5 y5 HA2 HI2 HHs HBk HSM hone e3 q0 q1 q2 p0 p1 p2 p3 p4
            go_wp2_with fail
            go_roundw
            case rel => exact ⟨j2 + 1, by omega, by go_num, HF⟩
            case measure => simp [intOf]; omega
          · have HE2 : Hid ((t2 < 0 ∧ (rep (imN l) m2 t4).2 < 0) ∨ ((rep (imN l) j2 t4).1, t2) = rep (imN l) m2 t4) := by
              show (t2 < 0 ∧ (rep (imN l) m2 t4).2 < 0) ∨ ((rep (imN l) j2 t4).1, t2) = rep (imN l) m2 t4
              by_cases hq : j2 < m2
              · have ht : t2 < 0 := by have := fun h => hgo1 ⟨hq, h⟩; omega
                exact .inl ⟨ht, rep_neg (fun t h => imN_neg h) (Nat.le_of_lt hq) (by rw [← HT2.out]; exact ht)⟩
              · obtain rfl : j2 = m2 := by omega
                right
                rw [HT2.out]
            by_cases hq : j2 < m2
            · have ht : t2 < 0 := by have := fun h => hgo1 ⟨hq, h⟩; omega
              clear hgo1
              go_upto_region 21 with fail
              have K6 : Hid (KeepO [some (gr + 1), some go] w5 wr) := HI2.out.k
              have L9 := l5getM HI2.out.sc 200 (by decide)
              go_wp2_with fail
              refine L9.mono ?_
              rintro e w6 ⟨rfl, ss, kk⟩
              have I6 : Hid (RI w wr w6 (gr + 1) go ⟨.slice a1 (r1 l).1.length c1, .slice ae j ce, .slice ai j2 ci, .int .i64 0, .slice none 0 0⟩ (some ⟨b, off, none⟩) n c l (cnt l 200 t2).2) := (HI2.out.restart).call ss kk
              clear L9 k2 ss kk
              obtain ⟨_, _, _, _, _⟩ := I6.out.g.facts
              obtain ⟨f0, f1, f2, f3, f4⟩ := I6.out.g.frozen
              go_upto_region 22 with fail
              have I7 : Hid (RI w wr (w6.setCell ⟨go, 3, none⟩ (.int .i64 (cnt l 200 t2).1)) (gr + 1) go ⟨.slice a1 (r1 l).1.length c1, .slice ae j ce, .slice ai j2 ci, .int .i64 (cnt l 200 t2).1, .slice none 0 0⟩ (some ⟨b, off, none⟩) n c l (cnt l 200 t2).2) := I6.out.set (I6.out.g.set3 _)
              clear I6 f0 f1 f2 f3 f4
              generalize w6.setCell ⟨go, 3, none⟩ (.int .i64 (cnt l 200 t2).1) = w7 at *
              have L9 := l5getM I7.out.sc 9000 (by decide)
              go_wp2_with fail
              refine L9.mono ?_
              rintro e w8 ⟨rfl, ss, kk⟩
              have I8' : Hid (RI w wr w8 (gr + 1) go ⟨.slice a1 (r1 l).1.length c1, .slice ae j ce, .slice ai j2 ci, .int .i64 (cnt l 200 t2).1, .slice none 0 0⟩ (some ⟨b, off, none⟩) n c l (cnt l 9000 (cnt l 200 t2).2).2) := I7.out.call ss kk
              have HRD0 := rd_other HBY.out HE1.out (i := (rep (imN l) j2 t4).1) (t5 := t2) (by rw [← HM2.out.1, ← HM2.out.2]; exact HE2.out)
              have hn7 := cnt_num HBY.out (m := 9000) (by decide) (cnt l 200 t2).2
              have ha7 := cnt_at HBY.out 9000 (cnt l 200 t2).2
              rw [HL.out] at HRD0
              have HRD : Hid _ := HRD0
              have HA7 : Hid _ := ha7
              clear L9 ss kk I7 HRD0 ha7
              generalize cnt l 9000 (cnt l 200 t2).2 = s7 at *
              obtain ⟨x7, y7⟩ := s7
              have hn7a : 0 ≤ x7 := hn7.1
              have hn7b : x7 ≤ 9000 := hn7.2
              have hr7 : y7 = -1 ∨ (0 < y7 ∧ y7 ≤ (n : Int)) := by have := HA7.out; unfold At at this; rw [HL.out] at this; exact this
              clear hn7 HA7
              have k2 := I8'.out.sc.cells.2
              simp only at k2
              have R8 := B5.keep R5.out (K6.out.trans I8'.out.k) (by simp; omega)
              have y8 : Below w.heap.size w w8 := I8'.out.sc.bel
              by_cases hbad : y7 < 0 ∨ x7 ≠ (n : Int) - y7
              · have HNO : Hid (rdOk l = false) := HRD.out.1 hbad
                by_cases hy7 : y7 < 0
                · clear hbad
                  have hgw : w.heap.size ≤ gr := by have := HGR.out; omega
                  obtain ⟨_, _, _, _, _⟩ := R8.facts
                  obtain ⟨f0, f1, f2, f3, f4⟩ := R8.frozen
                  go_wp2_with fail
                  have R9 : B5 (((((w8.setCell ⟨gr, 0, none⟩ (.slice none 0 0)).setCell ⟨gr, 1, none⟩ (.slice none 0 0)).setCell ⟨gr, 2, none⟩ (.slice none 0 0)).setCell ⟨gr, 3, none⟩ (.int .i64 0)).setCell ⟨gr, 4, none⟩ (.slice none 0 0)) gr 26 ⟨.slice none 0 0, .slice none 0 0, .slice none 0 0, .int .i64 0, .slice none 0 0⟩ := ((((R8.set0 _).set1 _).set2 _).set3 _).set4 _
                  have Y9 : Below w.heap.size w (((((w8.setCell ⟨gr, 0, none⟩ (.slice none 0 0)).setCell ⟨gr, 1, none⟩ (.slice none 0 0)).setCell ⟨gr, 2, none⟩ (.slice none 0 0)).setCell ⟨gr, 3, none⟩ (.int .i64 0)).setCell ⟨gr, 4, none⟩ (.slice none 0 0)) := ((((y8.setCell hgw _).setCell hgw _).setCell hgw _).setCell hgw _).setCell hgw _
                  generalize (((((w8.setCell ⟨gr, 0, none⟩ (.slice none 0 0)).setCell ⟨gr, 1, none⟩ (.slice none 0 0)).setCell ⟨gr, 2, none⟩ (.slice none 0 0)).setCell ⟨gr, 3, none⟩ (.int .i64 0)).setCell ⟨gr, 4, none⟩ (.slice none 0 0)) = w9 at *
                  obtain ⟨d0, d1, d2, d3, d4⟩ := R9.facts
                  simp only at d0 d1 d2 d3 d4
                  refine bodyPost_ret (v := .tuple #[.agg #[.slice none 0 0, .slice none 0 0, .slice none 0 0, .int .i64 0, .slice none 0 0], .bool false]) (by simp [results, Try.results4, go_sem, d0, d1, d2, d3, d4]) rfl ⟨⟨.slice none 0 0, .slice none 0 0, .slice none 0 0, .int .i64 0, .slice none 0 0⟩, ?_, ?_, Y9⟩
                  · rw [HNO.out]
                  · rw [rdR_no HNO.out]
                    exact (OOwn.zero _ 0).read (by intro d hd; cases hd) (by intro d hd; cases hd)
                · have hx7 : (x7 != (n : Int) - y7) = true := by
                    have : x7 ≠ (n : Int) - y7 := hbad.resolve_left hy7
                    simpa using this
                  clear hbad
                  have hgw : w.heap.size ≤ gr := by have := HGR.out; omega
                  obtain ⟨_, _, _, _, _⟩ := R8.facts
                  obtain ⟨f0, f1, f2, f3, f4⟩ := R8.frozen
                  go_wp2_with fail
                  have R9 : B5 (((((w8.setCell ⟨gr, 0, none⟩ (.slice none 0 0)).setCell ⟨gr, 1, none⟩ (.slice none 0 0)).setCell ⟨gr, 2, none⟩ (.slice none 0 0)).setCell ⟨gr, 3, none⟩ (.int .i64 0)).setCell ⟨gr, 4, none⟩ (.slice none 0 0)) gr 26 ⟨.slice none 0 0, .slice none 0 0, .slice none 0 0, .int .i64 0, .slice none 0 0⟩ := ((((R8.set0 _).set1 _).set2 _).set3 _).set4 _
                  have Y9 : Below w.heap.size w (((((w8.setCell ⟨gr, 0, none⟩ (.slice none 0 0)).setCell ⟨gr, 1, none⟩ (.slice none 0 0)).setCell ⟨gr, 2, none⟩ (.slice none 0 0)).setCell ⟨gr, 3, none⟩ (.int .i64 0)).setCell ⟨gr, 4, none⟩ (.slice none 0 0)) := ((((y8.setCell hgw _).setCell hgw _).setCell hgw _).setCell hgw _).setCell hgw _
                  generalize (((((w8.setCell ⟨gr, 0, none⟩ (.slice none 0 0)).setCell ⟨gr, 1, none⟩ (.slice none 0 0)).setCell ⟨gr, 2, none⟩ (.slice none 0 0)).setCell ⟨gr, 3, none⟩ (.int .i64 0)).setCell ⟨gr, 4, none⟩ (.slice none 0 0)) = w9 at *
                  obtain ⟨d0, d1, d2, d3, d4⟩ := R9.facts
                  simp only at d0 d1 d2 d3 d4
                  refine bodyPost_ret (v := .tuple #[.agg #[.slice none 0 0, .slice none 0 0, .slice none 0 0, .int .i64 0, .slice none 0 0], .bool false]) (by simp [results, Try.results4, go_sem, d0, d1, d2, d3, d4]) rfl ⟨⟨.slice none 0 0, .slice none 0 0, .slice none 0 0, .int .i64 0, .slice none 0 0⟩, ?_, ?_, Y9⟩
                  · rw [HNO.out]
                  · rw [rdR_no HNO.out]
                    exact (OOwn.zero _ 0).read (by intro d hd; cases hd) (by intro d hd; cases hd)
              · have hy7 : ¬ y7 < 0 := fun e => hbad (.inl e)
                have hx7 : x7 = (n : Int) - y7 := by
                  rcases Decidable.em (x7 = (n : Int) - y7) with e | e
                  · exact e
                  · exact absurd (.inr e) hbad
                obtain ⟨yn, rfl⟩ := Int.eq_ofNat_of_zero_le (show 0 ≤ y7 by omega)
                subst hx7
                have HY0 : obL l = ⟨(r1 l).1, (rep (exN l) j (r2 l).2).1, (rep (imN l) j2 t4).1, (cnt l 200 t2).1, l.drop yn⟩ ∧ (r8 l).2 = l.length := by
                  have := HRD.out.2 (by show (0 : Int) ≤ (yn : Int); omega) rfl
                  simpa [HL.out] using this
                have HY : Hid (obL l = ⟨(r1 l).1, (rep (exN l) j (r2 l).2).1, (rep (imN l) j2 t4).1, (cnt l 200 t2).1, l.drop yn⟩ ∧ (r8 l).2 = l.length) := HY0
                clear HY0
                have I8 : Hid (RI w wr w8 (gr + 1) go ⟨.slice a1 (r1 l).1.length c1, .slice ae j ce, .slice ai j2 ci, .int .i64 (cnt l 200 t2).1, .slice none 0 0⟩ (some ⟨b, off, none⟩) n c l (yn : Int)) := I8'.out
                have hx8 : ((n : Int) - (yn : Int) != (n : Int) - (yn : Int)) = false := by simp
                clear hbad HRD I8' R8 y8
                have hyn : yn ≤ n := by omega
                have hcm := HCM.out
                unfold maxLen at hcm
                have hdl : Hid ((l.drop yn).length = n - yn) := by show _ = _; rw [List.length_drop, HL.out]
                have hE := own_empty w8
                have hBE := below_empty w8
                have k3 := (I8.out.sc.below hBE).cells.2
                have hrE := (I8.out.sc.rowW.part (lo := yn) (m := n - yn) (by omega)).below hBE
                rw [List.take_of_length_le (by rw [hdl.out]; exact Nat.le_refl _)] at hrE
                by_cases hcy : c = yn
                · have hny : n = yn := by omega
                  subst hny
                  subst hcy
                  have hd0 : l.drop c = [] := by rw [List.drop_eq_nil_iff, HL.out]; exact Nat.le_refl _
                  have hrF : BRow (w8.alloc (.cells #[] 5)) (some ⟨b, off, none⟩) 0 [] := BRow.empty _
                  clear hrE
                  go_wp2_with (at_builtin; refine wpList_appendB rfl _ _ rfl w8.heap.size _ 0 [] rfl hE _ _ _ [] rfl hrF (by intro hh; cases hh) (by omega) (by simp) ?_)
                  intro v2 w10 ho2 hg2
                  have hb2 := hE.grown hg2 hBE (by simp)
                  have hdl : Hid ((l.drop c).length = 0) := by show _ = _; rw [hd0]; rfl
                  have ho3 : Own w10 w8.heap.size v2 0 (l.drop c) := by rw [hd0]; simpa using ho2
                  clear hd0
                  have own5 := ho3.made hb2
                  obtain ⟨a5, c5, hv5, hm5⟩ := own5
                  subst hv5
                  have I10 : RI w wr w10 (gr + 1) go ⟨.slice a1 (r1 l).1.length c1, .slice ae j ce, .slice ai j2 ci, .int .i64 (cnt l 200 t2).1, .slice none 0 0⟩ (some ⟨b, off, none⟩) c c l (c : Int) := (I8.out.below (below_empty w8)).grown hg2 (by intro g hg; simp [Value.ownBlock] at hg; subst hg; exact I8.out.size)
                  have C10 : Hid ((Fd.b (l.drop c)).Has w10 w8.heap.size (.slice a5 0 c5)) := ⟨a5, c5, by rw [hdl.out], by rw [hdl.out]; exact ho3⟩
                  obtain ⟨m0, m1, m2', m3, m4⟩ := I10.g.facts
                  obtain ⟨n0, n1, n2', n3, n4⟩ := I10.g.frozen
                  simp only at m0 m1 m2' m3 m4
                  have I11 : Hid (RI w wr (w10.setCell ⟨go, 4, none⟩ (.slice a5 0 c5)) (gr + 1) go ⟨.slice a1 (r1 l).1.length c1, .slice ae j ce, .slice ai j2 ci, .int .i64 (cnt l 200 t2).1, .slice a5 0 c5⟩ (some ⟨b, off, none⟩) c c l (c : Int)) := I10.set (I10.g.set4 _)
                  have C11 : Hid ((Fd.b (l.drop c)).Has (w10.setCell ⟨go, 4, none⟩ (.slice a5 0 c5)) w8.heap.size (.slice a5 0 c5)) := C10.out.other (by intro e; have := C10.out.lt _ e; have := I8.out.size; have := I8.out.lt; omega)
                  clear C10 I10 ho2 ho3 hg2 hb2 hm5 hE hrF
                  go_upto_region 26 with fail
                  generalize w10.setCell ⟨go, 4, none⟩ (.slice a5 0 c5) = w11 at *
                  clear m0 m1 m2' m3 m4 n0 n1 n2' n3 n4
                  have KK : KeepO [some (gr + 1), some go] w5 w11 := K6.out.trans I11.out.k
                  have N11 : Hid ((Fd.b (r1 l).1).Has w11 (gr + 2) (.slice a1 (r1 l).1.length c1)) := N5.out.keep2 KK (by omega) NB.out
                  have R11 : Hid (B5 w11 gr 26 ⟨.slice none 0 0, .slice none 0 0, .slice none 0 0, .int .i64 0, .slice none 0 0⟩) := B5.keep R5.out KK (by simp; omega)
                  have E11 : Hid (AL w11 41 w3.heap.size (.slice ae j ce) le (rep (exN l) j (r2 l).2).1) := E5.out.keep2 KK (by omega) (by omega)
                  have J11 : Hid (AL w11 43 w5.heap.size (.slice ai j2 ci) li (rep (imN l) j2 t4).1) := HA2.out.keep2 I11.out.k (by omega) (by omega)
                  have hsz : osz ⟨(r1 l).1, (rep (exN l) j (r2 l).2).1, (rep (imN l) j2 t4).1, (cnt l 200 t2).1, l.drop c⟩ ≤ 1048576 := ob_size HBY.out (by rw [rep_len]; omega) (by rw [rep_len]; omega) (rep_mem (exN_len HBY.out) _ _) (rep_mem (imN_len HBY.out) _ _) (getT_len l 2 HBY.out) (by rw [List.length_drop, HL.out]; omega) _
                  have OR : Hid (ORead w11 ⟨.slice a1 (r1 l).1.length c1, .slice ae j ce, .slice ai j2 ci, .int .i64 (cnt l 200 t2).1, .slice a5 0 c5⟩ ⟨(r1 l).1, (rep (exN l) j (r2 l).2).1, (rep (imN l) j2 t4).1, (cnt l 200 t2).1, l.drop c⟩) := ⟨N11.out.read, E11.out.own.dv, J11.out.own.dv, rfl, C11.out.read, rep_mem (exN_is l) _ _, rep_mem (imN_is l) _ _⟩
                  have HOK := specObjectOkM ⟨.slice a1 (r1 l).1.length c1, .slice ae j ce, .slice ai j2 ci, .int .i64 (cnt l 200 t2).1, .slice a5 0 c5⟩ ⟨(r1 l).1, (rep (exN l) j (r2 l).2).1, (rep (imN l) j2 t4).1, (cnt l 200 t2).1, l.drop c⟩ w11 OR.out hsz
                  simp only at HOK
                  have HEQ : Hid (rdOk l = objOk ⟨(r1 l).1, (rep (exN l) j (r2 l).2).1, (rep (imN l) j2 t4).1, (cnt l 200 t2).1, l.drop c⟩) := by
                    show _ = _
                    rw [← HY.out.1]
                    exact rd_end HST.out HY.out.2
                  obtain ⟨p0, p1, p2, p3, p4⟩ := I11.out.g.facts
                  simp only at p0 p1 p2 p3 p4
                  clear KK hsz
                  go_wp2_with fail
                  refine HOK.mono ?_
                  rintro e w12 ⟨rfl, hb⟩
                  have R12 := R11.out.below hb R11.out.lt
                  have I12 : Hid (RI w wr w12 (gr + 1) go ⟨.slice a1 (r1 l).1.length c1, .slice ae j ce, .slice ai j2 ci, .int .i64 (cnt l 200 t2).1, .slice a5 0 c5⟩ (some ⟨b, off, none⟩) c c l (c : Int)) := I11.out.below hb
                  have y12 : Below w.heap.size w w12 := I12.out.sc.bel
                  have N12 : Hid ((Fd.b (r1 l).1).Has w12 (gr + 2) (.slice a1 (r1 l).1.length c1)) := N11.out.below hb
                  have E12 : Hid (AL w12 41 w3.heap.size (.slice ae j ce) le (rep (exN l) j (r2 l).2).1) := E11.out.below hb
                  have J12 : Hid (AL w12 43 w5.heap.size (.slice ai j2 ci) li (rep (imN l) j2 t4).1) := J11.out.below hb
                  have C12 : Hid ((Fd.b (l.drop c)).Has w12 w8.heap.size (.slice a5 0 c5)) := C11.out.below hb
                  have hw8 : gr + 2 ≤ w8.heap.size := by have := I8.out.size; have := HI2.out.size; omega
                  clear HOK p0 p1 p2 p3 p4 hb
                  cases hv : objOk ⟨(r1 l).1, (rep (exN l) j (r2 l).2).1, (rep (imN l) j2 t4).1, (cnt l 200 t2).1, l.drop c⟩
                  · have HNO : Hid (rdOk l = false) := by show _ = _; rw [HEQ.out]; exact hv
                    clear hv
                    have hgw : w.heap.size ≤ gr := by have := HGR.out; omega
                    obtain ⟨_, _, _, _, _⟩ := R12.facts
                    obtain ⟨f0, f1, f2, f3, f4⟩ := R12.frozen
                    go_wp2_with fail
                    have R9 : B5 (((((w12.setCell ⟨gr, 0, none⟩ (.slice none 0 0)).setCell ⟨gr, 1, none⟩ (.slice none 0 0)).setCell ⟨gr, 2, none⟩ (.slice none 0 0)).setCell ⟨gr, 3, none⟩ (.int .i64 0)).setCell ⟨gr, 4, none⟩ (.slice none 0 0)) gr 26 ⟨.slice none 0 0, .slice none 0 0, .slice none 0 0, .int .i64 0, .slice none 0 0⟩ := ((((R12.set0 _).set1 _).set2 _).set3 _).set4 _
                    have Y9 : Below w.heap.size w (((((w12.setCell ⟨gr, 0, none⟩ (.slice none 0 0)).setCell ⟨gr, 1, none⟩ (.slice none 0 0)).setCell ⟨gr, 2, none⟩ (.slice none 0 0)).setCell ⟨gr, 3, none⟩ (.int .i64 0)).setCell ⟨gr, 4, none⟩ (.slice none 0 0)) := ((((y12.setCell hgw _).setCell hgw _).setCell hgw _).setCell hgw _).setCell hgw _
                    generalize (((((w12.setCell ⟨gr, 0, none⟩ (.slice none 0 0)).setCell ⟨gr, 1, none⟩ (.slice none 0 0)).setCell ⟨gr, 2, none⟩ (.slice none 0 0)).setCell ⟨gr, 3, none⟩ (.int .i64 0)).setCell ⟨gr, 4, none⟩ (.slice none 0 0)) = w9 at *
                    obtain ⟨d0, d1, d2, d3, d4⟩ := R9.facts
                    simp only at d0 d1 d2 d3 d4
                    refine bodyPost_ret (v := .tuple #[.agg #[.slice none 0 0, .slice none 0 0, .slice none 0 0, .int .i64 0, .slice none 0 0], .bool false]) (by simp [results, Try.results4, go_sem, d0, d1, d2, d3, d4]) rfl ⟨⟨.slice none 0 0, .slice none 0 0, .slice none 0 0, .int .i64 0, .slice none 0 0⟩, ?_, ?_, Y9⟩
                    · rw [HNO.out]
                    · rw [rdR_no HNO.out]
                      exact (OOwn.zero _ 0).read (by intro d hd; cases hd) (by intro d hd; cases hd)
                  · have HYES : Hid (rdOk l = true) := by show _ = _; rw [HEQ.out]; exact hv
                    clear hv
                    obtain ⟨p0, p1, p2, p3, p4⟩ := I12.out.g.facts
                    simp only at p0 p1 p2 p3 p4
                    obtain ⟨_, _, _, _, _⟩ := R12.facts
                    obtain ⟨f0, f1, f2, f3, f4⟩ := R12.frozen
                    go_wp2_with fail
                    have hgw : w.heap.size ≤ gr := by have := HGR.out; omega
                    have R9 : B5 (((((w12.setCell ⟨gr, 0, none⟩ (.slice a1 (r1 l).1.length c1)).setCell ⟨gr, 1, none⟩ (.slice ae j ce)).setCell ⟨gr, 2, none⟩ (.slice ai j2 ci)).setCell ⟨gr, 3, none⟩ (.int .i64 (cnt l 200 t2).1)).setCell ⟨gr, 4, none⟩ (.slice a5 0 c5)) gr 26 ⟨.slice a1 (r1 l).1.length c1, .slice ae j ce, .slice ai j2 ci, .int .i64 (cnt l 200 t2).1, .slice a5 0 c5⟩ := ((((R12.set0 _).set1 _).set2 _).set3 _).set4 _
                    have Y9 : Below w.heap.size w (((((w12.setCell ⟨gr, 0, none⟩ (.slice a1 (r1 l).1.length c1)).setCell ⟨gr, 1, none⟩ (.slice ae j ce)).setCell ⟨gr, 2, none⟩ (.slice ai j2 ci)).setCell ⟨gr, 3, none⟩ (.int .i64 (cnt l 200 t2).1)).setCell ⟨gr, 4, none⟩ (.slice a5 0 c5)) := ((((y12.setCell hgw _).setCell hgw _).setCell hgw _).setCell hgw _).setCell hgw _
                    have hlw : gr < gr + 2 := by omega
                    have C9 : Same (gr + 2) w12 (((((w12.setCell ⟨gr, 0, none⟩ (.slice a1 (r1 l).1.length c1)).setCell ⟨gr, 1, none⟩ (.slice ae j ce)).setCell ⟨gr, 2, none⟩ (.slice ai j2 ci)).setCell ⟨gr, 3, none⟩ (.int .i64 (cnt l 200 t2).1)).setCell ⟨gr, 4, none⟩ (.slice a5 0 c5)) := ((((Same.put hlw).trans (Same.put hlw)).trans (Same.put hlw)).trans (Same.put hlw)).trans (Same.put hlw)
                    generalize (((((w12.setCell ⟨gr, 0, none⟩ (.slice a1 (r1 l).1.length c1)).setCell ⟨gr, 1, none⟩ (.slice ae j ce)).setCell ⟨gr, 2, none⟩ (.slice ai j2 ci)).setCell ⟨gr, 3, none⟩ (.int .i64 (cnt l 200 t2).1)).setCell ⟨gr, 4, none⟩ (.slice a5 0 c5)) = w9 at *
                    obtain ⟨d0, d1, d2, d3, d4⟩ := R9.facts
                    simp only at d0 d1 d2 d3 d4
                    refine bodyPost_ret (v := .tuple #[.agg #[.slice a1 (r1 l).1.length c1, .slice ae j ce, .slice ai j2 ci, .int .i64 (cnt l 200 t2).1, .slice a5 0 c5], .bool true]) (by simp [results, Try.results4, go_sem, d0, d1, d2, d3, d4]) rfl ⟨⟨.slice a1 (r1 l).1.length c1, .slice ae j ce, .slice ai j2 ci, .int .i64 (cnt l 200 t2).1, .slice a5 0 c5⟩, ?_, ?_, Y9⟩
                    · rw [HYES.out]
                    · rw [rdR_yes HYES.out, HY.out.1]
                      exact ⟨(N12.out.same C9).read, (E12.out.same (C9.mono (by omega))).own.dv, (J12.out.same (C9.mono (by omega))).own.dv, rfl, (C12.out.same (C9.mono (by omega))).read, rep_mem (exN_is l) _ _, rep_mem (imN_is l) _ _⟩
                · have hrF : BRow (w8.alloc (.cells #[] 5)) (some ⟨b, off + yn, none⟩) (n - yn) (l.drop yn) := hrE
                  clear hrE
                  go_wp2_with (at_builtin; refine wpList_appendB rfl _ _ rfl w8.heap.size _ 0 [] rfl hE _ (n - yn) _ (l.drop yn) rfl hrF (by intro hh; cases hh) (by omega) (by simp) ?_)
                  intro v2 w10 ho2 hg2
                  have hb2 := hE.grown hg2 hBE (by simp)
                  have ho3 : Own w10 w8.heap.size v2 (n - yn) (l.drop yn) := by simpa using ho2
                  have own5 := ho3.made hb2
                  obtain ⟨a5, c5, hv5, hm5⟩ := own5
                  subst hv5
                  have I10 : RI w wr w10 (gr + 1) go ⟨.slice a1 (r1 l).1.length c1, .slice ae j ce, .slice ai j2 ci, .int .i64 (cnt l 200 t2).1, .slice none 0 0⟩ (some ⟨b, off, none⟩) n c l (yn : Int) := (I8.out.below (below_empty w8)).grown hg2 (by intro g hg; simp [Value.ownBlock] at hg; subst hg; exact I8.out.size)
                  have C10 : Hid ((Fd.b (l.drop yn)).Has w10 w8.heap.size (.slice a5 (n - yn) c5)) := ⟨a5, c5, by rw [hdl.out], by rw [hdl.out]; exact ho3⟩
                  obtain ⟨m0, m1, m2', m3, m4⟩ := I10.g.facts
                  obtain ⟨n0, n1, n2', n3, n4⟩ := I10.g.frozen
                  simp only at m0 m1 m2' m3 m4
                  have I11 : Hid (RI w wr (w10.setCell ⟨go, 4, none⟩ (.slice a5 (n - yn) c5)) (gr + 1) go ⟨.slice a1 (r1 l).1.length c1, .slice ae j ce, .slice ai j2 ci, .int .i64 (cnt l 200 t2).1, .slice a5 (n - yn) c5⟩ (some ⟨b, off, none⟩) n c l (yn : Int)) := I10.set (I10.g.set4 _)
                  have C11 : Hid ((Fd.b (l.drop yn)).Has (w10.setCell ⟨go, 4, none⟩ (.slice a5 (n - yn) c5)) w8.heap.size (.slice a5 (n - yn) c5)) := C10.out.other (by intro e; have := C10.out.lt _ e; have := I8.out.size; have := I8.out.lt; omega)
                  clear C10 I10 ho2 ho3 hg2 hb2 hm5 hE hrF
                  go_upto_region 26 with fail
                  generalize w10.setCell ⟨go, 4, none⟩ (.slice a5 (n - yn) c5) = w11 at *
                  clear m0 m1 m2' m3 m4 n0 n1 n2' n3 n4
                  have KK : KeepO [some (gr + 1), some go] w5 w11 := K6.out.trans I11.out.k
                  have N11 : Hid ((Fd.b (r1 l).1).Has w11 (gr + 2) (.slice a1 (r1 l).1.length c1)) := N5.out.keep2 KK (by omega) NB.out
                  have R11 : Hid (B5 w11 gr 26 ⟨.slice none 0 0, .slice none 0 0, .slice none 0 0, .int .i64 0, .slice none 0 0⟩) := B5.keep R5.out KK (by simp; omega)
                  have E11 : Hid (AL w11 41 w3.heap.size (.slice ae j ce) le (rep (exN l) j (r2 l).2).1) := E5.out.keep2 KK (by omega) (by omega)
                  have J11 : Hid (AL w11 43 w5.heap.size (.slice ai j2 ci) li (rep (imN l) j2 t4).1) := HA2.out.keep2 I11.out.k (by omega) (by omega)
                  have hsz : osz ⟨(r1 l).1, (rep (exN l) j (r2 l).2).1, (rep (imN l) j2 t4).1, (cnt l 200 t2).1, l.drop yn⟩ ≤ 1048576 := ob_size HBY.out (by rw [rep_len]; omega) (by rw [rep_len]; omega) (rep_mem (exN_len HBY.out) _ _) (rep_mem (imN_len HBY.out) _ _) (getT_len l 2 HBY.out) (by rw [List.length_drop, HL.out]; omega) _
                  have OR : Hid (ORead w11 ⟨.slice a1 (r1 l).1.length c1, .slice ae j ce, .slice ai j2 ci, .int .i64 (cnt l 200 t2).1, .slice a5 (n - yn) c5⟩ ⟨(r1 l).1, (rep (exN l) j (r2 l).2).1, (rep (imN l) j2 t4).1, (cnt l 200 t2).1, l.drop yn⟩) := ⟨N11.out.read, E11.out.own.dv, J11.out.own.dv, rfl, C11.out.read, rep_mem (exN_is l) _ _, rep_mem (imN_is l) _ _⟩
                  have HOK := specObjectOkM ⟨.slice a1 (r1 l).1.length c1, .slice ae j ce, .slice ai j2 ci, .int .i64 (cnt l 200 t2).1, .slice a5 (n - yn) c5⟩ ⟨(r1 l).1, (rep (exN l) j (r2 l).2).1, (rep (imN l) j2 t4).1, (cnt l 200 t2).1, l.drop yn⟩ w11 OR.out hsz
                  simp only at HOK
                  have HEQ : Hid (rdOk l = objOk ⟨(r1 l).1, (rep (exN l) j (r2 l).2).1, (rep (imN l) j2 t4).1, (cnt l 200 t2).1, l.drop yn⟩) := by
                    show _ = _
                    rw [← HY.out.1]
                    exact rd_end HST.out HY.out.2
                  obtain ⟨p0, p1, p2, p3, p4⟩ := I11.out.g.facts
                  simp only at p0 p1 p2 p3 p4
                  clear KK hsz
                  go_wp2_with fail
                  refine HOK.mono ?_
                  rintro e w12 ⟨rfl, hb⟩
                  have R12 := R11.out.below hb R11.out.lt
                  have I12 : Hid (RI w wr w12 (gr + 1) go ⟨.slice a1 (r1 l).1.length c1, .slice ae j ce, .slice ai j2 ci, .int .i64 (cnt l 200 t2).1, .slice a5 (n - yn) c5⟩ (some ⟨b, off, none⟩) n c l (yn : Int)) := I11.out.below hb
                  have y12 : Below w.heap.size w w12 := I12.out.sc.bel
                  have N12 : Hid ((Fd.b (r1 l).1).Has w12 (gr + 2) (.slice a1 (r1 l).1.length c1)) := N11.out.below hb
                  have E12 : Hid (AL w12 41 w3.heap.size (.slice ae j ce) le (rep (exN l) j (r2 l).2).1) := E11.out.below hb
                  have J12 : Hid (AL w12 43 w5.heap.size (.slice ai j2 ci) li (rep (imN l) j2 t4).1) := J11.out.below hb
                  have C12 : Hid ((Fd.b (l.drop yn)).Has w12 w8.heap.size (.slice a5 (n - yn) c5)) := C11.out.below hb
                  have hw8 : gr + 2 ≤ w8.heap.size := by have := I8.out.size; have := HI2.out.size; omega
                  clear HOK p0 p1 p2 p3 p4 hb
                  cases hv : objOk ⟨(r1 l).1, (rep (exN l) j (r2 l).2).1, (rep (imN l) j2 t4).1, (cnt l 200 t2).1, l.drop yn⟩
                  · have HNO : Hid (rdOk l = false) := by show _ = _; rw [HEQ.out]; exact hv
                    clear hv
                    have hgw : w.heap.size ≤ gr := by have := HGR.out; omega
                    obtain ⟨_, _, _, _, _⟩ := R12.facts
                    obtain ⟨f0, f1, f2, f3, f4⟩ := R12.frozen
                    go_wp2_with fail
                    have R9 : B5 (((((w12.setCell ⟨gr, 0, none⟩ (.slice none 0 0)).setCell ⟨gr, 1, none⟩ (.slice none 0 0)).setCell ⟨gr, 2, none⟩ (.slice none 0 0)).setCell ⟨gr, 3, none⟩ (.int .i64 0)).setCell ⟨gr, 4, none⟩ (.slice none 0 0)) gr 26 ⟨.slice none 0 0, .slice none 0 0, .slice none 0 0, .int .i64 0, .slice none 0 0⟩ := ((((R12.set0 _).set1 _).set2 _).set3 _).set4 _
                    have Y9 : Below w.heap.size w (((((w12.setCell ⟨gr, 0, none⟩ (.slice none 0 0)).setCell ⟨gr, 1, none⟩ (.slice none 0 0)).setCell ⟨gr, 2, none⟩ (.slice none 0 0)).setCell ⟨gr, 3, none⟩ (.int .i64 0)).setCell ⟨gr, 4, none⟩ (.slice none 0 0)) := ((((y12.setCell hgw _).setCell hgw _).setCell hgw _).setCell hgw _).setCell hgw _
                    generalize (((((w12.setCell ⟨gr, 0, none⟩ (.slice none 0 0)).setCell ⟨gr, 1, none⟩ (.slice none 0 0)).setCell ⟨gr, 2, none⟩ (.slice none 0 0)).setCell ⟨gr, 3, none⟩ (.int .i64 0)).setCell ⟨gr, 4, none⟩ (.slice none 0 0)) = w9 at *
                    obtain ⟨d0, d1, d2, d3, d4⟩ := R9.facts
                    simp only at d0 d1 d2 d3 d4
                    refine bodyPost_ret (v := .tuple #[.agg #[.slice none 0 0, .slice none 0 0, .slice none 0 0, .int .i64 0, .slice none 0 0], .bool false]) (by simp [results, Try.results4, go_sem, d0, d1, d2, d3, d4]) rfl ⟨⟨.slice none 0 0, .slice none 0 0, .slice none 0 0, .int .i64 0, .slice none 0 0⟩, ?_, ?_, Y9⟩
                    · rw [HNO.out]
                    · rw [rdR_no HNO.out]
                      exact (OOwn.zero _ 0).read (by intro d hd; cases hd) (by intro d hd; cases hd)
                  · have HYES : Hid (rdOk l = true) := by show _ = _; rw [HEQ.out]; exact hv
                    clear hv
                    obtain ⟨p0, p1, p2, p3, p4⟩ := I12.out.g.facts
                    simp only at p0 p1 p2 p3 p4
                    obtain ⟨_, _, _, _, _⟩ := R12.facts
                    obtain ⟨f0, f1, f2, f3, f4⟩ := R12.frozen
                    go_wp2_with fail
                    have hgw : w.heap.size ≤ gr := by have := HGR.out; omega
                    have R9 : B5 (((((w12.setCell ⟨gr, 0, none⟩ (.slice a1 (r1 l).1.length c1)).setCell ⟨gr, 1, none⟩ (.slice ae j ce)).setCell ⟨gr, 2, none⟩ (.slice ai j2 ci)).setCell ⟨gr, 3, none⟩ (.int .i64 (cnt l 200 t2).1)).setCell ⟨gr, 4, none⟩ (.slice a5 (n - yn) c5)) gr 26 ⟨.slice a1 (r1 l).1.length c1, .slice ae j ce, .slice ai j2 ci, .int .i64 (cnt l 200 t2).1, .slice a5 (n - yn) c5⟩ := ((((R12.set0 _).set1 _).set2 _).set3 _).set4 _
                    have Y9 : Below w.heap.size w (((((w12.setCell ⟨gr, 0, none⟩ (.slice a1 (r1 l).1.length c1)).setCell ⟨gr, 1, none⟩ (.slice ae j ce)).setCell ⟨gr, 2, none⟩ (.slice ai j2 ci)).setCell ⟨gr, 3, none⟩ (.int .i64 (cnt l 200 t2).1)).setCell ⟨gr, 4, none⟩ (.slice a5 (n - yn) c5)) := ((((y12.setCell hgw _).setCell hgw _).setCell hgw _).setCell hgw _).setCell hgw _
                    have hlw : gr < gr + 2 := by omega
                    have C9 : Same (gr + 2) w12 (((((w12.setCell ⟨gr, 0, none⟩ (.slice a1 (r1 l).1.length c1)).setCell ⟨gr, 1, none⟩ (.slice ae j ce)).setCell ⟨gr, 2, none⟩ (.slice ai j2 ci)).setCell ⟨gr, 3, none⟩ (.int .i64 (cnt l 200 t2).1)).setCell ⟨gr, 4, none⟩ (.slice a5 (n - yn) c5)) := ((((Same.put hlw).trans (Same.put hlw)).trans (Same.put hlw)).trans (Same.put hlw)).trans (Same.put hlw)
                    generalize (((((w12.setCell ⟨gr, 0, none⟩ (.slice a1 (r1 l).1.length c1)).setCell ⟨gr, 1, none⟩ (.slice ae j ce)).setCell ⟨gr, 2, none⟩ (.slice ai j2 ci)).setCell ⟨gr, 3, none⟩ (.int .i64 (cnt l 200 t2).1)).setCell ⟨gr, 4, none⟩ (.slice a5 (n - yn) c5)) = w9 at *
                    obtain ⟨d0, d1, d2, d3, d4⟩ := R9.facts
                    simp only at d0 d1 d2 d3 d4
                    refine bodyPost_ret (v := .tuple #[.agg #[.slice a1 (r1 l).1.length c1, .slice ae j ce, .slice ai j2 ci, .int .i64 (cnt l 200 t2).1, .slice a5 (n - yn) c5], .bool true]) (by simp [results, Try.results4, go_sem, d0, d1, d2, d3, d4]) rfl ⟨⟨.slice a1 (r1 l).1.length c1, .slice ae j ce, .slice ai j2 ci, .int .i64 (cnt l 200 t2).1, .slice a5 (n - yn) c5⟩, ?_, ?_, Y9⟩
                    · rw [HYES.out]
                    · rw [rdR_yes HYES.out, HY.out.1]
                      exact ⟨(N12.out.same C9).read, (E12.out.same (C9.mono (by omega))).own.dv, (J12.out.same (C9.mono (by omega))).own.dv, rfl, (C12.out.same (C9.mono (by omega))).read, rep_mem (exN_is l) _ _, rep_mem (imN_is l) _ _⟩
            · clear hgo1
              go_upto_region 21 with fail
              have K6 : Hid (KeepO [some (gr + 1), some go] w5 wr) := HI2.out.k
              have L9 := l5getM HI2.out.sc 200 (by decide)
              go_wp2_with fail
              refine L9.mono ?_
              rintro e w6 ⟨rfl, ss, kk⟩
              have I6 : Hid (RI w wr w6 (gr + 1) go ⟨.slice a1 (r1 l).1.length c1, .slice ae j ce, .slice ai j2 ci, .int .i64 0, .slice none 0 0⟩ (some ⟨b, off, none⟩) n c l (cnt l 200 t2).2) := (HI2.out.restart).call ss kk
              clear L9 k2 ss kk
              obtain ⟨_, _, _, _, _⟩ := I6.out.g.facts
              obtain ⟨f0, f1, f2, f3, f4⟩ := I6.out.g.frozen
              go_upto_region 22 with fail
              have I7 : Hid (RI w wr (w6.setCell ⟨go, 3, none⟩ (.int .i64 (cnt l 200 t2).1)) (gr + 1) go ⟨.slice a1 (r1 l).1.length c1, .slice ae j ce, .slice ai j2 ci, .int .i64 (cnt l 200 t2).1, .slice none 0 0⟩ (some ⟨b, off, none⟩) n c l (cnt l 200 t2).2) := I6.out.set (I6.out.g.set3 _)
              clear I6 f0 f1 f2 f3 f4
              generalize w6.setCell ⟨go, 3, none⟩ (.int .i64 (cnt l 200 t2).1) = w7 at *
              have L9 := l5getM I7.out.sc 9000 (by decide)
              go_wp2_with fail
              refine L9.mono ?_
              rintro e w8 ⟨rfl, ss, kk⟩
              have I8' : Hid (RI w wr w8 (gr + 1) go ⟨.slice a1 (r1 l).1.length c1, .slice ae j ce, .slice ai j2 ci, .int .i64 (cnt l 200 t2).1, .slice none 0 0⟩ (some ⟨b, off, none⟩) n c l (cnt l 9000 (cnt l 200 t2).2).2) := I7.out.call ss kk
              have HRD0 := rd_other HBY.out HE1.out (i := (rep (imN l) j2 t4).1) (t5 := t2) (by rw [← HM2.out.1, ← HM2.out.2]; exact HE2.out)
              have hn7 := cnt_num HBY.out (m := 9000) (by decide) (cnt l 200 t2).2
              have ha7 := cnt_at HBY.out 9000 (cnt l 200 t2).2
              rw [HL.out] at HRD0
              have HRD : Hid _ := HRD0
              have HA7 : Hid _ := ha7
              clear L9 ss kk I7 HRD0 ha7
              generalize cnt l 9000 (cnt l 200 t2).2 = s7 at *
              obtain ⟨x7, y7⟩ := s7
              have hn7a : 0 ≤ x7 := hn7.1
              have hn7b : x7 ≤ 9000 := hn7.2
              have hr7 : y7 = -1 ∨ (0 < y7 ∧ y7 ≤ (n : Int)) := by have := HA7.out; unfold At at this; rw [HL.out] at this; exact this
              clear hn7 HA7
              have k2 := I8'.out.sc.cells.2
              simp only at k2
              have R8 := B5.keep R5.out (K6.out.trans I8'.out.k) (by simp; omega)
              have y8 : Below w.heap.size w w8 := I8'.out.sc.bel
              by_cases hbad : y7 < 0 ∨ x7 ≠ (n : Int) - y7
              · have HNO : Hid (rdOk l = false) := HRD.out.1 hbad
                by_cases hy7 : y7 < 0
                · clear hbad
                  have hgw : w.heap.size ≤ gr := by have := HGR.out; omega
                  obtain ⟨_, _, _, _, _⟩ := R8.facts
                  obtain ⟨f0, f1, f2, f3, f4⟩ := R8.frozen
                  go_wp2_with fail
                  have R9 : B5 (((((w8.setCell ⟨gr, 0, none⟩ (.slice none 0 0)).setCell ⟨gr, 1, none⟩ (.slice none 0 0)).setCell ⟨gr, 2, none⟩ (.slice none 0 0)).setCell ⟨gr, 3, none⟩ (.int .i64 0)).setCell ⟨gr, 4, none⟩ (.slice none 0 0)) gr 26 ⟨.slice none 0 0, .slice none 0 0, .slice none 0 0, .int .i64 0, .slice none 0 0⟩ := ((((R8.set0 _).set1 _).set2 _).set3 _).set4 _
                  have Y9 : Below w.heap.size w (((((w8.setCell ⟨gr, 0, none⟩ (.slice none 0 0)).setCell ⟨gr, 1, none⟩ (.slice none 0 0)).setCell ⟨gr, 2, none⟩ (.slice none 0 0)).setCell ⟨gr, 3, none⟩ (.int .i64 0)).setCell ⟨gr, 4, none⟩ (.slice none 0 0)) := ((((y8.setCell hgw _).setCell hgw _).setCell hgw _).setCell hgw _).setCell hgw _
                  generalize (((((w8.setCell ⟨gr, 0, none⟩ (.slice none 0 0)).setCell ⟨gr, 1, none⟩ (.slice none 0 0)).setCell ⟨gr, 2, none⟩ (.slice none 0 0)).setCell ⟨gr, 3, none⟩ (.int .i64 0)).setCell ⟨gr, 4, none⟩ (.slice none 0 0)) = w9 at *
                  obtain ⟨d0, d1, d2, d3, d4⟩ := R9.facts
                  simp only at d0 d1 d2 d3 d4
                  refine bodyPost_ret (v := .tuple #[.agg #[.slice none 0 0, .slice none 0 0, .slice none 0 0, .int .i64 0, .slice none 0 0], .bool false]) (by simp [results, Try.results4, go_sem, d0, d1, d2, d3, d4]) rfl ⟨⟨.slice none 0 0, .slice none 0 0, .slice none 0 0, .int .i64 0, .slice none 0 0⟩, ?_, ?_, Y9⟩
                  · rw [HNO.out]
                  · rw [rdR_no HNO.out]
                    exact (OOwn.zero _ 0).read (by intro d hd; cases hd) (by intro d hd; cases hd)
                · have hx7 : (x7 != (n : Int) - y7) = true := by
                    have : x7 ≠ (n : Int) - y7 := hbad.resolve_left hy7
                    simpa using this
                  clear hbad
                  have hgw : w.heap.size ≤ gr := by have := HGR.out; omega
                  obtain ⟨_, _, _, _, _⟩ := R8.facts
                  obtain ⟨f0, f1, f2, f3, f4⟩ := R8.frozen
                  go_wp2_with fail
                  have R9 : B5 (((((w8.setCell ⟨gr, 0, none⟩ (.slice none 0 0)).setCell ⟨gr, 1, none⟩ (.slice none 0 0)).setCell ⟨gr, 2, none⟩ (.slice none 0 0)).setCell ⟨gr, 3, none⟩ (.int .i64 0)).setCell ⟨gr, 4, none⟩ (.slice none 0 0)) gr 26 ⟨.slice none 0 0, .slice none 0 0, .slice none 0 0, .int .i64 0, .slice none 0 0⟩ := ((((R8.set0 _).set1 _).set2 _).set3 _).set4 _
                  have Y9 : Below w.heap.size w (((((w8.setCell ⟨gr, 0, none⟩ (.slice none 0 0)).setCell ⟨gr, 1, none⟩ (.slice none 0 0)).setCell ⟨gr, 2, none⟩ (.slice none 0 0)).setCell ⟨gr, 3, none⟩ (.int .i64 0)).setCell ⟨gr, 4, none⟩ (.slice none 0 0)) := ((((y8.setCell hgw _).setCell hgw _).setCell hgw _).setCell hgw _).setCell hgw _
                  generalize (((((w8.setCell ⟨gr, 0, none⟩ (.slice none 0 0)).setCell ⟨gr, 1, none⟩ (.slice none 0 0)).setCell ⟨gr, 2, none⟩ (.slice none 0 0)).setCell ⟨gr, 3, none⟩ (.int .i64 0)).setCell ⟨gr, 4, none⟩ (.slice none 0 0)) = w9 at *
                  obtain ⟨d0, d1, d2, d3, d4⟩ := R9.facts
                  simp only at d0 d1 d2 d3 d4
                  refine bodyPost_ret (v := .tuple #[.agg #[.slice none 0 0, .slice none 0 0, .slice none 0 0, .int .i64 0, .slice none 0 0], .bool false]) (by simp [results, Try.results4, go_sem, d0, d1, d2, d3, d4]) rfl ⟨⟨.slice none 0 0, .slice none 0 0, .slice none 0 0, .int .i64 0, .slice none 0 0⟩, ?_, ?_, Y9⟩
                  · rw [HNO.out]
                  · rw [rdR_no HNO.out]
                    exact (OOwn.zero _ 0).read (by intro d hd; cases hd) (by intro d hd; cases hd)
              · have hy7 : ¬ y7 < 0 := fun e => hbad (.inl e)
                have hx7 : x7 = (n : Int) - y7 := by
                  rcases Decidable.em (x7 = (n : Int) - y7) with e | e
                  · exact e
                  · exact absurd (.inr e) hbad
                obtain ⟨yn, rfl⟩ := Int.eq_ofNat_of_zero_le (show 0 ≤ y7 by omega)
                subst hx7
                have HY0 : obL l = ⟨(r1 l).1, (rep (exN l) j (r2 l).2).1, (rep (imN l) j2 t4).1, (cnt l 200 t2).1, l.drop yn⟩ ∧ (r8 l).2 = l.length := by
                  have := HRD.out.2 (by show (0 : Int) ≤ (yn : Int); omega) rfl
                  simpa [HL.out] using this
                have HY : Hid (obL l = ⟨(r1 l).1, (rep (exN l) j (r2 l).2).1, (rep (imN l) j2 t4).1, (cnt l 200 t2).1, l.drop yn⟩ ∧ (r8 l).2 = l.length) := HY0
                clear HY0
                have I8 : Hid (RI w wr w8 (gr + 1) go ⟨.slice a1 (r1 l).1.length c1, .slice ae j ce, .slice ai j2 ci, .int .i64 (cnt l 200 t2).1, .slice none 0 0⟩ (some ⟨b, off, none⟩) n c l (yn : Int)) := I8'.out
                have hx8 : ((n : Int) - (yn : Int) != (n : Int) - (yn : Int)) = false := by simp
                clear hbad HRD I8' R8 y8
                have hyn : yn ≤ n := by omega
                have hcm := HCM.out
                unfold maxLen at hcm
                have hdl : Hid ((l.drop yn).length = n - yn) := by show _ = _; rw [List.length_drop, HL.out]
                have hE := own_empty w8
                have hBE := below_empty w8
                have k3 := (I8.out.sc.below hBE).cells.2
                have hrE := (I8.out.sc.rowW.part (lo := yn) (m := n - yn) (by omega)).below hBE
                rw [List.take_of_length_le (by rw [hdl.out]; exact Nat.le_refl _)] at hrE
                by_cases hcy : c = yn
                · have hny : n = yn := by omega
                  subst hny
                  subst hcy
                  have hd0 : l.drop c = [] := by rw [List.drop_eq_nil_iff, HL.out]; exact Nat.le_refl _
                  have hrF : BRow (w8.alloc (.cells #[] 5)) (some ⟨b, off, none⟩) 0 [] := BRow.empty _
                  clear hrE
                  go_wp2_with (at_builtin; refine wpList_appendB rfl _ _ rfl w8.heap.size _ 0 [] rfl hE _ _ _ [] rfl hrF (by intro hh; cases hh) (by omega) (by simp) ?_)
                  intro v2 w10 ho2 hg2
                  have hb2 := hE.grown hg2 hBE (by simp)
                  have hdl : Hid ((l.drop c).length = 0) := by show _ = _; rw [hd0]; rfl
                  have ho3 : Own w10 w8.heap.size v2 0 (l.drop c) := by rw [hd0]; simpa using ho2
                  clear hd0
                  have own5 := ho3.made hb2
                  obtain ⟨a5, c5, hv5, hm5⟩ := own5
                  subst hv5
                  have I10 : RI w wr w10 (gr + 1) go ⟨.slice a1 (r1 l).1.length c1, .slice ae j ce, .slice ai j2 ci, .int .i64 (cnt l 200 t2).1, .slice none 0 0⟩ (some ⟨b, off, none⟩) c c l (c : Int) := (I8.out.below (below_empty w8)).grown hg2 (by intro g hg; simp [Value.ownBlock] at hg; subst hg; exact I8.out.size)
                  have C10 : Hid ((Fd.b (l.drop c)).Has w10 w8.heap.size (.slice a5 0 c5)) := ⟨a5, c5, by rw [hdl.out], by rw [hdl.out]; exact ho3⟩
                  obtain ⟨m0, m1, m2', m3, m4⟩ := I10.g.facts
                  obtain ⟨n0, n1, n2', n3, n4⟩ := I10.g.frozen
                  simp only at m0 m1 m2' m3 m4
                  have I11 : Hid (RI w wr (w10.setCell ⟨go, 4, none⟩ (.slice a5 0 c5)) (gr + 1) go ⟨.slice a1 (r1 l).1.length c1, .slice ae j ce, .slice ai j2 ci, .int .i64 (cnt l 200 t2).1, .slice a5 0 c5⟩ (some ⟨b, off, none⟩) c c l (c : Int)) := I10.set (I10.g.set4 _)
                  have C11 : Hid ((Fd.b (l.drop c)).Has (w10.setCell ⟨go, 4, none⟩ (.slice a5 0 c5)) w8.heap.size (.slice a5 0 c5)) := C10.out.other (by intro e; have := C10.out.lt _ e; have := I8.out.size; have := I8.out.lt; omega)
                  clear C10 I10 ho2 ho3 hg2 hb2 hm5 hE hrF
                  go_upto_region 26 with fail
                  generalize w10.setCell ⟨go, 4, none⟩ (.slice a5 0 c5) = w11 at *
                  clear m0 m1 m2' m3 m4 n0 n1 n2' n3 n4
                  have KK : KeepO [some (gr + 1), some go] w5 w11 := K6.out.trans I11.out.k
                  have N11 : Hid ((Fd.b (r1 l).1).Has w11 (gr + 2) (.slice a1 (r1 l).1.length c1)) := N5.out.keep2 KK (by omega) NB.out
                  have R11 : Hid (B5 w11 gr 26 ⟨.slice none 0 0, .slice none 0 0, .slice none 0 0, .int .i64 0, .slice none 0 0⟩) := B5.keep R5.out KK (by simp; omega)
                  have E11 : Hid (AL w11 41 w3.heap.size (.slice ae j ce) le (rep (exN l) j (r2 l).2).1) := E5.out.keep2 KK (by omega) (by omega)
                  have J11 : Hid (AL w11 43 w5.heap.size (.slice ai j2 ci) li (rep (imN l) j2 t4).1) := HA2.out.keep2 I11.out.k (by omega) (by omega)
                  have hsz : osz ⟨(r1 l).1, (rep (exN l) j (r2 l).2).1, (rep (imN l) j2 t4).1, (cnt l 200 t2).1, l.drop c⟩ ≤ 1048576 := ob_size HBY.out (by rw [rep_len]; omega) (by rw [rep_len]; omega) (rep_mem (exN_len HBY.out) _ _) (rep_mem (imN_len HBY.out) _ _) (getT_len l 2 HBY.out) (by rw [List.length_drop, HL.out]; omega) _
                  have OR : Hid (ORead w11 ⟨.slice a1 (r1 l).1.length c1, .slice ae j ce, .slice ai j2 ci, .int .i64 (cnt l 200 t2).1, .slice a5 0 c5⟩ ⟨(r1 l).1, (rep (exN l) j (r2 l).2).1, (rep (imN l) j2 t4).1, (cnt l 200 t2).1, l.drop c⟩) := ⟨N11.out.read, E11.out.own.dv, J11.out.own.dv, rfl, C11.out.read, rep_mem (exN_is l) _ _, rep_mem (imN_is l) _ _⟩
                  have HOK := specObjectOkM ⟨.slice a1 (r1 l).1.length c1, .slice ae j ce, .slice ai j2 ci, .int .i64 (cnt l 200 t2).1, .slice a5 0 c5⟩ ⟨(r1 l).1, (rep (exN l) j (r2 l).2).1, (rep (imN l) j2 t4).1, (cnt l 200 t2).1, l.drop c⟩ w11 OR.out hsz
                  simp only at HOK
                  have HEQ : Hid (rdOk l = objOk ⟨(r1 l).1, (rep (exN l) j (r2 l).2).1, (rep (imN l) j2 t4).1, (cnt l 200 t2).1, l.drop c⟩) := by
                    show _ = _
                    rw [← HY.out.1]
                    exact rd_end HST.out HY.out.2
                  obtain ⟨p0, p1, p2, p3, p4⟩ := I11.out.g.facts
                  simp only at p0 p1 p2 p3 p4
                  clear KK hsz
                  go_wp2_with fail
                  refine HOK.mono ?_
                  rintro e w12 ⟨rfl, hb⟩
                  have R12 := R11.out.below hb R11.out.lt
                  have I12 : Hid (RI w wr w12 (gr + 1) go ⟨.slice a1 (r1 l).1.length c1, .slice ae j ce, .slice ai j2 ci, .int .i64 (cnt l 200 t2).1, .slice a5 0 c5⟩ (some ⟨b, off, none⟩) c c l (c : Int)) := I11.out.below hb
                  have y12 : Below w.heap.size w w12 := I12.out.sc.bel
                  have N12 : Hid ((Fd.b (r1 l).1).Has w12 (gr + 2) (.slice a1 (r1 l).1.length c1)) := N11.out.below hb
                  have E12 : Hid (AL w12 41 w3.heap.size (.slice ae j ce) le (rep (exN l) j (r2 l).2).1) := E11.out.below hb
                  have J12 : Hid (AL w12 43 w5.heap.size (.slice ai j2 ci) li (rep (imN l) j2 t4).1) := J11.out.below hb
                  have C12 : Hid ((Fd.b (l.drop c)).Has w12 w8.heap.size (.slice a5 0 c5)) := C11.out.below hb
                  have hw8 : gr + 2 ≤ w8.heap.size := by have := I8.out.size; have := HI2.out.size; omega
                  clear HOK p0 p1 p2 p3 p4 hb
                  cases hv : objOk ⟨(r1 l).1, (rep (exN l) j (r2 l).2).1, (rep (imN l) j2 t4).1, (cnt l 200 t2).1, l.drop c⟩
                  · have HNO : Hid (rdOk l = false) := by show _ = _; rw [HEQ.out]; exact hv
                    clear hv
                    have hgw : w.heap.size ≤ gr := by have := HGR.out; omega
                    obtain ⟨_, _, _, _, _⟩ := R12.facts
                    obtain ⟨f0, f1, f2, f3, f4⟩ := R12.frozen
                    go_wp2_with fail
                    have R9 : B5 (((((w12.setCell ⟨gr, 0, none⟩ (.slice none 0 0)).setCell ⟨gr, 1, none⟩ (.slice none 0 0)).setCell ⟨gr, 2, none⟩ (.slice none 0 0)).setCell ⟨gr, 3, none⟩ (.int .i64 0)).setCell ⟨gr, 4, none⟩ (.slice none 0 0)) gr 26 ⟨.slice none 0 0, .slice none 0 0, .slice none 0 0, .int .i64 0, .slice none 0 0⟩ := ((((R12.set0 _).set1 _).set2 _).set3 _).set4 _
                    have Y9 : Below w.heap.size w (((((w12.setCell ⟨gr, 0, none⟩ (.slice none 0 0)).setCell ⟨gr, 1, none⟩ (.slice none 0 0)).setCell ⟨gr, 2, none⟩ (.slice none 0 0)).setCell ⟨gr, 3, none⟩ (.int .i64 0)).setCell ⟨gr, 4, none⟩ (.slice none 0 0)) := ((((y12.setCell hgw _).setCell hgw _).setCell hgw _).setCell hgw _).setCell hgw _
                    generalize (((((w12.setCell ⟨gr, 0, none⟩ (.slice none 0 0)).setCell ⟨gr, 1, none⟩ (.slice none 0 0)).setCell ⟨gr, 2, none⟩ (.slice none 0 0)).setCell ⟨gr, 3, none⟩ (.int .i64 0)).setCell ⟨gr, 4, none⟩ (.slice none 0 0)) = w9 at *
                    obtain ⟨d0, d1, d2, d3, d4⟩ := R9.facts
                    simp only at d0 d1 d2 d3 d4
                    refine bodyPost_ret (v := .tuple #[.agg #[.slice none 0 0, .slice none 0 0, .slice none 0 0, .int .i64 0, .slice none 0 0], .bool false]) (by simp [results, Try.results4, go_sem, d0, d1, d2, d3, d4]) rfl ⟨⟨.slice none 0 0, .slice none 0 0, .slice none 0 0, .int .i64 0, .slice none 0 0⟩, ?_, ?_, Y9⟩
                    · rw [HNO.out]
                    · rw [rdR_no HNO.out]
                      exact (OOwn.zero _ 0).read (by intro d hd; cases hd) (by intro d hd; cases hd)
                  · have HYES : Hid (rdOk l = true) := by show _ = _; rw [HEQ.out]; exact hv
                    clear hv
                    obtain ⟨p0, p1, p2, p3, p4⟩ := I12.out.g.facts
                    simp only at p0 p1 p2 p3 p4
                    obtain ⟨_, _, _, _, _⟩ := R12.facts
                    obtain ⟨f0, f1, f2, f3, f4⟩ := R12.frozen
                    go_wp2_with fail
                    have hgw : w.heap.size ≤ gr := by have := HGR.out; omega
                    have R9 : B5 (((((w12.setCell ⟨gr, 0, none⟩ (.slice a1 (r1 l).1.length c1)).setCell ⟨gr, 1, none⟩ (.slice ae j ce)).setCell ⟨gr, 2, none⟩ (.slice ai j2 ci)).setCell ⟨gr, 3, none⟩ (.int .i64 (cnt l 200 t2).1)).setCell ⟨gr, 4, none⟩ (.slice a5 0 c5)) gr 26 ⟨.slice a1 (r1 l).1.length c1, .slice ae j ce, .slice ai j2 ci, .int .i64 (cnt l 200 t2).1, .slice a5 0 c5⟩ := ((((R12.set0 _).set1 _).set2 _).set3 _).set4 _
                    have Y9 : Below w.heap.size w (((((w12.setCell ⟨gr, 0, none⟩ (.slice a1 (r1 l).1.length c1)).setCell ⟨gr, 1, none⟩ (.slice ae j ce)).setCell ⟨gr, 2, none⟩ (.slice ai j2 ci)).setCell ⟨gr, 3, none⟩ (.int .i64 (cnt l 200 t2).1)).setCell ⟨gr, 4, none⟩ (.slice a5 0 c5)) := ((((y12.setCell hgw _).setCell hgw _).setCell hgw _).setCell hgw _).setCell hgw _
                    have hlw : gr < gr + 2 := by omega
                    have C9 : Same (gr + 2) w12 (((((w12.setCell ⟨gr, 0, none⟩ (.slice a1 (r1 l).1.length c1)).setCell ⟨gr, 1, none⟩ (.slice ae j ce)).setCell ⟨gr, 2, none⟩ (.slice ai j2 ci)).setCell ⟨gr, 3, none⟩ (.int .i64 (cnt l 200 t2).1)).setCell ⟨gr, 4, none⟩ (.slice a5 0 c5)) := ((((Same.put hlw).trans (Same.put hlw)).trans (Same.put hlw)).trans (Same.put hlw)).trans (Same.put hlw)
                    generalize (((((w12.setCell ⟨gr, 0, none⟩ (.slice a1 (r1 l).1.length c1)).setCell ⟨gr, 1, none⟩ (.slice ae j ce)).setCell ⟨gr, 2, none⟩ (.slice ai j2 ci)).setCell ⟨gr, 3, none⟩ (.int .i64 (cnt l 200 t2).1)).setCell ⟨gr, 4, none⟩ (.slice a5 0 c5)) = w9 at *
                    obtain ⟨d0, d1, d2, d3, d4⟩ := R9.facts
                    simp only at d0 d1 d2 d3 d4
                    refine bodyPost_ret (v := .tuple #[.agg #[.slice a1 (r1 l).1.length c1, .slice ae j ce, .slice ai j2 ci, .int .i64 (cnt l 200 t2).1, .slice a5 0 c5], .bool true]) (by simp [results, Try.results4, go_sem, d0, d1, d2, d3, d4]) rfl ⟨⟨.slice a1 (r1 l).1.length c1, .slice ae j ce, .slice ai j2 ci, .int .i64 (cnt l 200 t2).1, .slice a5 0 c5⟩, ?_, ?_, Y9⟩
                    · rw [HYES.out]
                    · rw [rdR_yes HYES.out, HY.out.1]
                      exact ⟨(N12.out.same C9).read, (E12.out.same (C9.mono (by omega))).own.dv, (J12.out.same (C9.mono (by omega))).own.dv, rfl, (C12.out.same (C9.mono (by omega))).read, rep_mem (exN_is l) _ _, rep_mem (imN_is l) _ _⟩
                · have hrF : BRow (w8.alloc (.cells #[] 5)) (some ⟨b, off + yn, none⟩) (n - yn) (l.drop yn) := hrE
                  clear hrE
                  go_wp2_with (at_builtin; refine wpList_appendB rfl _ _ rfl w8.heap.size _ 0 [] rfl hE _ (n - yn) _ (l.drop yn) rfl hrF (by intro hh; cases hh) (by omega) (by simp) ?_)
                  intro v2 w10 ho2 hg2
                  have hb2 := hE.grown hg2 hBE (by simp)
                  have ho3 : Own w10 w8.heap.size v2 (n - yn) (l.drop yn) := by simpa using ho2
                  have own5 := ho3.made hb2
                  obtain ⟨a5, c5, hv5, hm5⟩ := own5
                  subst hv5
                  have I10 : RI w wr w10 (gr + 1) go ⟨.slice a1 (r1 l).1.length c1, .slice ae j ce, .slice ai j2 ci, .int .i64 (cnt l 200 t2).1, .slice none 0 0⟩ (some ⟨b, off, none⟩) n c l (yn : Int) := (I8.out.below (below_empty w8)).grown hg2 (by intro g hg; simp [Value.ownBlock] at hg; subst hg; exact I8.out.size)
                  have C10 : Hid ((Fd.b (l.drop yn)).Has w10 w8.heap.size (.slice a5 (n - yn) c5)) := ⟨a5, c5, by rw [hdl.out], by rw [hdl.out]; exact ho3⟩
                  obtain ⟨m0, m1, m2', m3, m4⟩ := I10.g.facts
                  obtain ⟨n0, n1, n2', n3, n4⟩ := I10.g.frozen
                  simp only at m0 m1 m2' m3 m4
                  have I11 : Hid (RI w wr (w10.setCell ⟨go, 4, none⟩ (.slice a5 (n - yn) c5)) (gr + 1) go ⟨.slice a1 (r1 l).1.length c1, .slice ae j ce, .slice ai j2 ci, .int .i64 (cnt l 200 t2).1, .slice a5 (n - yn) c5⟩ (some ⟨b, off, none⟩) n c l (yn : Int)) := I10.set (I10.g.set4 _)
                  have C11 : Hid ((Fd.b (l.drop yn)).Has (w10.setCell ⟨go, 4, none⟩ (.slice a5 (n - yn) c5)) w8.heap.size (.slice a5 (n - yn) c5)) := C10.out.other (by intro e; have := C10.out.lt _ e; have := I8.out.size; have := I8.out.lt; omega)
                  clear C10 I10 ho2 ho3 hg2 hb2 hm5 hE hrF
                  go_upto_region 26 with fail
                  generalize w10.setCell ⟨go, 4, none⟩ (.slice a5 (n - yn) c5) = w11 at *
                  clear m0 m1 m2' m3 m4 n0 n1 n2' n3 n4
                  have KK : KeepO [some (gr + 1), some go] w5 w11 := K6.out.trans I11.out.k
                  have N11 : Hid ((Fd.b (r1 l).1).Has w11 (gr + 2) (.slice a1 (r1 l).1.length c1)) := N5.out.keep2 KK (by omega) NB.out
                  have R11 : Hid (B5 w11 gr 26 ⟨.slice none 0 0, .slice none 0 0, .slice none 0 0, .int .i64 0, .slice none 0 0⟩) := B5.keep R5.out KK (by simp; omega)
                  have E11 : Hid (AL w11 41 w3.heap.size (.slice ae j ce) le (rep (exN l) j (r2 l).2).1) := E5.out.keep2 KK (by omega) (by omega)
                  have J11 : Hid (AL w11 43 w5.heap.size (.slice ai j2 ci) li (rep (imN l) j2 t4).1) := HA2.out.keep2 I11.out.k (by omega) (by omega)
                  have hsz : osz ⟨(r1 l).1, (rep (exN l) j (r2 l).2).1, (rep (imN l) j2 t4).1, (cnt l 200 t2).1, l.drop yn⟩ ≤ 1048576 := ob_size HBY.out (by rw [rep_len]; omega) (by rw [rep_len]; omega) (rep_mem (exN_len HBY.out) _ _) (rep_mem (imN_len HBY.out) _ _) (getT_len l 2 HBY.out) (by rw [List.length_drop, HL.out]; omega) _
                  have OR : Hid (ORead w11 ⟨.slice a1 (r1 l).1.length c1, .slice ae j ce, .slice ai j2 ci, .int .i64 (cnt l 200 t2).1, .slice a5 (n - yn) c5⟩ ⟨(r1 l).1, (rep (exN l) j (r2 l).2).1, (rep (imN l) j2 t4).1, (cnt l 200 t2).1, l.drop yn⟩) := ⟨N11.out.read, E11.out.own.dv, J11.out.own.dv, rfl, C11.out.read, rep_mem (exN_is l) _ _, rep_mem (imN_is l) _ _⟩
                  have HOK := specObjectOkM ⟨.slice a1 (r1 l).1.length c1, .slice ae j ce, .slice ai j2 ci, .int .i64 (cnt l 200 t2).1, .slice a5 (n - yn) c5⟩ ⟨(r1 l).1, (rep (exN l) j (r2 l).2).1, (rep (imN l) j2 t4).1, (cnt l 200 t2).1, l.drop yn⟩ w11 OR.out hsz
                  simp only at HOK
                  have HEQ : Hid (rdOk l = objOk ⟨(r1 l).1, (rep (exN l) j (r2 l).2).1, (rep (imN l) j2 t4).1, (cnt l 200 t2).1, l.drop yn⟩) := by
                    show _ = _
                    rw [← HY.out.1]
                    exact rd_end HST.out HY.out.2
                  obtain ⟨p0, p1, p2, p3, p4⟩ := I11.out.g.facts
                  simp only at p0 p1 p2 p3 p4
                  clear KK hsz
                  go_wp2_with fail
                  refine HOK.mono ?_
                  rintro e w12 ⟨rfl, hb⟩
                  have R12 := R11.out.below hb R11.out.lt
                  have I12 : Hid (RI w wr w12 (gr + 1) go ⟨.slice a1 (r1 l).1.length c1, .slice ae j ce, .slice ai j2 ci, .int .i64 (cnt l 200 t2).1, .slice a5 (n - yn) c5⟩ (some ⟨b, off, none⟩) n c l (yn : Int)) := I11.out.below hb
                  have y12 : Below w.heap.size w w12 := I12.out.sc.bel
                  have N12 : Hid ((Fd.b (r1 l).1).Has w12 (gr + 2) (.slice a1 (r1 l).1.length c1)) := N11.out.below hb
                  have E12 : Hid (AL w12 41 w3.heap.size (.slice ae j ce) le (rep (exN l) j (r2 l).2).1) := E11.out.below hb
                  have J12 : Hid (AL w12 43 w5.heap.size (.slice ai j2 ci) li (rep (imN l) j2 t4).1) := J11.out.below hb
                  have C12 : Hid ((Fd.b (l.drop yn)).Has w12 w8.heap.size (.slice a5 (n - yn) c5)) := C11.out.below hb
                  have hw8 : gr + 2 ≤ w8.heap.size := by have := I8.out.size; have := HI2.out.size; omega
                  clear HOK p0 p1 p2 p3 p4 hb
                  cases hv : objOk ⟨(r1 l).1, (rep (exN l) j (r2 l).2).1, (rep (imN l) j2 t4).1, (cnt l 200 t2).1, l.drop yn⟩
                  · have HNO : Hid (rdOk l = false) := by show _ = _; rw [HEQ.out]; exact hv
                    clear hv
                    have hgw : w.heap.size ≤ gr := by have := HGR.out; omega
                    obtain ⟨_, _, _, _, _⟩ := R12.facts
                    obtain ⟨f0, f1, f2, f3, f4⟩ := R12.frozen
                    go_wp2_with fail
                    have R9 : B5 (((((w12.setCell ⟨gr, 0, none⟩ (.slice none 0 0)).setCell ⟨gr, 1, none⟩ (.slice none 0 0)).setCell ⟨gr, 2, none⟩ (.slice none 0 0)).setCell ⟨gr, 3, none⟩ (.int .i64 0)).setCell ⟨gr, 4, none⟩ (.slice none 0 0)) gr 26 ⟨.slice none 0 0, .slice none 0 0, .slice none 0 0, .int .i64 0, .slice none 0 0⟩ := ((((R12.set0 _).set1 _).set2 _).set3 _).set4 _
                    have Y9 : Below w.heap.size w (((((w12.setCell ⟨gr, 0, none⟩ (.slice none 0 0)).setCell ⟨gr, 1, none⟩ (.slice none 0 0)).setCell ⟨gr, 2, none⟩ (.slice none 0 0)).setCell ⟨gr, 3, none⟩ (.int .i64 0)).setCell ⟨gr, 4, none⟩ (.slice none 0 0)) := ((((y12.setCell hgw _).setCell hgw _).setCell hgw _).setCell hgw _).setCell hgw _
                    generalize (((((w12.setCell ⟨gr, 0, none⟩ (.slice none 0 0)).setCell ⟨gr, 1, none⟩ (.slice none 0 0)).setCell ⟨gr, 2, none⟩ (.slice none 0 0)).setCell ⟨gr, 3, none⟩ (.int .i64 0)).setCell ⟨gr, 4, none⟩ (.slice none 0 0)) = w9 at *
                    obtain ⟨d0, d1, d2, d3, d4⟩ := R9.facts
                    simp only at d0 d1 d2 d3 d4
                    refine bodyPost_ret (v := .tuple #[.agg #[.slice none 0 0, .slice none 0 0, .slice none 0 0, .int .i64 0, .slice none 0 0], .bool false]) (by simp [results, Try.results4, go_sem, d0, d1, d2, d3, d4]) rfl ⟨⟨.slice none 0 0, .slice none 0 0, .slice none 0 0, .int .i64 0, .slice none 0 0⟩, ?_, ?_, Y9⟩
                    · rw [HNO.out]
                    · rw [rdR_no HNO.out]
                      exact (OOwn.zero _ 0).read (by intro d hd; cases hd) (by intro d hd; cases hd)
                  · have HYES : Hid (rdOk l = true) := by show _ = _; rw [HEQ.out]; exact hv
                    clear hv
                    obtain ⟨p0, p1, p2, p3, p4⟩ := I12.out.g.facts
                    simp only at p0 p1 p2 p3 p4
                    obtain ⟨_, _, _, _, _⟩ := R12.facts
                    obtain ⟨f0, f1, f2, f3, f4⟩ := R12.frozen
                    go_wp2_with fail
                    have hgw : w.heap.size ≤ gr := by have := HGR.out; omega
                    have R9 : B5 (((((w12.setCell ⟨gr, 0, none⟩ (.slice a1 (r1 l).1.length c1)).setCell ⟨gr, 1, none⟩ (.slice ae j ce)).setCell ⟨gr, 2, none⟩ (.slice ai j2 ci)).setCell ⟨gr, 3, none⟩ (.int .i64 (cnt l 200 t2).1)).setCell ⟨gr, 4, none⟩ (.slice a5 (n - yn) c5)) gr 26 ⟨.slice a1 (r1 l).1.length c1, .slice ae j ce, .slice ai j2 ci, .int .i64 (cnt l 200 t2).1, .slice a5 (n - yn) c5⟩ := ((((R12.set0 _).set1 _).set2 _).set3 _).set4 _
                    have Y9 : Below w.heap.size w (((((w12.setCell ⟨gr, 0, none⟩ (.slice a1 (r1 l).1.length c1)).setCell ⟨gr, 1, none⟩ (.slice ae j ce)).setCell ⟨gr, 2, none⟩ (.slice ai j2 ci)).setCell ⟨gr, 3, none⟩ (.int .i64 (cnt l 200 t2).1)).setCell ⟨gr, 4, none⟩ (.slice a5 (n - yn) c5)) := ((((y12.setCell hgw _).setCell hgw _).setCell hgw _).setCell hgw _).setCell hgw _
                    have hlw : gr < gr + 2 := by omega
                    have C9 : Same (gr + 2) w12 (((((w12.setCell ⟨gr, 0, none⟩ (.slice a1 (r1 l).1.length c1)).setCell ⟨gr, 1, none⟩ (.slice ae j ce)).setCell ⟨gr, 2, none⟩ (.slice ai j2 ci)).setCell ⟨gr, 3, none⟩ (.int .i64 (cnt l 200 t2).1)).setCell ⟨gr, 4, none⟩ (.slice a5 (n - yn) c5)) := ((((Same.put hlw).trans (Same.put hlw)).trans (Same.put hlw)).trans (Same.put hlw)).trans (Same.put hlw)
                    generalize (((((w12.setCell ⟨gr, 0, none⟩ (.slice a1 (r1 l).1.length c1)).setCell ⟨gr, 1, none⟩ (.slice ae j ce)).setCell ⟨gr, 2, none⟩ (.slice ai j2 ci)).setCell ⟨gr, 3, none⟩ (.int .i64 (cnt l 200 t2).1)).setCell ⟨gr, 4, none⟩ (.slice a5 (n - yn) c5)) = w9 at *
                    obtain ⟨d0, d1, d2, d3, d4⟩ := R9.facts
                    simp only at d0 d1 d2 d3 d4
                    refine bodyPost_ret (v := .tuple #[.agg #[.slice a1 (r1 l).1.length c1, .slice ae j ce, .slice ai j2 ci, .int .i64 (cnt l 200 t2).1, .slice a5 (n - yn) c5], .bool true]) (by simp [results, Try.results4, go_sem, d0, d1, d2, d3, d4]) rfl ⟨⟨.slice a1 (r1 l).1.length c1, .slice ae j ce, .slice ai j2 ci, .int .i64 (cnt l 200 t2).1, .slice a5 (n - yn) c5⟩, ?_, ?_, Y9⟩
                    · rw [HYES.out]
                    · rw [rdR_yes HYES.out, HY.out.1]
                      exact ⟨(N12.out.same C9).read, (E12.out.same (C9.mono (by omega))).own.dv, (J12.out.same (C9.mono (by omega))).own.dv, rfl, (C12.out.same (C9.mono (by omega))).read, rep_mem (exN_is l) _ _, rep_mem (imN_is l) _ _⟩
      · clear hgo1
        go_upto_region 13 with fail
        have L9 := l5getM HI.out.sc 8 (by decide)
        go_wp2_with fail
        refine L9.mono ?_
        rintro e w5 ⟨rfl, ss, kk⟩
        obtain ⟨m2, hm2⟩ : ∃ m2 : Nat, m2 = (cnt l 8 t).1.toNat := ⟨_, rfl⟩
        have hcn2 := cnt_num HBY.out (m := 8) (by decide) t
        have hm8 : m2 ≤ 8 := by omega
        have ec : (cnt l 8 t).1 = ((m2 : Nat) : Int) := by omega
        rw [ec]
        obtain ⟨t4, ht4⟩ : ∃ t4, t4 = (cnt l 8 t).2 := ⟨_, rfl⟩
        rw [← ht4] at ss
        have HM2 : Hid (m2 = (cnt l 8 t).1.toNat ∧ t4 = (cnt l 8 t).2) := ⟨hm2, ht4⟩
        clear hm2 ht4 hcn2 ec L9 k2
        have hzA : wr.heap.size ≤ w5.heap.size := kk.size
        have I5' : RI w w3 w5 (gr + 1) go ⟨.slice a1 (r1 l).1.length c1, .slice ae j ce, .slice none 0 0, .int .i64 0, .slice none 0 0⟩ (some ⟨b, off, none⟩) n c l t4 := HI.out.call ss kk
        have I5 : Hid (RI w w5 w5 (gr + 1) go ⟨.slice a1 (r1 l).1.length c1, .slice ae j ce, .slice none 0 0, .int .i64 0, .slice none 0 0⟩ (some ⟨b, off, none⟩) n c l t4) := I5'.restart
        have N5 : Hid ((Fd.b (r1 l).1).Has w5 (gr + 2) (.slice a1 (r1 l).1.length c1)) := N3.out.keep2 I5'.k (by omega) NB.out
        have R5 : Hid (B5 w5 gr 26 ⟨.slice none 0 0, .slice none 0 0, .slice none 0 0, .int .i64 0, .slice none 0 0⟩) := B5.keep x3 I5'.k (by simp; omega)
        have E5 : Hid (AL w5 41 w3.heap.size (.slice ae j ce) le (rep (exN l) j (r2 l).2).1) := HA.out.keep2 (kk.more (os' := [some (gr + 1), some go]) (by simp)) (by omega) (by omega)
        have A5 : Hid (AL w5 43 w5.heap.size (.slice none 0 0) [] []) := AL.nil _ _ _
        clear I5' ss kk HI HA
        go_wp2_with fail
        go_loopw [9, 10] (fun i x wr => ∃ j2 : Nat, j2 ≤ m2 ∧ i = .int .i64 j2 ∧ Hid (∃ ai ci li, AL wr 43 w5.heap.size (.slice ai j2 ci) li (rep (imN l) j2 t4).1 ∧ RI w w5 wr (gr + 1) go ⟨.slice a1 (r1 l).1.length c1, .slice ae j ce, .slice ai j2 ci, .int .i64 0, .slice none 0 0⟩ (some ⟨b, off, none⟩) n c l (rep (imN l) j2 t4).2)) (fun i _ _ => m2 - (intOf i).toNat)
        case atStart => exact ⟨0, Nat.zero_le _, rfl, none, 0, [], A5.out, I5.out⟩
        case round =>
          obtain ⟨j2, hj2, rfl, HR⟩ := hrel
          obtain ⟨ai, ci, li, hA, hI⟩ := HR.out
          clear HR
          obtain ⟨t2, ht⟩ : ∃ t2, t2 = (rep (imN l) j2 t4).2 := ⟨_, rfl⟩
          rw [← ht] at hI
          have HT2 : Hid (t2 = (rep (imN l) j2 t4).2) := ht
          clear ht
          have hzr2 : w5.heap.size ≤ wr.heap.size := hI.size
          have hgc2 := hI.lt
          have HA2 : Hid (AL wr 43 w5.heap.size (.slice ai j2 ci) li (rep (imN l) j2 t4).1) := hA
          clear hA
          have HI2 : Hid (RI w w5 wr (gr + 1) go ⟨.slice a1 (r1 l).1.length c1, .slice ae j ce, .slice ai j2 ci, .int .i64 0, .slice none 0 0⟩ (some ⟨b, off, none⟩) n c l t2) := hI
          clear hI
          have k2 := HI2.out.sc.cells.2
          by_cases hgo1 : j2 < m2 ∧ 0 ≤ t2
          · obtain ⟨hlt1, ht0⟩ := hgo1
            have L0 := l5textM HI2.out.sc
            go_wp2_with fail
            refine L0.mono ?_
            rintro e wA ⟨ax, nx, cx, rfl, en, hh, ss, kk⟩
            subst en
            clear L0 k2
            have IA : Hid (RI w w5 wA (gr + 1) go ⟨.slice a1 (r1 l).1.length c1, .slice ae j ce, .slice ai j2 ci, .int .i64 0, .slice none 0 0⟩ (some ⟨b, off, none⟩) n c l (getT l t2).2) := HI2.out.call ss kk
            have KA : Hid (KeepO [some (gr + 1)] wr wA) := kk
            have F0 : Hid ((Fd.b (getT l t2).1).Has wA wr.heap.size (.slice ax (getT l t2).1.length cx)) := hh
            have hA1 : wr.heap.size ≤ wA.heap.size := kk.size
            have B0 : Hid (∀ g, (Value.ownBlock (.slice ax (getT l t2).1.length cx)) = some g → wr.heap.size ≤ g ∧ g < wA.heap.size) := fun g hg => hh.lt g hg
            clear hh ss kk
            have X0 : Hid (B3 (wA.alloc (.cells #[.slice ax (getT l t2).1.length cx, .slice none 0 0, .int .i64 0] 43 (0, 0))) wA.heap.size 43 (.slice ax (getT l t2).1.length cx) (.slice none 0 0) (.int .i64 0)) := B3.new _ _ _ _ _
            have bB : Below wA.heap.size wA (wA.alloc (.cells #[.slice ax (getT l t2).1.length cx, .slice none 0 0, .int .i64 0] 43 (0, 0))) := (Below.refl _ _).alloc (Nat.le_refl _) _
            have IB : Hid (RI w w5 (wA.alloc (.cells #[.slice ax (getT l t2).1.length cx, .slice none 0 0, .int .i64 0] 43 (0, 0))) (gr + 1) go ⟨.slice a1 (r1 l).1.length c1, .slice ae j ce, .slice ai j2 ci, .int .i64 0, .slice none 0 0⟩ (some ⟨b, off, none⟩) n c l (getT l t2).2) := IA.out.below bB
            have F1 : Hid ((Fd.b (getT l t2).1).Has (wA.alloc (.cells #[.slice ax (getT l t2).1.length cx, .slice none 0 0, .int .i64 0] 43 (0, 0))) wr.heap.size (.slice ax (getT l t2).1.length cx)) := F0.out.below bB
            have KB : Hid (KeepO [some (gr + 1)] wr (wA.alloc (.cells #[.slice ax (getT l t2).1.length cx, .slice none 0 0, .int .i64 0] 43 (0, 0)))) := KA.out.trans (Below.keepO bB _)
            have hB1 : wA.heap.size < (wA.alloc (.cells #[.slice ax (getT l t2).1.length cx, .slice none 0 0, .int .i64 0] 43 (0, 0))).heap.size := by simp
            go_upto_region 18 with fail
            generalize wA.alloc (.cells #[.slice ax (getT l t2).1.length cx, .slice none 0 0, .int .i64 0] 43 (0, 0)) = wB at *
            clear IA KA F0 bB
            generalize hgx : wA.heap.size = gx at *
            clear hgx
            have L1 := l5textM IB.out.sc
            go_wp2_with fail
            refine L1.mono ?_
            rintro e wC ⟨ay, ny, cy, rfl, en, hh, ss, kk⟩
            subst en
            clear L1
            have B1 : Hid (∀ g, (Value.ownBlock (.slice ay (getT l (getT l t2).2).1.length cy)) = some g → wB.heap.size ≤ g ∧ g < wC.heap.size) := fun g hg => hh.lt g hg
            have I1 : Hid (RI w w5 wC (gr + 1) go ⟨.slice a1 (r1 l).1.length c1, .slice ae j ce, .slice ai j2 ci, .int .i64 0, .slice none 0 0⟩ (some ⟨b, off, none⟩) n c l (getT l (getT l t2).2).2) := IB.out.call ss kk
            have K1 : Hid (KeepO [some (gr + 1)] wr wC) := KB.out.trans kk
            have hs1 : wB.heap.size ≤ wC.heap.size := kk.size
            have X1 : Hid (B3 wC gx 43 (.slice ax (getT l t2).1.length cx) (.slice none 0 0) (.int .i64 0)) := X0.out.keep kk (by simp; omega)
            have G1 : Hid ((Fd.b (getT l t2).1).Has wC wr.heap.size (.slice ax (getT l t2).1.length cx)) := F1.out.keep kk (.inr (by intro e; simp at e; have := B0.out _ e; omega))
            have Y1 : Hid ((Fd.b (getT l (getT l t2).2).1).Has wC wB.heap.size (.slice ay (getT l (getT l t2).2).1.length cy)) := hh
            clear ss kk IB KB F1 X0 hh
            obtain ⟨f0, f1, f2, e0, e1, e2⟩ := X1.out.facts
            go_upto_region 19 with fail
            have J1 : Hid (RI w w5 (wC.setCell ⟨gx, 1, none⟩ (.slice ay (getT l (getT l t2).2).1.length cy)) (gr + 1) go ⟨.slice a1 (r1 l).1.length c1, .slice ae j ce, .slice ai j2 ci, .int .i64 0, .slice none 0 0⟩ (some ⟨b, off, none⟩) n c l (getT l (getT l t2).2).2) := I1.out.other (by omega) _ _
            have M1 : Hid (KeepO [some (gr + 1)] wr (wC.setCell ⟨gx, 1, none⟩ (.slice ay (getT l (getT l t2).2).1.length cy))) := K1.out.put (by omega) _ _
            have U1 : Hid (B3 (wC.setCell ⟨gx, 1, none⟩ (.slice ay (getT l (getT l t2).2).1.length cy)) gx 43 (.slice ax (getT l t2).1.length cx) (.slice ay (getT l (getT l t2).2).1.length cy) (.int .i64 0)) := X1.out.set1 _
            have V1 : Hid ((Fd.b (getT l t2).1).Has (wC.setCell ⟨gx, 1, none⟩ (.slice ay (getT l (getT l t2).2).1.length cy)) wr.heap.size (.slice ax (getT l t2).1.length cx)) := G1.out.other (by intro e; have := B0.out _ e; omega)
            have W1 : Hid ((Fd.b (getT l (getT l t2).2).1).Has (wC.setCell ⟨gx, 1, none⟩ (.slice ay (getT l (getT l t2).2).1.length cy)) wB.heap.size (.slice ay (getT l (getT l t2).2).1.length cy)) := Y1.out.other (by intro e; have := B1.out _ e; omega)
            have hs1x : (wC.setCell ⟨gx, 1, none⟩ (.slice ay (getT l (getT l t2).2).1.length cy)).heap.size ≤ wC.heap.size ∧ wC.heap.size ≤ (wC.setCell ⟨gx, 1, none⟩ (.slice ay (getT l (getT l t2).2).1.length cy)).heap.size := by simp
            clear f0 f1 f2 e0 e1 e2 I1 K1 X1 G1 Y1
            generalize (wC.setCell ⟨gx, 1, none⟩ (.slice ay (getT l (getT l t2).2).1.length cy)) = wCx at *
            have L2 := l5getM J1.out.sc 2147483647 (by decide)
            rw [cnt_max HBY.out] at L2
            go_wp2_with fail
            refine L2.mono ?_
            rintro e wD ⟨rfl, ss, kk⟩
            clear L2
            have I2 : Hid (RI w w5 wD (gr + 1) go ⟨.slice a1 (r1 l).1.length c1, .slice ae j ce, .slice ai j2 ci, .int .i64 0, .slice none 0 0⟩ (some ⟨b, off, none⟩) n c l (getL l (getT l (getT l t2).2).2).2) := J1.out.call ss kk
            have K2 : Hid (KeepO [some (gr + 1)] wr wD) := M1.out.trans kk
            have hs2 : wCx.heap.size ≤ wD.heap.size := kk.size
            have X2 : Hid (B3 wD gx 43 (.slice ax (getT l t2).1.length cx) (.slice ay (getT l (getT l t2).2).1.length cy) (.int .i64 0)) := U1.out.keep kk (by simp; omega)
            have G2 : Hid ((Fd.b (getT l t2).1).Has wD wr.heap.size (.slice ax (getT l t2).1.length cx)) := V1.out.keep kk (.inr (by intro e; simp at e; have := B0.out _ e; omega))
            have Y2 : Hid ((Fd.b (getT l (getT l t2).2).1).Has wD wB.heap.size (.slice ay (getT l (getT l t2).2).1.length cy)) := W1.out.keep kk (.inr (by intro e; simp at e; have := B1.out _ e; omega))
            clear ss kk J1 M1 V1 U1 W1
            obtain ⟨f0, f1, f2, e0, e1, e2⟩ := X2.out.facts
            go_upto_region 20 with fail
            have J2 : Hid (RI w w5 (wD.setCell ⟨gx, 2, none⟩ (.int .i64 (getL l (getT l (getT l t2).2).2).1)) (gr + 1) go ⟨.slice a1 (r1 l).1.length c1, .slice ae j ce, .slice ai j2 ci, .int .i64 0, .slice none 0 0⟩ (some ⟨b, off, none⟩) n c l (getL l (getT l (getT l t2).2).2).2) := I2.out.other (by omega) _ _
            have M2 : Hid (KeepO [some (gr + 1)] wr (wD.setCell ⟨gx, 2, none⟩ (.int .i64 (getL l (getT l (getT l t2).2).2).1))) := K2.out.put (by omega) _ _
            have U2 : Hid (B3 (wD.setCell ⟨gx, 2, none⟩ (.int .i64 (getL l (getT l (getT l t2).2).2).1)) gx 43 (.slice ax (getT l t2).1.length cx) (.slice ay (getT l (getT l t2).2).1.length cy) (.int .i64 (getL l (getT l (getT l t2).2).2).1)) := X2.out.set2 _
            have V2 : Hid ((Fd.b (getT l t2).1).Has (wD.setCell ⟨gx, 2, none⟩ (.int .i64 (getL l (getT l (getT l t2).2).2).1)) wr.heap.size (.slice ax (getT l t2).1.length cx)) := G2.out.other (by intro e; have := B0.out _ e; omega)
            have W2 : Hid ((Fd.b (getT l (getT l t2).2).1).Has (wD.setCell ⟨gx, 2, none⟩ (.int .i64 (getL l (getT l (getT l t2).2).2).1)) wB.heap.size (.slice ay (getT l (getT l t2).2).1.length cy)) := Y2.out.other (by intro e; have := B1.out _ e; omega)
            have hs2x : (wD.setCell ⟨gx, 2, none⟩ (.int .i64 (getL l (getT l (getT l t2).2).2).1)).heap.size ≤ wD.heap.size ∧ wD.heap.size ≤ (wD.setCell ⟨gx, 2, none⟩ (.int .i64 (getL l (getT l (getT l t2).2).2).1)).heap.size := by simp
            clear f0 f1 f2 e0 e1 e2 I2 K2 X2 G2 Y2
            generalize (wD.setCell ⟨gx, 2, none⟩ (.int .i64 (getL l (getT l (getT l t2).2).2).1)) = wDx at *
            have HHs : Hid (Hs wDx wr.heap.size ⟨.slice ax (getT l t2).1.length cx, .slice ay (getT l (getT l t2).2).1.length cy, .int .i64 (getL l (getT l (getT l t2).2).2).1⟩ (imN l t2).1) := ⟨V2.out, W2.out.mono (by omega), rfl⟩
            have HBk : Hid (Bk wr.heap.size wDx.heap.size (R3.owns ⟨.slice ax (getT l t2).1.length cx, .slice ay (getT l (getT l t2).2).1.length cy, .int .i64 (getL l (getT l (getT l t2).2).2).1⟩)) := bk_two (mid := wB.heap.size) (fun g hg => by have := B0.out g hg; omega) (fun g hg => by have := B1.out g hg; omega) (by omega) (by omega) rfl
            have hone := HHs.out.oneE
            obtain ⟨q0, q1, q2, _, _, _⟩ := U2.out.facts
            obtain ⟨p0, p1, p2, p3, p4⟩ := J2.out.g.facts
            simp only at p0 p1 p2 p3 p4
            have x5 := B3.new wDx 43 (.slice ax (getT l t2).1.length cx) (.slice ay (getT l (getT l t2).2).1.length cy) (.int .i64 (getL l (getT l (getT l t2).2).2).1)
            have y5 : Below wDx.heap.size wDx (wDx.alloc (.cells #[.slice ax (getT l t2).1.length cx, .slice ay (getT l (getT l t2).2).1.length cy, .int .i64 (getL l (getT l (getT l t2).2).2).1] 43 (0, 0))) := (Below.refl _ _).alloc (Nat.le_refl _) _
            have hsm : Same w5.heap.size wr wDx := M2.out.same (by omega)
            have HSM : Hid (Same w5.heap.size wr wDx) := hsm
            clear hsm
            have HO : Hid ((wDx.alloc (.cells #[.slice ax (getT l t2).1.length cx, .slice ay (getT l (getT l t2).2).1.length cy, .int .i64 (getL l (getT l (getT l t2).2).2).1] 43 (0, 0))).ownsRow w5.heap.size 43 3 (.slice ai j2 ci) j2 (flat3 li)) := by
              have h1 := (((HA2.out.same HSM.out).below y5).own).row
              rwa [rep_len] at h1
            have hcu : w5.heap.size ≤ wDx.heap.size := by omega
            go_wp2_with (at_builtin; refine wpList_appendM rfl _ _ rfl w5.heap.size _ j2 li rfl HO.out wDx.heap.size ⟨.slice ax (getT l t2).1.length cx, .slice ay (getT l (getT l t2).2).1.length cy, .int .i64 (getL l (getT l (getT l t2).2).2).1⟩ rfl x5 hone (by omega) (by simp; omega) ?_)
            intro v3 w7 ho3 hg3
            have hA3 : AL w7 43 w5.heap.size v3 (li ++ [⟨.slice ax (getT l t2).1.length cx, .slice ay (getT l (getT l t2).2).1.length cy, .int .i64 (getL l (getT l (getT l t2).2).2).1⟩]) ((rep (imN l) j2 t4).1 ++ [(imN l t2).1]) :=
              HA2.out.step (by decide) HSM.out hzr2 HHs.out HBk.out y5 (by rw [rep_len]; exact ho3) hg3
            have hI3 : RI w w5 w7 (gr + 1) go ⟨.slice a1 (r1 l).1.length c1, .slice ae j ce, .slice ai j2 ci, .int .i64 0, .slice none 0 0⟩ (some ⟨b, off, none⟩) n c l (imN l t2).2 := (J2.out.below y5).grown hg3 HA2.out.ge
            obtain ⟨a3, c3, e3, _⟩ := hA3.shape
            have e3v : v3 = .slice a3 (j2 + 1) c3 := by rw [e3]; simp [rep_len]
            subst e3v
            obtain ⟨m0, m1, m2, m3, m4⟩ := hI3.g.facts
            obtain ⟨n0, n1, n2, n3, n4⟩ := hI3.g.frozen
            simp only at m0 m1 m2 m3 m4
            have hI4 : RI w w5 (w7.setCell ⟨go, 2, none⟩ (.slice a3 (j2 + 1) c3)) (gr + 1) go ⟨.slice a1 (r1 l).1.length c1, .slice ae j ce, .slice a3 (j2 + 1) c3, .int .i64 0, .slice none 0 0⟩ (some ⟨b, off, none⟩) n c l (imN l t2).2 := hI3.set (hI3.g.set2 _)
            have hA4 : AL (w7.setCell ⟨go, 2, none⟩ (.slice a3 (j2 + 1) c3)) 43 w5.heap.size (.slice a3 (j2 + 1) c3) (li ++ [⟨.slice ax (getT l t2).1.length cx, .slice ay (getT l (getT l t2).2).1.length cy, .int .i64 (getL l (getT l (getT l t2).2).2).1⟩]) ((rep (imN l) j2 t4).1 ++ [(imN l t2).1]) := hA3.same (Same.put (by omega))
            rw [HT2.out] at hI4 hA4
            have HF : Hid (∃ ai ci li, AL (w7.setCell ⟨go, 2, none⟩ (.slice a3 (j2 + 1) c3)) 43 w5.heap.size (.slice ai (j2 + 1) ci) li (rep (imN l) (j2 + 1) t4).1 ∧ RI w w5 (w7.setCell ⟨go, 2, none⟩ (.slice a3 (j2 + 1) c3)) (gr + 1) go ⟨.slice a1 (r1 l).1.length c1, .slice ae j ce, .slice ai (j2 + 1) ci, .int .i64 0, .slice none 0 0⟩ (some ⟨b, off, none⟩) n c l (rep (imN l) (j2 + 1) t4).2) := ⟨_, _, _, hA4, hI4⟩
            clear hA3 hI3 hI4 hA4 ho3 hg3 HO x5 y5 HA2 HI2 HHs HBk HSM hone e3 q0 q1 q2 p0 p1 p2 p3 p4
            go_wp2_with fail
            go_roundw
            case rel => exact ⟨j2 + 1, by omega, by go_num, HF⟩
            case measure => simp [intOf]; omega
          · have HE2 : Hid ((t2 < 0 ∧ (rep (imN l) m2 t4).2 < 0) ∨ ((rep (imN l) j2 t4).1, t2) = rep (imN l) m2 t4) := by
              show (t2 < 0 ∧ (rep (imN l) m2 t4).2 < 0) ∨ ((rep (imN l) j2 t4).1, t2) = rep (imN l) m2 t4
              by_cases hq : j2 < m2
              · have ht : t2 < 0 := by have := fun h => hgo1 ⟨hq, h⟩; omega
                exact .inl ⟨ht, rep_neg (fun t h => imN_neg h) (Nat.le_of_lt hq) (by rw [← HT2.out]; exact ht)⟩
              · obtain rfl : j2 = m2 := by omega
                right
                rw [HT2.out]
            by_cases hq : j2 < m2
            · have ht : t2 < 0 := by have := fun h => hgo1 ⟨hq, h⟩; omega
              clear hgo1
              go_upto_region 21 with fail
              have K6 : Hid (KeepO [some (gr + 1), some go] w5 wr) := HI2.out.k
              have L9 := l5getM HI2.out.sc 200 (by decide)
              go_wp2_with fail
              refine L9.mono ?_
              rintro e w6 ⟨rfl, ss, kk⟩
              have I6 : Hid (RI w wr w6 (gr + 1) go ⟨.slice a1 (r1 l).1.length c1, .slice ae j ce, .slice ai j2 ci, .int .i64 0, .slice none 0 0⟩ (some ⟨b, off, none⟩) n c l (cnt l 200 t2).2) := (HI2.out.restart).call ss kk
              clear L9 k2 ss kk
              obtain ⟨_, _, _, _, _⟩ := I6.out.g.facts
              obtain ⟨f0, f1, f2, f3, f4⟩ := I6.out.g.frozen
              go_upto_region 22 with fail
              have I7 : Hid (RI w wr (w6.setCell ⟨go, 3, none⟩ (.int .i64 (cnt l 200 t2).1)) (gr + 1) go ⟨.slice a1 (r1 l).1.length c1, .slice ae j ce, .slice ai j2 ci, .int .i64 (cnt l 200 t2).1, .slice none 0 0⟩ (some ⟨b, off, none⟩) n c l (cnt l 200 t2).2) := I6.out.set (I6.out.g.set3 _)
              clear I6 f0 f1 f2 f3 f4
              generalize w6.setCell ⟨go, 3, none⟩ (.int .i64 (cnt l 200 t2).1) = w7 at *
              have L9 := l5getM I7.out.sc 9000 (by decide)
              go_wp2_with fail
              refine L9.mono ?_
              rintro e w8 ⟨rfl, ss, kk⟩
              have I8' : Hid (RI w wr w8 (gr + 1) go ⟨.slice a1 (r1 l).1.length c1, .slice ae j ce, .slice ai j2 ci, .int .i64 (cnt l 200 t2).1, .slice none 0 0⟩ (some ⟨b, off, none⟩) n c l (cnt l 9000 (cnt l 200 t2).2).2) := I7.out.call ss kk
              have HRD0 := rd_other HBY.out HE1.out (i := (rep (imN l) j2 t4).1) (t5 := t2) (by rw [← HM2.out.1, ← HM2.out.2]; exact HE2.out)
              have hn7 := cnt_num HBY.out (m := 9000) (by decide) (cnt l 200 t2).2
              have ha7 := cnt_at HBY.out 9000 (cnt l 200 t2).2
              rw [HL.out] at HRD0
              have HRD : Hid _ := HRD0
              have HA7 : Hid _ := ha7
              clear L9 ss kk I7 HRD0 ha7
              generalize cnt l 9000 (cnt l 200 t2).2 = s7 at *
              obtain ⟨x7, y7⟩ := s7
              have hn7a : 0 ≤ x7 := hn7.1
              have hn7b : x7 ≤ 9000 := hn7.2
              have hr7 : y7 = -1 ∨ (0 < y7 ∧ y7 ≤ (n : Int)) := by have := HA7.out; unfold At at this; rw [HL.out] at this; exact this
              clear hn7 HA7
              have k2 := I8'.out.sc.cells.2
              simp only at k2
              have R8 := B5.keep R5.out (K6.out.trans I8'.out.k) (by simp; omega)
              have y8 : Below w.heap.size w w8 := I8'.out.sc.bel
              by_cases hbad : y7 < 0 ∨ x7 ≠ (n : Int) - y7
              · have HNO : Hid (rdOk l = false) := HRD.out.1 hbad
                by_cases hy7 : y7 < 0
                · clear hbad
                  have hgw : w.heap.size ≤ gr := by have := HGR.out; omega
                  obtain ⟨_, _, _, _, _⟩ := R8.facts
                  obtain ⟨f0, f1, f2, f3, f4⟩ := R8.frozen
                  go_wp2_with fail
                  have R9 : B5 (((((w8.setCell ⟨gr, 0, none⟩ (.slice none 0 0)).setCell ⟨gr, 1, none⟩ (.slice none 0 0)).setCell ⟨gr, 2, none⟩ (.slice none 0 0)).setCell ⟨gr, 3, none⟩ (.int .i64 0)).setCell ⟨gr, 4, none⟩ (.slice none 0 0)) gr 26 ⟨.slice none 0 0, .slice none 0 0, .slice none 0 0, .int .i64 0, .slice none 0 0⟩ := ((((R8.set0 _).set1 _).set2 _).set3 _).set4 _
                  have Y9 : Below w.heap.size w (((((w8.setCell ⟨gr, 0, none⟩ (.slice none 0 0)).setCell ⟨gr, 1, none⟩ (.slice none 0 0)).setCell ⟨gr, 2, none⟩ (.slice none 0 0)).setCell ⟨gr, 3, none⟩ (.int .i64 0)).setCell ⟨gr, 4, none⟩ (.slice none 0 0)) := ((((y8.setCell hgw _).setCell hgw _).setCell hgw _).setCell hgw _).setCell hgw _
                  generalize (((((w8.setCell ⟨gr, 0, none⟩ (.slice none 0 0)).setCell ⟨gr, 1, none⟩ (.slice none 0 0)).setCell ⟨gr, 2, none⟩ (.slice none 0 0)).setCell ⟨gr, 3, none⟩ (.int .i64 0)).setCell ⟨gr, 4, none⟩ (.slice none 0 0)) = w9 at *
                  obtain ⟨d0, d1, d2, d3, d4⟩ := R9.facts
                  simp only at d0 d1 d2 d3 d4
                  refine bodyPost_ret (v := .tuple #[.agg #[.slice none 0 0, .slice none 0 0, .slice none 0 0, .int .i64 0, .slice none 0 0], .bool false]) (by simp [results, Try.results4, go_sem, d0, d1, d2, d3, d4]) rfl ⟨⟨.slice none 0 0, .slice none 0 0, .slice none 0 0, .int .i64 0, .slice none 0 0⟩, ?_, ?_, Y9⟩
                  · rw [HNO.out]
                  · rw [rdR_no HNO.out]
                    exact (OOwn.zero _ 0).read (by intro d hd; cases hd) (by intro d hd; cases hd)
                · have hx7 : (x7 != (n : Int) - y7) = true := by
                    have : x7 ≠ (n : Int) - y7 := hbad.resolve_left hy7
                    simpa using this
                  clear hbad
                  have hgw : w.heap.size ≤ gr := by have := HGR.out; omega
                  obtain ⟨_, _, _, _, _⟩ := R8.facts
                  obtain ⟨f0, f1, f2, f3, f4⟩ := R8.frozen
                  go_wp2_with fail
                  have R9 : B5 (((((w8.setCell ⟨gr, 0, none⟩ (.slice none 0 0)).setCell ⟨gr, 1, none⟩ (.slice none 0 0)).setCell ⟨gr, 2, none⟩ (.slice none 0 0)).setCell ⟨gr, 3, none⟩ (.int .i64 0)).setCell ⟨gr, 4, none⟩ (.slice none 0 0)) gr 26 ⟨.slice none 0 0, .slice none 0 0, .slice none 0 0, .int .i64 0, .slice none 0 0⟩ := ((((R8.set0 _).set1 _).set2 _).set3 _).set4 _
                  have Y9 : Below w.heap.size w (((((w8.setCell ⟨gr, 0, none⟩ (.slice none 0 0)).setCell ⟨gr, 1, none⟩ (.slice none 0 0)).setCell ⟨gr, 2, none⟩ (.slice none 0 0)).setCell ⟨gr, 3, none⟩ (.int .i64 0)).setCell ⟨gr, 4, none⟩ (.slice none 0 0)) := ((((y8.setCell hgw _).setCell hgw _).setCell hgw _).setCell hgw _).setCell hgw _
                  generalize (((((w8.setCell ⟨gr, 0, none⟩ (.slice none 0 0)).setCell ⟨gr, 1, none⟩ (.slice none 0 0)).setCell ⟨gr, 2, none⟩ (.slice none 0 0)).setCell ⟨gr, 3, none⟩ (.int .i64 0)).setCell ⟨gr, 4, none⟩ (.slice none 0 0)) = w9 at *
                  obtain ⟨d0, d1, d2, d3, d4⟩ := R9.facts
                  simp only at d0 d1 d2 d3 d4
                  refine bodyPost_ret (v := .tuple #[.agg #[.slice none 0 0, .slice none 0 0, .slice none 0 0, .int .i64 0, .slice none 0 0], .bool false]) (by simp [results, Try.results4, go_sem, d0, d1, d2, d3, d4]) rfl ⟨⟨.slice none 0 0, .slice none 0 0, .slice none 0 0, .int .i64 0, .slice none 0 0⟩, ?_, ?_, Y9⟩
                  · rw [HNO.out]
                  · rw [rdR_no HNO.out]
                    exact (OOwn.zero _ 0).read (by intro d hd; cases hd) (by intro d hd; cases hd)
              · have hy7 : ¬ y7 < 0 := fun e => hbad (.inl e)
                have hx7 : x7 = (n : Int) - y7 := by
                  rcases Decidable.em (x7 = (n : Int) - y7) with e | e
                  · exact e
                  · exact absurd (.inr e) hbad
                obtain ⟨yn, rfl⟩ := Int.eq_ofNat_of_zero_le (show 0 ≤ y7 by omega)
                subst hx7
                have HY0 : obL l = ⟨(r1 l).1, (rep (exN l) j (r2 l).2).1, (rep (imN l) j2 t4).1, (cnt l 200 t2).1, l.drop yn⟩ ∧ (r8 l).2 = l.length := by
                  have := HRD.out.2 (by show (0 : Int) ≤ (yn : Int); omega) rfl
                  simpa [HL.out] using this
                have HY : Hid (obL l = ⟨(r1 l).1, (rep (exN l) j (r2 l).2).1, (rep (imN l) j2 t4).1, (cnt l 200 t2).1, l.drop yn⟩ ∧ (r8 l).2 = l.length) := HY0
                clear HY0
                have I8 : Hid (RI w wr w8 (gr + 1) go ⟨.slice a1 (r1 l).1.length c1, .slice ae j ce, .slice ai j2 ci, .int .i64 (cnt l 200 t2).1, .slice none 0 0⟩ (some ⟨b, off, none⟩) n c l (yn : Int)) := I8'.out
                have hx8 : ((n : Int) - (yn : Int) != (n : Int) - (yn : Int)) = false := by simp
                clear hbad HRD I8' R8 y8
                have hyn : yn ≤ n := by omega
                have hcm := HCM.out
                unfold maxLen at hcm
                have hdl : Hid ((l.drop yn).length = n - yn) := by show _ = _; rw [List.length_drop, HL.out]
                have hE := own_empty w8
                have hBE := below_empty w8
                have k3 := (I8.out.sc.below hBE).cells.2
                have hrE := (I8.out.sc.rowW.part (lo := yn) (m := n - yn) (by omega)).below hBE
                rw [List.take_of_length_le (by rw [hdl.out]; exact Nat.le_refl _)] at hrE
                by_cases hcy : c = yn
                · have hny : n = yn := by omega
                  subst hny
                  subst hcy
                  have hd0 : l.drop c = [] := by rw [List.drop_eq_nil_iff, HL.out]; exact Nat.le_refl _
                  have hrF : BRow (w8.alloc (.cells #[] 5)) (some ⟨b, off, none⟩) 0 [] := BRow.empty _
                  clear hrE
                  go_wp2_with (at_builtin; refine wpList_appendB rfl _ _ rfl w8.heap.size _ 0 [] rfl hE _ _ _ [] rfl hrF (by intro hh; cases hh) (by omega) (by simp) ?_)
                  intro v2 w10 ho2 hg2
                  have hb2 := hE.grown hg2 hBE (by simp)
                  have hdl : Hid ((l.drop c).length = 0) := by show _ = _; rw [hd0]; rfl
                  have ho3 : Own w10 w8.heap.size v2 0 (l.drop c) := by rw [hd0]; simpa using ho2
                  clear hd0
                  have own5 := ho3.made hb2
                  obtain ⟨a5, c5, hv5, hm5⟩ := own5
                  subst hv5
                  have I10 : RI w wr w10 (gr + 1) go ⟨.slice a1 (r1 l).1.length c1, .slice ae j ce, .slice ai j2 ci, .int .i64 (cnt l 200 t2).1, .slice none 0 0⟩ (some ⟨b, off, none⟩) c c l (c : Int) := (I8.out.below (below_empty w8)).grown hg2 (by intro g hg; simp [Value.ownBlock] at hg; subst hg; exact I8.out.size)
                  have C10 : Hid ((Fd.b (l.drop c)).Has w10 w8.heap.size (.slice a5 0 c5)) := ⟨a5, c5, by rw [hdl.out], by rw [hdl.out]; exact ho3⟩
                  obtain ⟨m0, m1, m2', m3, m4⟩ := I10.g.facts
                  obtain ⟨n0, n1, n2', n3, n4⟩ := I10.g.frozen
                  simp only at m0 m1 m2' m3 m4
                  have I11 : Hid (RI w wr (w10.setCell ⟨go, 4, none⟩ (.slice a5 0 c5)) (gr + 1) go ⟨.slice a1 (r1 l).1.length c1, .slice ae j ce, .slice ai j2 ci, .int .i64 (cnt l 200 t2).1, .slice a5 0 c5⟩ (some ⟨b, off, none⟩) c c l (c : Int)) := I10.set (I10.g.set4 _)
                  have C11 : Hid ((Fd.b (l.drop c)).Has (w10.setCell ⟨go, 4, none⟩ (.slice a5 0 c5)) w8.heap.size (.slice a5 0 c5)) := C10.out.other (by intro e; have := C10.out.lt _ e; have := I8.out.size; have := I8.out.lt; omega)
                  clear C10 I10 ho2 ho3 hg2 hb2 hm5 hE hrF
                  go_upto_region 26 with fail
                  generalize w10.setCell ⟨go, 4, none⟩ (.slice a5 0 c5) = w11 at *
                  clear m0 m1 m2' m3 m4 n0 n1 n2' n3 n4
                  have KK : KeepO [some (gr + 1), some go] w5 w11 := K6.out.trans I11.out.k
                  have N11 : Hid ((Fd.b (r1 l).1).Has w11 (gr + 2) (.slice a1 (r1 l).1.length c1)) := N5.out.keep2 KK (by omega) NB.out
                  have R11 : Hid (B5 w11 gr 26 ⟨.slice none 0 0, .slice none 0 0, .slice none 0 0, .int .i64 0, .slice none 0 0⟩) := B5.keep R5.out KK (by simp; omega)
                  have E11 : Hid (AL w11 41 w3.heap.size (.slice ae j ce) le (rep (exN l) j (r2 l).2).1) := E5.out.keep2 KK (by omega) (by omega)
                  have J11 : Hid (AL w11 43 w5.heap.size (.slice ai j2 ci) li (rep (imN l) j2 t4).1) := HA2.out.keep2 I11.out.k (by omega) (by omega)
                  have hsz : osz ⟨(r1 l).1, (rep (exN l) j (r2 l).2).1, (rep (imN l) j2 t4).1, (cnt l 200 t2).1, l.drop c⟩ ≤ 1048576 := ob_size HBY.out (by rw [rep_len]; omega) (by rw [rep_len]; omega) (rep_mem (exN_len HBY.out) _ _) (rep_mem (imN_len HBY.out) _ _) (getT_len l 2 HBY.out) (by rw [List.length_drop, HL.out]; omega) _
                  have OR : Hid (ORead w11 ⟨.slice a1 (r1 l).1.length c1, .slice ae j ce, .slice ai j2 ci, .int .i64 (cnt l 200 t2).1, .slice a5 0 c5⟩ ⟨(r1 l).1, (rep (exN l) j (r2 l).2).1, (rep (imN l) j2 t4).1, (cnt l 200 t2).1, l.drop c⟩) := ⟨N11.out.read, E11.out.own.dv, J11.out.own.dv, rfl, C11.out.read, rep_mem (exN_is l) _ _, rep_mem (imN_is l) _ _⟩
                  have HOK := specObjectOkM ⟨.slice a1 (r1 l).1.length c1, .slice ae j ce, .slice ai j2 ci, .int .i64 (cnt l 200 t2).1, .slice a5 0 c5⟩ ⟨(r1 l).1, (rep (exN l) j (r2 l).2).1, (rep (imN l) j2 t4).1, (cnt l 200 t2).1, l.drop c⟩ w11 OR.out hsz
                  simp only at HOK
                  have HEQ : Hid (rdOk l = objOk ⟨(r1 l).1, (rep (exN l) j (r2 l).2).1, (rep (imN l) j2 t4).1, (cnt l 200 t2).1, l.drop c⟩) := by
                    show _ = _
                    rw [← HY.out.1]
                    exact rd_end HST.out HY.out.2
                  obtain ⟨p0, p1, p2, p3, p4⟩ := I11.out.g.facts
                  simp only at p0 p1 p2 p3 p4
                  clear KK hsz
                  go_wp2_with fail
                  refine HOK.mono ?_
                  rintro e w12 ⟨rfl, hb⟩
                  have R12 := R11.out.below hb R11.out.lt
                  have I12 : Hid (RI w wr w12 (gr + 1) go ⟨.slice a1 (r1 l).1.length c1, .slice ae j ce, .slice ai j2 ci, .int .i64 (cnt l 200 t2).1, .slice a5 0 c5⟩ (some ⟨b, off, none⟩) c c l (c : Int)) := I11.out.below hb
                  have y12 : Below w.heap.size w w12 := I12.out.sc.bel
                  have N12 : Hid ((Fd.b (r1 l).1).Has w12 (gr + 2) (.slice a1 (r1 l).1.length c1)) := N11.out.below hb
                  have E12 : Hid (AL w12 41 w3.heap.size (.slice ae j ce) le (rep (exN l) j (r2 l).2).1) := E11.out.below hb
                  have J12 : Hid (AL w12 43 w5.heap.size (.slice ai j2 ci) li (rep (imN l) j2 t4).1) := J11.out.below hb
                  have C12 : Hid ((Fd.b (l.drop c)).Has w12 w8.heap.size (.slice a5 0 c5)) := C11.out.below hb
                  have hw8 : gr + 2 ≤ w8.heap.size := by have := I8.out.size; have := HI2.out.size; omega
                  clear HOK p0 p1 p2 p3 p4 hb
                  cases hv : objOk ⟨(r1 l).1, (rep (exN l) j (r2 l).2).1, (rep (imN l) j2 t4).1, (cnt l 200 t2).1, l.drop c⟩
                  · have HNO : Hid (rdOk l = false) := by show _ = _; rw [HEQ.out]; exact hv
                    clear hv
                    have hgw : w.heap.size ≤ gr := by have := HGR.out; omega
                    obtain ⟨_, _, _, _, _⟩ := R12.facts
                    obtain ⟨f0, f1, f2, f3, f4⟩ := R12.frozen
                    go_wp2_with fail
                    have R9 : B5 (((((w12.setCell ⟨gr, 0, none⟩ (.slice none 0 0)).setCell ⟨gr, 1, none⟩ (.slice none 0 0)).setCell ⟨gr, 2, none⟩ (.slice none 0 0)).setCell ⟨gr, 3, none⟩ (.int .i64 0)).setCell ⟨gr, 4, none⟩ (.slice none 0 0)) gr 26 ⟨.slice none 0 0, .slice none 0 0, .slice none 0 0, .int .i64 0, .slice none 0 0⟩ := ((((R12.set0 _).set1 _).set2 _).set3 _).set4 _
                    have Y9 : Below w.heap.size w (((((w12.setCell ⟨gr, 0, none⟩ (.slice none 0 0)).setCell ⟨gr, 1, none⟩ (.slice none 0 0)).setCell ⟨gr, 2, none⟩ (.slice none 0 0)).setCell ⟨gr, 3, none⟩ (.int .i64 0)).setCell ⟨gr, 4, none⟩ (.slice none 0 0)) := ((((y12.setCell hgw _).setCell hgw _).setCell hgw _).setCell hgw _).setCell hgw _
                    generalize (((((w12.setCell ⟨gr, 0, none⟩ (.slice none 0 0)).setCell ⟨gr, 1, none⟩ (.slice none 0 0)).setCell ⟨gr, 2, none⟩ (.slice none 0 0)).setCell ⟨gr, 3, none⟩ (.int .i64 0)).setCell ⟨gr, 4, none⟩ (.slice none 0 0)) = w9 at *
                    obtain ⟨d0, d1, d2, d3, d4⟩ := R9.facts
                    simp only at d0 d1 d2 d3 d4
                    refine bodyPost_ret (v := .tuple #[.agg #[.slice none 0 0, .slice none 0 0, .slice none 0 0, .int .i64 0, .slice none 0 0], .bool false]) (by simp [results, Try.results4, go_sem, d0, d1, d2, d3, d4]) rfl ⟨⟨.slice none 0 0, .slice none 0 0, .slice none 0 0, .int .i64 0, .slice none 0 0⟩, ?_, ?_, Y9⟩
                    · rw [HNO.out]
                    · rw [rdR_no HNO.out]
                      exact (OOwn.zero _ 0).read (by intro d hd; cases hd) (by intro d hd; cases hd)
                  · have HYES : Hid (rdOk l = true) := by show _ = _; rw [HEQ.out]; exact hv
                    clear hv
                    obtain ⟨p0, p1, p2, p3, p4⟩ := I12.out.g.facts
                    simp only at p0 p1 p2 p3 p4
                    obtain ⟨_, _, _, _, _⟩ := R12.facts
                    obtain ⟨f0, f1, f2, f3, f4⟩ := R12.frozen
                    go_wp2_with fail
                    have hgw : w.heap.size ≤ gr := by have := HGR.out; omega
                    have R9 : B5 (((((w12.setCell ⟨gr, 0, none⟩ (.slice a1 (r1 l).1.length c1)).setCell ⟨gr, 1, none⟩ (.slice ae j ce)).setCell ⟨gr, 2, none⟩ (.slice ai j2 ci)).setCell ⟨gr, 3, none⟩ (.int .i64 (cnt l 200 t2).1)).setCell ⟨gr, 4, none⟩ (.slice a5 0 c5)) gr 26 ⟨.slice a1 (r1 l).1.length c1, .slice ae j ce, .slice ai j2 ci, .int .i64 (cnt l 200 t2).1, .slice a5 0 c5⟩ := ((((R12.set0 _).set1 _).set2 _).set3 _).set4 _
                    have Y9 : Below w.heap.size w (((((w12.setCell ⟨gr, 0, none⟩ (.slice a1 (r1 l).1.length c1)).setCell ⟨gr, 1, none⟩ (.slice ae j ce)).setCell ⟨gr, 2, none⟩ (.slice ai j2 ci)).setCell ⟨gr, 3, none⟩ (.int .i64 (cnt l 200 t2).1)).setCell ⟨gr, 4, none⟩ (.slice a5 0 c5)) := ((((y12.setCell hgw _).setCell hgw _).setCell hgw _).setCell hgw _).setCell hgw _
                    have hlw : gr < gr + 2 := by omega
                    have C9 : Same (gr + 2) w12 (((((w12.setCell ⟨gr, 0, none⟩ (.slice a1 (r1 l).1.length c1)).setCell ⟨gr, 1, none⟩ (.slice ae j ce)).setCell ⟨gr, 2, none⟩ (.slice ai j2 ci)).setCell ⟨gr, 3, none⟩ (.int .i64 (cnt l 200 t2).1)).setCell ⟨gr, 4, none⟩ (.slice a5 0 c5)) := ((((Same.put hlw).trans (Same.put hlw)).trans (Same.put hlw)).trans (Same.put hlw)).trans (Same.put hlw)
                    generalize (((((w12.setCell ⟨gr, 0, none⟩ (.slice a1 (r1 l).1.length c1)).setCell ⟨gr, 1, none⟩ (.slice ae j ce)).setCell ⟨gr, 2, none⟩ (.slice ai j2 ci)).setCell ⟨gr, 3, none⟩ (.int .i64 (cnt l 200 t2).1)).setCell ⟨gr, 4, none⟩ (.slice a5 0 c5)) = w9 at *
                    obtain ⟨d0, d1, d2, d3, d4⟩ := R9.facts
                    simp only at d0 d1 d2 d3 d4
                    refine bodyPost_ret (v := .tuple #[.agg #[.slice a1 (r1 l).1.length c1, .slice ae j ce, .slice ai j2 ci, .int .i64 (cnt l 200 t2).1, .slice a5 0 c5], .bool true]) (by simp [results, Try.results4, go_sem, d0, d1, d2, d3, d4]) rfl ⟨⟨.slice a1 (r1 l).1.length c1, .slice ae j ce, .slice ai j2 ci, .int .i64 (cnt l 200 t2).1, .slice a5 0 c5⟩, ?_, ?_, Y9⟩
                    · rw [HYES.out]
                    · rw [rdR_yes HYES.out, HY.out.1]
                      exact ⟨(N12.out.same C9).read, (E12.out.same (C9.mono (by omega))).own.dv, (J12.out.same (C9.mono (by omega))).own.dv, rfl, (C12.out.same (C9.mono (by omega))).read, rep_mem (exN_is l) _ _, rep_mem (imN_is l) _ _⟩
                · have hrF : BRow (w8.alloc (.cells #[] 5)) (some ⟨b, off + yn, none⟩) (n - yn) (l.drop yn) := hrE
                  clear hrE
                  go_wp2_with (at_builtin; refine wpList_appendB rfl _ _ rfl w8.heap.size _ 0 [] rfl hE _ (n - yn) _ (l.drop yn) rfl hrF (by intro hh; cases hh) (by omega) (by simp) ?_)
                  intro v2 w10 ho2 hg2
                  have hb2 := hE.grown hg2 hBE (by simp)
                  have ho3 : Own w10 w8.heap.size v2 (n - yn) (l.drop yn) := by simpa using ho2
                  have own5 := ho3.made hb2
                  obtain ⟨a5, c5, hv5, hm5⟩ := own5
                  subst hv5
                  have I10 : RI w wr w10 (gr + 1) go ⟨.slice a1 (r1 l).1.length c1, .slice ae j ce, .slice ai j2 ci, .int .i64 (cnt l 200 t2).1, .slice none 0 0⟩ (some ⟨b, off, none⟩) n c l (yn : Int) := (I8.out.below (below_empty w8)).grown hg2 (by intro g hg; simp [Value.ownBlock] at hg; subst hg; exact I8.out.size)
                  have C10 : Hid ((Fd.b (l.drop yn)).Has w10 w8.heap.size (.slice a5 (n - yn) c5)) := ⟨a5, c5, by rw [hdl.out], by rw [hdl.out]; exact ho3⟩
                  obtain ⟨m0, m1, m2', m3, m4⟩ := I10.g.facts
                  obtain ⟨n0, n1, n2', n3, n4⟩ := I10.g.frozen
                  simp only at m0 m1 m2' m3 m4
                  have I11 : Hid (RI w wr (w10.setCell ⟨go, 4, none⟩ (.slice a5 (n - yn) c5)) (gr + 1) go ⟨.slice a1 (r1 l).1.length c1, .slice ae j ce, .slice ai j2 ci, .int .i64 (cnt l 200 t2).1, .slice a5 (n - yn) c5⟩ (some ⟨b, off, none⟩) n c l (yn : Int)) := I10.set (I10.g.set4 _)
                  have C11 : Hid ((Fd.b (l.drop yn)).Has (w10.setCell ⟨go, 4, none⟩ (.slice a5 (n - yn) c5)) w8.heap.size (.slice a5 (n - yn) c5)) := C10.out.other (by intro e; have := C10.out.lt _ e; have := I8.out.size; have := I8.out.lt; omega)
                  clear C10 I10 ho2 ho3 hg2 hb2 hm5 hE hrF
                  go_upto_region 26 with fail
                  generalize w10.setCell ⟨go, 4, none⟩ (.slice a5 (n - yn) c5) = w11 at *
                  clear m0 m1 m2' m3 m4 n0 n1 n2' n3 n4
                  have KK : KeepO [some (gr + 1), some go] w5 w11 := K6.out.trans I11.out.k
                  have N11 : Hid ((Fd.b (r1 l).1).Has w11 (gr + 2) (.slice a1 (r1 l).1.length c1)) := N5.out.keep2 KK (by omega) NB.out
                  have R11 : Hid (B5 w11 gr 26 ⟨.slice none 0 0, .slice none 0 0, .slice none 0 0, .int .i64 0, .slice none 0 0⟩) := B5.keep R5.out KK (by simp; omega)
                  have E11 : Hid (AL w11 41 w3.heap.size (.slice ae j ce) le (rep (exN l) j (r2 l).2).1) := E5.out.keep2 KK (by omega) (by omega)
                  have J11 : Hid (AL w11 43 w5.heap.size (.slice ai j2 ci) li (rep (imN l) j2 t4).1) := HA2.out.keep2 I11.out.k (by omega) (by omega)
                  have hsz : osz ⟨(r1 l).1, (rep (exN l) j (r2 l).2).1, (rep (imN l) j2 t4).1, (cnt l 200 t2).1, l.drop yn⟩ ≤ 1048576 := ob_size HBY.out (by rw [rep_len]; omega) (by rw [rep_len]; omega) (rep_mem (exN_len HBY.out) _ _) (rep_mem (imN_len HBY.out) _ _) (getT_len l 2 HBY.out) (by rw [List.length_drop, HL.out]; omega) _
                  have OR : Hid (ORead w11 ⟨.slice a1 (r1 l).1.length c1, .slice ae j ce, .slice ai j2 ci, .int .i64 (cnt l 200 t2).1, .slice a5 (n - yn) c5⟩ ⟨(r1 l).1, (rep (exN l) j (r2 l).2).1, (rep (imN l) j2 t4).1, (cnt l 200 t2).1, l.drop yn⟩) := ⟨N11.out.read, E11.out.own.dv, J11.out.own.dv, rfl, C11.out.read, rep_mem (exN_is l) _ _, rep_mem (imN_is l) _ _⟩
                  have HOK := specObjectOkM ⟨.slice a1 (r1 l).1.length c1, .slice ae j ce, .slice ai j2 ci, .int .i64 (cnt l 200 t2).1, .slice a5 (n - yn) c5⟩ ⟨(r1 l).1, (rep (exN l) j (r2 l).2).1, (rep (imN l) j2 t4).1, (cnt l 200 t2).1, l.drop yn⟩ w11 OR.out hsz
                  simp only at HOK
                  have HEQ : Hid (rdOk l = objOk ⟨(r1 l).1, (rep (exN l) j (r2 l).2).1, (rep (imN l) j2 t4).1, (cnt l 200 t2).1, l.drop yn⟩) := by
                    show _ = _
                    rw [← HY.out.1]
                    exact rd_end HST.out HY.out.2
                  obtain ⟨p0, p1, p2, p3, p4⟩ := I11.out.g.facts
                  simp only at p0 p1 p2 p3 p4
                  clear KK hsz
                  go_wp2_with fail
                  refine HOK.mono ?_
                  rintro e w12 ⟨rfl, hb⟩
                  have R12 := R11.out.below hb R11.out.lt
                  have I12 : Hid (RI w wr w12 (gr + 1) go ⟨.slice a1 (r1 l).1.length c1, .slice ae j ce, .slice ai j2 ci, .int .i64 (cnt l 200 t2).1, .slice a5 (n - yn) c5⟩ (some ⟨b, off, none⟩) n c l (yn : Int)) := I11.out.below hb
                  have y12 : Below w.heap.size w w12 := I12.out.sc.bel
                  have N12 : Hid ((Fd.b (r1 l).1).Has w12 (gr + 2) (.slice a1 (r1 l).1.length c1)) := N11.out.below hb
                  have E12 : Hid (AL w12 41 w3.heap.size (.slice ae j ce) le (rep (exN l) j (r2 l).2).1) := E11.out.below hb
                  have J12 : Hid (AL w12 43 w5.heap.size (.slice ai j2 ci) li (rep (imN l) j2 t4).1) := J11.out.below hb
                  have C12 : Hid ((Fd.b (l.drop yn)).Has w12 w8.heap.size (.slice a5 (n - yn) c5)) := C11.out.below hb
                  have hw8 : gr + 2 ≤ w8.heap.size := by have := I8.out.size; have := HI2.out.size; omega
                  clear HOK p0 p1 p2 p3 p4 hb
                  cases hv : objOk ⟨(r1 l).1, (rep (exN l) j (r2 l).2).1, (rep (imN l) j2 t4).1, (cnt l 200 t2).1, l.drop yn⟩
                  · have HNO : Hid (rdOk l = false) := by show _ = _; rw [HEQ.out]; exact hv
                    clear hv
                    have hgw : w.heap.size ≤ gr := by have := HGR.out; omega
                    obtain ⟨_, _, _, _, _⟩ := R12.facts
                    obtain ⟨f0, f1, f2, f3, f4⟩ := R12.frozen
                    go_wp2_with fail
                    have R9 : B5 (((((w12.setCell ⟨gr, 0, none⟩ (.slice none 0 0)).setCell ⟨gr, 1, none⟩ (.slice none 0 0)).setCell ⟨gr, 2, none⟩ (.slice none 0 0)).setCell ⟨gr, 3, none⟩ (.int .i64 0)).setCell ⟨gr, 4, none⟩ (.slice none 0 0)) gr 26 ⟨.slice none 0 0, .slice none 0 0, .slice none 0 0, .int .i64 0, .slice none 0 0⟩ := ((((R12.set0 _).set1 _).set2 _).set3 _).set4 _
                    have Y9 : Below w.heap.size w (((((w12.setCell ⟨gr, 0, none⟩ (.slice none 0 0)).setCell ⟨gr, 1, none⟩ (.slice none 0 0)).setCell ⟨gr, 2, none⟩ (.slice none 0 0)).setCell ⟨gr, 3, none⟩ (.int .i64 0)).setCell ⟨gr, 4, none⟩ (.slice none 0 0)) := ((((y12.setCell hgw _).setCell hgw _).setCell hgw _).setCell hgw _).setCell hgw _
                    generalize (((((w12.setCell ⟨gr, 0, none⟩ (.slice none 0 0)).setCell ⟨gr, 1, none⟩ (.slice none 0 0)).setCell ⟨gr, 2, none⟩ (.slice none 0 0)).setCell ⟨gr, 3, none⟩ (.int .i64 0)).setCell ⟨gr, 4, none⟩ (.slice none 0 0)) = w9 at *
                    obtain ⟨d0, d1, d2, d3, d4⟩ := R9.facts
                    simp only at d0 d1 d2 d3 d4
                    refine bodyPost_ret (v := .tuple #[.agg #[.slice none 0 0, .slice none 0 0, .slice none 0 0, .int .i64 0, .slice none 0 0], .bool false]) (by simp [results, Try.results4, go_sem, d0, d1, d2, d3, d4]) rfl ⟨⟨.slice none 0 0, .slice none 0 0, .slice none 0 0, .int .i64 0, .slice none 0 0⟩, ?_, ?_, Y9⟩
                    · rw [HNO.out]
                    · rw [rdR_no HNO.out]
                      exact (OOwn.zero _ 0).read (by intro d hd; cases hd) (by intro d hd; cases hd)
                  · have HYES : Hid (rdOk l = true) := by show _ = _; rw [HEQ.out]; exact hv
                    clear hv
                    obtain ⟨p0, p1, p2, p3, p4⟩ := I12.out.g.facts
                    simp only at p0 p1 p2 p3 p4
                    obtain ⟨_, _, _, _, _⟩ := R12.facts
                    obtain ⟨f0, f1, f2, f3, f4⟩ := R12.frozen
                    go_wp2_with fail
                    have hgw : w.heap.size ≤ gr := by have := HGR.out; omega
                    have R9 : B5 (((((w12.setCell ⟨gr, 0, none⟩ (.slice a1 (r1 l).1.length c1)).setCell ⟨gr, 1, none⟩ (.slice ae j ce)).setCell ⟨gr, 2, none⟩ (.slice ai j2 ci)).setCell ⟨gr, 3, none⟩ (.int .i64 (cnt l 200 t2).1)).setCell ⟨gr, 4, none⟩ (.slice a5 (n - yn) c5)) gr 26 ⟨.slice a1 (r1 l).1.length c1, .slice ae j ce, .slice ai j2 ci, .int .i64 (cnt l 200 t2).1, .slice a5 (n - yn) c5⟩ := ((((R12.set0 _).set1 _).set2 _).set3 _).set4 _
                    have Y9 : Below w.heap.size w (((((w12.setCell ⟨gr, 0, none⟩ (.slice a1 (r1 l).1.length c1)).setCell ⟨gr, 1, none⟩ (.slice ae j ce)).setCell ⟨gr, 2, none⟩ (.slice ai j2 ci)).setCell ⟨gr, 3, none⟩ (.int .i64 (cnt l 200 t2).1)).setCell ⟨gr, 4, none⟩ (.slice a5 (n - yn) c5)) := ((((y12.setCell hgw _).setCell hgw _).setCell hgw _).setCell hgw _).setCell hgw _
                    have hlw : gr < gr + 2 := by omega
                    have C9 : Same (gr + 2) w12 (((((w12.setCell ⟨gr, 0, none⟩ (.slice a1 (r1 l).1.length c1)).setCell ⟨gr, 1, none⟩ (.slice ae j ce)).setCell ⟨gr, 2, none⟩ (.slice ai j2 ci)).setCell ⟨gr, 3, none⟩ (.int .i64 (cnt l 200 t2).1)).setCell ⟨gr, 4, none⟩ (.slice a5 (n - yn) c5)) := ((((Same.put hlw).trans (Same.put hlw)).trans (Same.put hlw)).trans (Same.put hlw)).trans (Same.put hlw)
                    generalize (((((w12.setCell ⟨gr, 0, none⟩ (.slice a1 (r1 l).1.length c1)).setCell ⟨gr, 1, none⟩ (.slice ae j ce)).setCell ⟨gr, 2, none⟩ (.slice ai j2 ci)).setCell ⟨gr, 3, none⟩ (.int .i64 (cnt l 200 t2).1)).setCell ⟨gr, 4, none⟩ (.slice a5 (n - yn) c5)) = w9 at *
                    obtain ⟨d0, d1, d2, d3, d4⟩ := R9.facts
                    simp only at d0 d1 d2 d3 d4
                    refine bodyPost_ret (v := .tuple #[.agg #[.slice a1 (r1 l).1.length c1, .slice ae j ce, .slice ai j2 ci, .int .i64 (cnt l 200 t2).1, .slice a5 (n - yn) c5], .bool true]) (by simp [results, Try.results4, go_sem, d0, d1, d2, d3, d4]) rfl ⟨⟨.slice a1 (r1 l).1.length c1, .slice ae j ce, .slice ai j2 ci, .int .i64 (cnt l 200 t2).1, .slice a5 (n - yn) c5⟩, ?_, ?_, Y9⟩
                    · rw [HYES.out]
                    · rw [rdR_yes HYES.out, HY.out.1]
                      exact ⟨(N12.out.same C9).read, (E12.out.same (C9.mono (by omega))).own.dv, (J12.out.same (C9.mono (by omega))).own.dv, rfl, (C12.out.same (C9.mono (by omega))).read, rep_mem (exN_is l) _ _, rep_mem (imN_is l) _ _⟩
            · clear hgo1
              go_upto_region 21 with fail
              have K6 : Hid (KeepO [some (gr + 1), some go] w5 wr) := HI2.out.k
              have L9 := l5getM HI2.out.sc 200 (by decide)
              go_wp2_with fail
              refine L9.mono ?_
              rintro e w6 ⟨rfl, ss, kk⟩
              have I6 : Hid (RI w wr w6 (gr + 1) go ⟨.slice a1 (r1 l).1.length c1, .slice ae j ce, .slice ai j2 ci, .int .i64 0, .slice none 0 0⟩ (some ⟨b, off, none⟩) n c l (cnt l 200 t2).2) := (HI2.out.restart).call ss kk
              clear L9 k2 ss kk
              obtain ⟨_, _, _, _, _⟩ := I6.out.g.facts
              obtain ⟨f0, f1, f2, f3, f4⟩ := I6.out.g.frozen
              go_upto_region 22 with fail
              have I7 : Hid (RI w wr (w6.setCell ⟨go, 3, none⟩ (.int .i64 (cnt l 200 t2).1)) (gr + 1) go ⟨.slice a1 (r1 l).1.length c1, .slice ae j ce, .slice ai j2 ci, .int .i64 (cnt l 200 t2).1, .slice none 0 0⟩ (some ⟨b, off, none⟩) n c l (cnt l 200 t2).2) := I6.out.set (I6.out.g.set3 _)
              clear I6 f0 f1 f2 f3 f4
              generalize w6.setCell ⟨go, 3, none⟩ (.int .i64 (cnt l 200 t2).1) = w7 at *
              have L9 := l5getM I7.out.sc 9000 (by decide)
              go_wp2_with fail
              refine L9.mono ?_
              rintro e w8 ⟨rfl, ss, kk⟩
              have I8' : Hid (RI w wr w8 (gr + 1) go ⟨.slice a1 (r1 l).1.length c1, .slice ae j ce, .slice ai j2 ci, .int .i64 (cnt l 200 t2).1, .slice none 0 0⟩ (some ⟨b, off, none⟩) n c l (cnt l 9000 (cnt l 200 t2).2).2) := I7.out.call ss kk
              have HRD0 := rd_other HBY.out HE1.out (i := (rep (imN l) j2 t4).1) (t5 := t2) (by rw [← HM2.out.1, ← HM2.out.2]; exact HE2.out)
              have hn7 := cnt_num HBY.out (m := 9000) (by decide) (cnt l 200 t2).2
              have ha7 := cnt_at HBY.out 9000 (cnt l 200 t2).2
              rw [HL.out] at HRD0
              have HRD : Hid _ := HRD0
              have HA7 : Hid _ := ha7
              clear L9 ss kk I7 HRD0 ha7
              generalize cnt l 9000 (cnt l 200 t2).2 = s7 at *
              obtain ⟨x7, y7⟩ := s7
              have hn7a : 0 ≤ x7 := hn7.1
              have hn7b : x7 ≤ 9000 := hn7.2
              have hr7 : y7 = -1 ∨ (0 < y7 ∧ y7 ≤ (n : Int)) := by have := HA7.out; unfold At at this; rw [HL.out] at this; exact this
              clear hn7 HA7
              have k2 := I8'.out.sc.cells.2
              simp only at k2
              have R8 := B5.keep R5.out (K6.out.trans I8'.out.k) (by simp; omega)
              have y8 : Below w.heap.size w w8 := I8'.out.sc.bel
              by_cases hbad : y7 < 0 ∨ x7 ≠ (n : Int) - y7
              · have HNO : Hid (rdOk l = false) := HRD.out.1 hbad
                by_cases hy7 : y7 < 0
                · clear hbad
                  have hgw : w.heap.size ≤ gr := by have := HGR.out; omega
                  obtain ⟨_, _, _, _, _⟩ := R8.facts
                  obtain ⟨f0, f1, f2, f3, f4⟩ := R8.frozen
                  go_wp2_with fail
                  have R9 : B5 (((((w8.setCell ⟨gr, 0, none⟩ (.slice none 0 0)).setCell ⟨gr, 1, none⟩ (.slice none 0 0)).setCell ⟨gr, 2, none⟩ (.slice none 0 0)).setCell ⟨gr, 3, none⟩ (.int .i64 0)).setCell ⟨gr, 4, none⟩ (.slice none 0 0)) gr 26 ⟨.slice none 0 0, .slice none 0 0, .slice none 0 0, .int .i64 0, .slice none 0 0⟩ := ((((R8.set0 _).set1 _).set2 _).set3 _).set4 _
                  have Y9 : Below w.heap.size w (((((w8.setCell ⟨gr, 0, none⟩ (.slice none 0 0)).setCell ⟨gr, 1, none⟩ (.slice none 0 0)).setCell ⟨gr, 2, none⟩ (.slice none 0 0)).setCell ⟨gr, 3, none⟩ (.int .i64 0)).setCell ⟨gr, 4, none⟩ (.slice none 0 0)) := ((((y8.setCell hgw _).setCell hgw _).setCell hgw _).setCell hgw _).setCell hgw _
                  generalize (((((w8.setCell ⟨gr, 0, none⟩ (.slice none 0 0)).setCell ⟨gr, 1, none⟩ (.slice none 0 0)).setCell ⟨gr, 2, none⟩ (.slice none 0 0)).setCell ⟨gr, 3, none⟩ (.int .i64 0)).setCell ⟨gr, 4, none⟩ (.slice none 0 0)) = w9 at *
                  obtain ⟨d0, d1, d2, d3, d4⟩ := R9.facts
                  simp only at d0 d1 d2 d3 d4
                  refine bodyPost_ret (v := .tuple #[.agg #[.slice none 0 0, .slice none 0 0, .slice none 0 0, .int .i64 0, .slice none 0 0], .bool false]) (by simp [results, Try.results4, go_sem, d0, d1, d2, d3, d4]) rfl ⟨⟨.slice none 0 0, .slice none 0 0, .slice none 0 0, .int .i64 0, .slice none 0 0⟩, ?_, ?_, Y9⟩
                  · rw [HNO.out]
                  · rw [rdR_no HNO.out]
                    exact (OOwn.zero _ 0).read (by intro d hd; cases hd) (by intro d hd; cases hd)
                · have hx7 : (x7 != (n : Int) - y7) = true := by
                    have : x7 ≠ (n : Int) - y7 := hbad.resolve_left hy7
                    simpa using this
                  clear hbad
                  have hgw : w.heap.size ≤ gr := by have := HGR.out; omega
                  obtain ⟨_, _, _, _, _⟩ := R8.facts
                  obtain ⟨f0, f1, f2, f3, f4⟩ := R8.frozen
                  go_wp2_with fail
                  have R9 : B5 (((((w8.setCell ⟨gr, 0, none⟩ (.slice none 0 0)).setCell ⟨gr, 1, none⟩ (.slice none 0 0)).setCell ⟨gr, 2, none⟩ (.slice none 0 0)).setCell ⟨gr, 3, none⟩ (.int .i64 0)).setCell ⟨gr, 4, none⟩ (.slice none 0 0)) gr 26 ⟨.slice none 0 0, .slice none 0 0, .slice none 0 0, .int .i64 0, .slice none 0 0⟩ := ((((R8.set0 _).set1 _).set2 _).set3 _).set4 _
                  have Y9 : Below w.heap.size w (((((w8.setCell ⟨gr, 0, none⟩ (.slice none 0 0)).setCell ⟨gr, 1, none⟩ (.slice none 0 0)).setCell ⟨gr, 2, none⟩ (.slice none 0 0)).setCell ⟨gr, 3, none⟩ (.int .i64 0)).setCell ⟨gr, 4, none⟩ (.slice none 0 0)) := ((((y8.setCell hgw _).setCell hgw _).setCell hgw _).setCell hgw _).setCell hgw _
                  generalize (((((w8.setCell ⟨gr, 0, none⟩ (.slice none 0 0)).setCell ⟨gr, 1, none⟩ (.slice none 0 0)).setCell ⟨gr, 2, none⟩ (.slice none 0 0)).setCell ⟨gr, 3, none⟩ (.int .i64 0)).setCell ⟨gr, 4, none⟩ (.slice none 0 0)) = w9 at *
                  obtain ⟨d0, d1, d2, d3, d4⟩ := R9.facts
                  simp only at d0 d1 d2 d3 d4
                  refine bodyPost_ret (v := .tuple #[.agg #[.slice none 0 0, .slice none 0 0, .slice none 0 0, .int .i64 0, .slice none 0 0], .bool false]) (by simp [results, Try.results4, go_sem, d0, d1, d2, d3, d4]) rfl ⟨⟨.slice none 0 0, .slice none 0 0, .slice none 0 0, .int .i64 0, .slice none 0 0⟩, ?_, ?_, Y9⟩
                  · rw [HNO.out]
                  · rw [rdR_no HNO.out]
                    exact (OOwn.zero _ 0).read (by intro d hd; cases hd) (by intro d hd; cases hd)
              · have hy7 : ¬ y7 < 0 := fun e => hbad (.inl e)
                have hx7 : x7 = (n : Int) - y7 := by
                  rcases Decidable.em (x7 = (n : Int) - y7) with e | e
                  · exact e
                  · exact absurd (.inr e) hbad
                obtain ⟨yn, rfl⟩ := Int.eq_ofNat_of_zero_le (show 0 ≤ y7 by omega)
                subst hx7
                have HY0 : obL l = ⟨(r1 l).1, (rep (exN l) j (r2 l).2).1, (rep (imN l) j2 t4).1, (cnt l 200 t2).1, l.drop yn⟩ ∧ (r8 l).2 = l.length := by
                  have := HRD.out.2 (by show (0 : Int) ≤ (yn : Int); omega) rfl
                  simpa [HL.out] using this
                have HY : Hid (obL l = ⟨(r1 l).1, (rep (exN l) j (r2 l).2).1, (rep (imN l) j2 t4).1, (cnt l 200 t2).1, l.drop yn⟩ ∧ (r8 l).2 = l.length) := HY0
                clear HY0
                have I8 : Hid (RI w wr w8 (gr + 1) go ⟨.slice a1 (r1 l).1.length c1, .slice ae j ce, .slice ai j2 ci, .int .i64 (cnt l 200 t2).1, .slice none 0 0⟩ (some ⟨b, off, none⟩) n c l (yn : Int)) := I8'.out
                have hx8 : ((n : Int) - (yn : Int) != (n : Int) - (yn : Int)) = false := by simp
                clear hbad HRD I8' R8 y8
                have hyn : yn ≤ n := by omega
                have hcm := HCM.out
                unfold maxLen at hcm
                have hdl : Hid ((l.drop yn).length = n - yn) := by show _ = _; rw [List.length_drop, HL.out]
                have hE := own_empty w8
                have hBE := below_empty w8
                have k3 := (I8.out.sc.below hBE).cells.2
                have hrE := (I8.out.sc.rowW.part (lo := yn) (m := n - yn) (by omega)).below hBE
                rw [List.take_of_length_le (by rw [hdl.out]; exact Nat.le_refl _)] at hrE
                by_cases hcy : c = yn
                · have hny : n = yn := by omega
                  subst hny
                  subst hcy
                  have hd0 : l.drop c = [] := by rw [List.drop_eq_nil_iff, HL.out]; exact Nat.le_refl _
                  have hrF : BRow (w8.alloc (.cells #[] 5)) (some ⟨b, off, none⟩) 0 [] := BRow.empty _
                  clear hrE
                  go_wp2_with (at_builtin; refine wpList_appendB rfl _ _ rfl w8.heap.size _ 0 [] rfl hE _ _ _ [] rfl hrF (by intro hh; cases hh) (by omega) (by simp) ?_)
                  intro v2 w10 ho2 hg2
                  have hb2 := hE.grown hg2 hBE (by simp)
                  have hdl : Hid ((l.drop c).length = 0) := by show _ = _; rw [hd0]; rfl
                  have ho3 : Own w10 w8.heap.size v2 0 (l.drop c) := by rw [hd0]; simpa using ho2
                  clear hd0
                  have own5 := ho3.made hb2
                  obtain ⟨a5, c5, hv5, hm5⟩ := own5
                  subst hv5
                  have I10 : RI w wr w10 (gr + 1) go ⟨.slice a1 (r1 l).1.length c1, .slice ae j ce, .slice ai j2 ci, .int .i64 (cnt l 200 t2).1, .slice none 0 0⟩ (some ⟨b, off, none⟩) c c l (c : Int) := (I8.out.below (below_empty w8)).grown hg2 (by intro g hg; simp [Value.ownBlock] at hg; subst hg; exact I8.out.size)
                  have C10 : Hid ((Fd.b (l.drop c)).Has w10 w8.heap.size (.slice a5 0 c5)) := ⟨a5, c5, by rw [hdl.out], by rw [hdl.out]; exact ho3⟩
                  obtain ⟨m0, m1, m2', m3, m4⟩ := I10.g.facts
                  obtain ⟨n0, n1, n2', n3, n4⟩ := I10.g.frozen
                  simp only at m0 m1 m2' m3 m4
                  have I11 : Hid (RI w wr (w10.setCell ⟨go, 4, none⟩ (.slice a5 0 c5)) (gr + 1) go ⟨.slice a1 (r1 l).1.length c1, .slice ae j ce, .slice ai j2 ci, .int .i64 (cnt l 200 t2).1, .slice a5 0 c5⟩ (some ⟨b, off, none⟩) c c l (c : Int)) := I10.set (I10.g.set4 _)
                  have C11 : Hid ((Fd.b (l.drop c)).Has (w10.setCell ⟨go, 4, none⟩ (.slice a5 0 c5)) w8.heap.size (.slice a5 0 c5)) := C10.out.other (by intro e; have := C10.out.lt _ e; have := I8.out.size; have := I8.out.lt; omega)
                  clear C10 I10 ho2 ho3 hg2 hb2 hm5 hE hrF
                  go_upto_region 26 with fail
                  generalize w10.setCell ⟨go, 4, none⟩ (.slice a5 0 c5) = w11 at *
                  clear m0 m1 m2' m3 m4 n0 n1 n2' n3 n4
                  have KK : KeepO [some (gr + 1), some go] w5 w11 := K6.out.trans I11.out.k
                  have N11 : Hid ((Fd.b (r1 l).1).Has w11 (gr + 2) (.slice a1 (r1 l).1.length c1)) := N5.out.keep2 KK (by omega) NB.out
                  have R11 : Hid (B5 w11 gr 26 ⟨.slice none 0 0, .slice none 0 0, .slice none 0 0, .int .i64 0, .slice none 0 0⟩) := B5.keep R5.out KK (by simp; omega)
                  have E11 : Hid (AL w11 41 w3.heap.size (.slice ae j ce) le (rep (exN l) j (r2 l).2).1) := E5.out.keep2 KK (by omega) (by omega)
                  have J11 : Hid (AL w11 43 w5.heap.size (.slice ai j2 ci) li (rep (imN l) j2 t4).1) := HA2.out.keep2 I11.out.k (by omega) (by omega)
                  have hsz : osz ⟨(r1 l).1, (rep (exN l) j (r2 l).2).1, (rep (imN l) j2 t4).1, (cnt l 200 t2).1, l.drop c⟩ ≤ 1048576 := ob_size HBY.out (by rw [rep_len]; omega) (by rw [rep_len]; omega) (rep_mem (exN_len HBY.out) _ _) (rep_mem (imN_len HBY.out) _ _) (getT_len l 2 HBY.out) (by rw [List.length_drop, HL.out]; omega) _
                  have OR : Hid (ORead w11 ⟨.slice a1 (r1 l).1.length c1, .slice ae j ce, .slice ai j2 ci, .int .i64 (cnt l 200 t2).1, .slice a5 0 c5⟩ ⟨(r1 l).1, (rep (exN l) j (r2 l).2).1, (rep (imN l) j2 t4).1, (cnt l 200 t2).1, l.drop c⟩) := ⟨N11.out.read, E11.out.own.dv, J11.out.own.dv, rfl, C11.out.read, rep_mem (exN_is l) _ _, rep_mem (imN_is l) _ _⟩
                  have HOK := specObjectOkM ⟨.slice a1 (r1 l).1.length c1, .slice ae j ce, .slice ai j2 ci, .int .i64 (cnt l 200 t2).1, .slice a5 0 c5⟩ ⟨(r1 l).1, (rep (exN l) j (r2 l).2).1, (rep (imN l) j2 t4).1, (cnt l 200 t2).1, l.drop c⟩ w11 OR.out hsz
                  simp only at HOK
                  have HEQ : Hid (rdOk l = objOk ⟨(r1 l).1, (rep (exN l) j (r2 l).2).1, (rep (imN l) j2 t4).1, (cnt l 200 t2).1, l.drop c⟩) := by
                    show _ = _
                    rw [← HY.out.1]
                    exact rd_end HST.out HY.out.2
                  obtain ⟨p0, p1, p2, p3, p4⟩ := I11.out.g.facts
                  simp only at p0 p1 p2 p3 p4
                  clear KK hsz
                  go_wp2_with fail
                  refine HOK.mono ?_
                  rintro e w12 ⟨rfl, hb⟩
                  have R12 := R11.out.below hb R11.out.lt
                  have I12 : Hid (RI w wr w12 (gr + 1) go ⟨.slice a1 (r1 l).1.length c1, .slice ae j ce, .slice ai j2 ci, .int .i64 (cnt l 200 t2).1, .slice a5 0 c5⟩ (some ⟨b, off, none⟩) c c l (c : Int)) := I11.out.below hb
                  have y12 : Below w.heap.size w w12 := I12.out.sc.bel
                  have N12 : Hid ((Fd.b (r1 l).1).Has w12 (gr + 2) (.slice a1 (r1 l).1.length c1)) := N11.out.below hb
                  have E12 : Hid (AL w12 41 w3.heap.size (.slice ae j ce) le (rep (exN l) j (r2 l).2).1) := E11.out.below hb
                  have J12 : Hid (AL w12 43 w5.heap.size (.slice ai j2 ci) li (rep (imN l) j2 t4).1) := J11.out.below hb
                  have C12 : Hid ((Fd.b (l.drop c)).Has w12 w8.heap.size (.slice a5 0 c5)) := C11.out.below hb
                  have hw8 : gr + 2 ≤ w8.heap.size := by have := I8.out.size; have := HI2.out.size; omega
                  clear HOK p0 p1 p2 p3 p4 hb
                  cases hv : objOk ⟨(r1 l).1, (rep (exN l) j (r2 l).2).1, (rep (imN l) j2 t4).1, (cnt l 200 t2).1, l.drop c⟩
                  · have HNO : Hid (rdOk l = false) := by show _ = _; rw [HEQ.out]; exact hv
                    clear hv
                    have hgw : w.heap.size ≤ gr := by have := HGR.out; omega
                    obtain ⟨_, _, _, _, _⟩ := R12.facts
                    obtain ⟨f0, f1, f2, f3, f4⟩ := R12.frozen
                    go_wp2_with fail
                    have R9 : B5 (((((w12.setCell ⟨gr, 0, none⟩ (.slice none 0 0)).setCell ⟨gr, 1, none⟩ (.slice none 0 0)).setCell ⟨gr, 2, none⟩ (.slice none 0 0)).setCell ⟨gr, 3, none⟩ (.int .i64 0)).setCell ⟨gr, 4, none⟩ (.slice none 0 0)) gr 26 ⟨.slice none 0 0, .slice none 0 0, .slice none 0 0, .int .i64 0, .slice none 0 0⟩ := ((((R12.set0 _).set1 _).set2 _).set3 _).set4 _
                    have Y9 : Below w.heap.size w (((((w12.setCell ⟨gr, 0, none⟩ (.slice none 0 0)).setCell ⟨gr, 1, none⟩ (.slice none 0 0)).setCell ⟨gr, 2, none⟩ (.slice none 0 0)).setCell ⟨gr, 3, none⟩ (.int .i64 0)).setCell ⟨gr, 4, none⟩ (.slice none 0 0)) := ((((y12.setCell hgw _).setCell hgw _).setCell hgw _).setCell hgw _).setCell hgw _
                    generalize (((((w12.setCell ⟨gr, 0, none⟩ (.slice none 0 0)).setCell ⟨gr, 1, none⟩ (.slice none 0 0)).setCell ⟨gr, 2, none⟩ (.slice none 0 0)).setCell ⟨gr, 3, none⟩ (.int .i64 0)).setCell ⟨gr, 4, none⟩ (.slice none 0 0)) = w9 at *
                    obtain ⟨d0, d1, d2, d3, d4⟩ := R9.facts
                    simp only at d0 d1 d2 d3 d4
                    refine bodyPost_ret (v := .tuple #[.agg #[.slice none 0 0, .slice none 0 0, .slice none 0 0, .int .i64 0, .slice none 0 0], .bool false]) (by simp [results, Try.results4, go_sem, d0, d1, d2, d3, d4]) rfl ⟨⟨.slice none 0 0, .slice none 0 0, .slice none 0 0, .int .i64 0, .slice none 0 0⟩, ?_, ?_, Y9⟩
                    · rw [HNO.out]
                    · rw [rdR_no HNO.out]
                      exact (OOwn.zero _ 0).read (by intro d hd; cases hd) (by intro d hd; cases hd)
                  · have HYES : Hid (rdOk l = true) := by show _ = _; rw [HEQ.out]; exact hv
                    clear hv
                    obtain ⟨p0, p1, p2, p3, p4⟩ := I12.out.g.facts
                    simp only at p0 p1 p2 p3 p4
                    obtain ⟨_, _, _, _, _⟩ := R12.facts
                    obtain ⟨f0, f1, f2, f3, f4⟩ := R12.frozen
                    go_wp2_with fail
                    have hgw : w.heap.size ≤ gr := by have := HGR.out; omega
                    have R9 : B5 (((((w12.setCell ⟨gr, 0, none⟩ (.slice a1 (r1 l).1.length c1)).setCell ⟨gr, 1, none⟩ (.slice ae j ce)).setCell ⟨gr, 2, none⟩ (.slice ai j2 ci)).setCell ⟨gr, 3, none⟩ (.int .i64 (cnt l 200 t2).1)).setCell ⟨gr, 4, none⟩ (.slice a5 0 c5)) gr 26 ⟨.slice a1 (r1 l).1.length c1, .slice ae j ce, .slice ai j2 ci, .int .i64 (cnt l 200 t2).1, .slice a5 0 c5⟩ := ((((R12.set0 _).set1 _).set2 _).set3 _).set4 _
                    have Y9 : Below w.heap.size w (((((w12.setCell ⟨gr, 0, none⟩ (.slice a1 (r1 l).1.length c1)).setCell ⟨gr, 1, none⟩ (.slice ae j ce)).setCell ⟨gr, 2, none⟩ (.slice ai j2 ci)).setCell ⟨gr, 3, none⟩ (.int .i64 (cnt l 200 t2).1)).setCell ⟨gr, 4, none⟩ (.slice a5 0 c5)) := ((((y12.setCell hgw _).setCell hgw _).setCell hgw _).setCell hgw _).setCell hgw _
                    have hlw : gr < gr + 2 := by omega
                    have C9 : Same (gr + 2) w12 (((((w12.setCell ⟨gr, 0, none⟩ (.slice a1 (r1 l).1.length c1)).setCell ⟨gr, 1, none⟩ (.slice ae j ce)).setCell ⟨gr, 2, none⟩ (.slice ai j2 ci)).setCell ⟨gr, 3, none⟩ (.int .i64 (cnt l 200 t2).1)).setCell ⟨gr, 4, none⟩ (.slice a5 0 c5)) := ((((Same.put hlw).trans (Same.put hlw)).trans (Same.put hlw)).trans (Same.put hlw)).trans (Same.put hlw)
                    generalize (((((w12.setCell ⟨gr, 0, none⟩ (.slice a1 (r1 l).1.length c1)).setCell ⟨gr, 1, none⟩ (.slice ae j ce)).setCell ⟨gr, 2, none⟩ (.slice ai j2 ci)).setCell ⟨gr, 3, none⟩ (.int .i64 (cnt l 200 t2).1)).setCell ⟨gr, 4, none⟩ (.slice a5 0 c5)) = w9 at *
                    obtain ⟨d0, d1, d2, d3, d4⟩ := R9.facts
                    simp only at d0 d1 d2 d3 d4
                    refine bodyPost_ret (v := .tuple #[.agg #[.slice a1 (r1 l).1.length c1, .slice ae j ce, .slice ai j2 ci, .int .i64 (cnt l 200 t2).1, .slice a5 0 c5], .bool true]) (by simp [results, Try.results4, go_sem, d0, d1, d2, d3, d4]) rfl ⟨⟨.slice a1 (r1 l).1.length c1, .slice ae j ce, .slice ai j2 ci, .int .i64 (cnt l 200 t2).1, .slice a5 0 c5⟩, ?_, ?_, Y9⟩
                    · rw [HYES.out]
                    · rw [rdR_yes HYES.out, HY.out.1]
                      exact ⟨(N12.out.same C9).read, (E12.out.same (C9.mono (by omega))).own.dv, (J12.out.same (C9.mono (by omega))).own.dv, rfl, (C12.out.same (C9.mono (by omega))).read, rep_mem (exN_is l) _ _, rep_mem (imN_is l) _ _⟩
                · have hrF : BRow (w8.alloc (.cells #[] 5)) (some ⟨b, off + yn, none⟩) (n - yn) (l.drop yn) := hrE
                  clear hrE
                  go_wp2_with (at_builtin; refine wpList_appendB rfl _ _ rfl w8.heap.size _ 0 [] rfl hE _ (n - yn) _ (l.drop yn) rfl hrF (by intro hh; cases hh) (by omega) (by simp) ?_)
                  intro v2 w10 ho2 hg2
                  have hb2 := hE.grown hg2 hBE (by simp)
                  have ho3 : Own w10 w8.heap.size v2 (n - yn) (l.drop yn) := by simpa using ho2
                  have own5 := ho3.made hb2
                  obtain ⟨a5, c5, hv5, hm5⟩ := own5
                  subst hv5
                  have I10 : RI w wr w10 (gr + 1) go ⟨.slice a1 (r1 l).1.length c1, .slice ae j ce, .slice ai j2 ci, .int .i64 (cnt l 200 t2).1, .slice none 0 0⟩ (some ⟨b, off, none⟩) n c l (yn : Int) := (I8.out.below (below_empty w8)).grown hg2 (by intro g hg; simp [Value.ownBlock] at hg; subst hg; exact I8.out.size)
                  have C10 : Hid ((Fd.b (l.drop yn)).Has w10 w8.heap.size (.slice a5 (n - yn) c5)) := ⟨a5, c5, by rw [hdl.out], by rw [hdl.out]; exact ho3⟩
                  obtain ⟨m0, m1, m2', m3, m4⟩ := I10.g.facts
                  obtain ⟨n0, n1, n2', n3, n4⟩ := I10.g.frozen
                  simp only at m0 m1 m2' m3 m4
                  have I11 : Hid (RI w wr (w10.setCell ⟨go, 4, none⟩ (.slice a5 (n - yn) c5)) (gr + 1) go ⟨.slice a1 (r1 l).1.length c1, .slice ae j ce, .slice ai j2 ci, .int .i64 (cnt l 200 t2).1, .slice a5 (n - yn) c5⟩ (some ⟨b, off, none⟩) n c l (yn : Int)) := I10.set (I10.g.set4 _)
                  have C11 : Hid ((Fd.b (l.drop yn)).Has (w10.setCell ⟨go, 4, none⟩ (.slice a5 (n - yn) c5)) w8.heap.size (.slice a5 (n - yn) c5)) := C10.out.other (by intro e; have := C10.out.lt _ e; have := I8.out.size; have := I8.out.lt; omega)
                  clear C10 I10 ho2 ho3 hg2 hb2 hm5 hE hrF
                  go_upto_region 26 with fail
                  generalize w10.setCell ⟨go, 4, none⟩ (.slice a5 (n - yn) c5) = w11 at *
                  clear m0 m1 m2' m3 m4 n0 n1 n2' n3 n4
                  have KK : KeepO [some (gr + 1), some go] w5 w11 := K6.out.trans I11.out.k
                  have N11 : Hid ((Fd.b (r1 l).1).Has w11 (gr + 2) (.slice a1 (r1 l).1.length c1)) := N5.out.keep2 KK (by omega) NB.out
                  have R11 : Hid (B5 w11 gr 26 ⟨.slice none 0 0, .slice none 0 0, .slice none 0 0, .int .i64 0, .slice none 0 0⟩) := B5.keep R5.out KK (by simp; omega)
                  have E11 : Hid (AL w11 41 w3.heap.size (.slice ae j ce) le (rep (exN l) j (r2 l).2).1) := E5.out.keep2 KK (by omega) (by omega)
                  have J11 : Hid (AL w11 43 w5.heap.size (.slice ai j2 ci) li (rep (imN l) j2 t4).1) := HA2.out.keep2 I11.out.k (by omega) (by omega)
                  have hsz : osz ⟨(r1 l).1, (rep (exN l) j (r2 l).2).1, (rep (imN l) j2 t4).1, (cnt l 200 t2).1, l.drop yn⟩ ≤ 1048576 := ob_size HBY.out (by rw [rep_len]; omega) (by rw [rep_len]; omega) (rep_mem (exN_len HBY.out) _ _) (rep_mem (imN_len HBY.out) _ _) (getT_len l 2 HBY.out) (by rw [List.length_drop, HL.out]; omega) _
                  have OR : Hid (ORead w11 ⟨.slice a1 (r1 l).1.length c1, .slice ae j ce, .slice ai j2 ci, .int .i64 (cnt l 200 t2).1, .slice a5 (n - yn) c5⟩ ⟨(r1 l).1, (rep (exN l) j (r2 l).2).1, (rep (imN l) j2 t4).1, (cnt l 200 t2).1, l.drop yn⟩) := ⟨N11.out.read, E11.out.own.dv, J11.out.own.dv, rfl, C11.out.read, rep_mem (exN_is l) _ _, rep_mem (imN_is l) _ _⟩
                  have HOK := specObjectOkM ⟨.slice a1 (r1 l).1.length c1, .slice ae j ce, .slice ai j2 ci, .int .i64 (cnt l 200 t2).1, .slice a5 (n - yn) c5⟩ ⟨(r1 l).1, (rep (exN l) j (r2 l).2).1, (rep (imN l) j2 t4).1, (cnt l 200 t2).1, l.drop yn⟩ w11 OR.out hsz
                  simp only at HOK
                  have HEQ : Hid (rdOk l = objOk ⟨(r1 l).1, (rep (exN l) j (r2 l).2).1, (rep (imN l) j2 t4).1, (cnt l 200 t2).1, l.drop yn⟩) := by
                    show _ = _
                    rw [← HY.out.1]
                    exact rd_end HST.out HY.out.2
                  obtain ⟨p0, p1, p2, p3, p4⟩ := I11.out.g.facts
                  simp only at p0 p1 p2 p3 p4
                  clear KK hsz
                  go_wp2_with fail
                  refine HOK.mono ?_
                  rintro e w12 ⟨rfl, hb⟩
                  have R12 := R11.out.below hb R11.out.lt
                  have I12 : Hid (RI w wr w12 (gr + 1) go ⟨.slice a1 (r1 l).1.length c1, .slice ae j ce, .slice ai j2 ci, .int .i64 (cnt l 200 t2).1, .slice a5 (n - yn) c5⟩ (some ⟨b, off, none⟩) n c l (yn : Int)) := I11.out.below hb
                  have y12 : Below w.heap.size w w12 := I12.out.sc.bel
                  have N12 : Hid ((Fd.b (r1 l).1).Has w12 (gr + 2) (.slice a1 (r1 l).1.length c1)) := N11.out.below hb
                  have E12 : Hid (AL w12 41 w3.heap.size (.slice ae j ce) le (rep (exN l) j (r2 l).2).1) := E11.out.below hb
                  have J12 : Hid (AL w12 43 w5.heap.size (.slice ai j2 ci) li (rep (imN l) j2 t4).1) := J11.out.below hb
                  have C12 : Hid ((Fd.b (l.drop yn)).Has w12 w8.heap.size (.slice a5 (n - yn) c5)) := C11.out.below hb
                  have hw8 : gr + 2 ≤ w8.heap.size := by have := I8.out.size; have := HI2.out.size; omega
                  clear HOK p0 p1 p2 p3 p4 hb
                  cases hv : objOk ⟨(r1 l).1, (rep (exN l) j (r2 l).2).1, (rep (imN l) j2 t4).1, (cnt l 200 t2).1, l.drop yn⟩
                  · have HNO : Hid (rdOk l = false) := by show _ = _; rw [HEQ.out]; exact hv
                    clear hv
                    have hgw : w.heap.size ≤ gr := by have := HGR.out; omega
                    obtain ⟨_, _, _, _, _⟩ := R12.facts
                    obtain ⟨f0, f1, f2, f3, f4⟩ := R12.frozen
                    go_wp2_with fail
                    have R9 : B5 (((((w12.setCell ⟨gr, 0, none⟩ (.slice none 0 0)).setCell ⟨gr, 1, none⟩ (.slice none 0 0)).setCell ⟨gr, 2, none⟩ (.slice none 0 0)).setCell ⟨gr, 3, none⟩ (.int .i64 0)).setCell ⟨gr, 4, none⟩ (.slice none 0 0)) gr 26 ⟨.slice none 0 0, .slice none 0 0, .slice none 0 0, .int .i64 0, .slice none 0 0⟩ := ((((R12.set0 _).set1 _).set2 _).set3 _).set4 _
                    have Y9 : Below w.heap.size w (((((w12.setCell ⟨gr, 0, none⟩ (.slice none 0 0)).setCell ⟨gr, 1, none⟩ (.slice none 0 0)).setCell ⟨gr, 2, none⟩ (.slice none 0 0)).setCell ⟨gr, 3, none⟩ (.int .i64 0)).setCell ⟨gr, 4, none⟩ (.slice none 0 0)) := ((((y12.setCell hgw _).setCell hgw _).setCell hgw _).setCell hgw _).setCell hgw _
                    generalize (((((w12.setCell ⟨gr, 0, none⟩ (.slice none 0 0)).setCell ⟨gr, 1, none⟩ (.slice none 0 0)).setCell ⟨gr, 2, none⟩ (.slice none 0 0)).setCell ⟨gr, 3, none⟩ (.int .i64 0)).setCell ⟨gr, 4, none⟩ (.slice none 0 0)) = w9 at *
                    obtain ⟨d0, d1, d2, d3, d4⟩ := R9.facts
                    simp only at d0 d1 d2 d3 d4
                    refine bodyPost_ret (v := .tuple #[.agg #[.slice none 0 0, .slice none 0 0, .slice none 0 0, .int .i64 0, .slice none 0 0], .bool false]) (by simp [results, Try.results4, go_sem, d0, d1, d2, d3, d4]) rfl ⟨⟨.slice none 0 0, .slice none 0 0, .slice none 0 0, .int .i64 0, .slice none 0 0⟩, ?_, ?_, Y9⟩
                    · rw [HNO.out]
                    · rw [rdR_no HNO.out]
                      exact (OOwn.zero _ 0).read (by intro d hd; cases hd) (by intro d hd; cases hd)
                  · have HYES : Hid (rdOk l = true) := by show _ = _; rw [HEQ.out]; exact hv
                    clear hv
                    obtain ⟨p0, p1, p2, p3, p4⟩ := I12.out.g.facts
                    simp only at p0 p1 p2 p3 p4
                    obtain ⟨_, _, _, _, _⟩ := R12.facts
                    obtain ⟨f0, f1, f2, f3, f4⟩ := R12.frozen
                    go_wp2_with fail
                    have hgw : w.heap.size ≤ gr := by have := HGR.out; omega
                    have R9 : B5 (((((w12.setCell ⟨gr, 0, none⟩ (.slice a1 (r1 l).1.length c1)).setCell ⟨gr, 1, none⟩ (.slice ae j ce)).setCell ⟨gr, 2, none⟩ (.slice ai j2 ci)).setCell ⟨gr, 3, none⟩ (.int .i64 (cnt l 200 t2).1)).setCell ⟨gr, 4, none⟩ (.slice a5 (n - yn) c5)) gr 26 ⟨.slice a1 (r1 l).1.length c1, .slice ae j ce, .slice ai j2 ci, .int .i64 (cnt l 200 t2).1, .slice a5 (n - yn) c5⟩ := ((((R12.set0 _).set1 _).set2 _).set3 _).set4 _
                    have Y9 : Below w.heap.size w (((((w12.setCell ⟨gr, 0, none⟩ (.slice a1 (r1 l).1.length c1)).setCell ⟨gr, 1, none⟩ (.slice ae j ce)).setCell ⟨gr, 2, none⟩ (.slice ai j2 ci)).setCell ⟨gr, 3, none⟩ (.int .i64 (cnt l 200 t2).1)).setCell ⟨gr, 4, none⟩ (.slice a5 (n - yn) c5)) := ((((y12.setCell hgw _).setCell hgw _).setCell hgw _).setCell hgw _).setCell hgw _
                    have hlw : gr < gr + 2 := by omega
                    have C9 : Same (gr + 2) w12 (((((w12.setCell ⟨gr, 0, none⟩ (.slice a1 (r1 l).1.length c1)).setCell ⟨gr, 1, none⟩ (.slice ae j ce)).setCell ⟨gr, 2, none⟩ (.slice ai j2 ci)).setCell ⟨gr, 3, none⟩ (.int .i64 (cnt l 200 t2).1)).setCell ⟨gr, 4, none⟩ (.slice a5 (n - yn) c5)) := ((((Same.put hlw).trans (Same.put hlw)).trans (Same.put hlw)).trans (Same.put hlw)).trans (Same.put hlw)
                    generalize (((((w12.setCell ⟨gr, 0, none⟩ (.slice a1 (r1 l).1.length c1)).setCell ⟨gr, 1, none⟩ (.slice ae j ce)).setCell ⟨gr, 2, none⟩ (.slice ai j2 ci)).setCell ⟨gr, 3, none⟩ (.int .i64 (cnt l 200 t2).1)).setCell ⟨gr, 4, none⟩ (.slice a5 (n - yn) c5)) = w9 at *
                    obtain ⟨d0, d1, d2, d3, d4⟩ := R9.facts
                    simp only at d0 d1 d2 d3 d4
                    refine bodyPost_ret (v := .tuple #[.agg #[.slice a1 (r1 l).1.length c1, .slice ae j ce, .slice ai j2 ci, .int .i64 (cnt l 200 t2).1, .slice a5 (n - yn) c5], .bool true]) (by simp [results, Try.results4, go_sem, d0, d1, d2, d3, d4]) rfl ⟨⟨.slice a1 (r1 l).1.length c1, .slice ae j ce, .slice ai j2 ci, .int .i64 (cnt l 200 t2).1, .slice a5 (n - yn) c5⟩, ?_, ?_, Y9⟩
                    · rw [HYES.out]
                    · rw [rdR_yes HYES.out, HY.out.1]
                      exact ⟨(N12.out.same C9).read, (E12.out.same (C9.mono (by omega))).own.dv, (J12.out.same (C9.mono (by omega))).own.dv, rfl, (C12.out.same (C9.mono (by omega))).read, rep_mem (exN_is l) _ _, rep_mem (imN_is l) _ _⟩
end Go.Proofs.Ythfknedokkccaaa
