/- What the specification tells of an object. -/
import Derived.Test.YtefciaeajlgheaaOsPure
import Derived.Test.YtefciaeajlgheaaBytesEq
import Derived.Deep.Cut
import Derived.Deep.CutRange
import Derived.Deep.RegionHeld3
namespace Go.Proofs.Ytefciaeajlgheaa
open Go.RowKit
set_option linter.unusedVariables false
set_option linter.unusedSimpArgs false
set_option maxRecDepth 100000

theorem l5numM (x : Int) (w : World) : Calls Try.prog 43 #[.int .i64 x] w fun e w' => e = .returned (.bool (inB x 0 2147483647)) ∧ w' = w := by
  by_cases h1 : 0 ≤ x
  · go_enter Try.func43, Try.ntmps43
    go_wp2
    go_ret
    exact ⟨ret_bool (by simp [inB, h1]), rfl⟩
  · go_enter Try.func43, Try.ntmps43
    go_wp2
    go_ret
    exact ⟨ret_bool (by simp [inB]; omega), rfl⟩

set_option maxHeartbeats 8000000 in
theorem specObjectOkM (o : O5) (b : Ob) (w : World) (h : ORead w o b) (hs : osz b ≤ 1048576) :
    Calls Try.prog 14 #[.agg #[o.x, o.e, o.i, o.d, o.c]] w fun e w' => e = .returned (.bool (objOk b)) ∧ Below w.heap.size w w' := by
  obtain ⟨x, xe, xi, xd, xc⟩ := o
  have EX : Hid (∀ d ∈ b.ex, ∃ l p q, d = (⟨.b l, .n p, .n q⟩ : D3) ∧ l.length ≤ 1048576) := osz_ex hs h.exs
  have IM : Hid (∀ d ∈ b.im, ∃ l l2 p, d = (⟨.b l, .b l2, .n p⟩ : D3) ∧ l.length ≤ 1048576 ∧ l2.length ≤ 1048576) := osz_im hs h.ims
  obtain ⟨nm, ex, im, dt, cd, _, _⟩ := h
  simp only at nm ex im dt cd
  obtain ⟨a1, c1, rfl, r1, _⟩ := nm
  obtain ⟨a2, c2, rfl, r2, v2, _⟩ := ex
  obtain ⟨a3, c3, rfl, r3, _⟩ := im
  obtain ⟨a4, c4, rfl, r4, _⟩ := cd
  subst dt
  clear r4
  unfold osz at hs
  have x0 := B5.new w 47 ⟨.slice a1 b.name.length c1, .slice a2 b.ex.length c2, .slice a3 b.im.length c3, .int .i64 b.data, .slice a4 b.code.length c4⟩
  have y0 : Below w.heap.size w (w.alloc (.cells #[.slice a1 b.name.length c1, .slice a2 b.ex.length c2, .slice a3 b.im.length c3, .int .i64 b.data, .slice a4 b.code.length c4] 47 (0, 0))) := (Below.refl _ _).alloc (Nat.le_refl _) _
  simp only at x0
  have HO : Hid (objOk b = (nameOk b.name true && exsOk b.ex && imsOk b.im && inB b.data 0 200 && decide (b.code.length ≤ 9000))) := rfl
  go_enter Try.func14, Try.ntmps14
  go_upto_region 1 with fail
  generalize w.alloc (.cells #[.slice a1 b.name.length c1, .slice a2 b.ex.length c2, .slice a3 b.im.length c3, .int .i64 b.data, .slice a4 b.code.length c4] 47 (0, 0)) = w0 at *
  have H1 := specNameOk a1 b.name.length c1 b.name true w0 (r1.below y0) (by omega)
  have R2 : Hid (DRow w0 a2 b.ex.length b.ex) := r2.below y0
  have R3 : Hid (DRow w0 a3 b.im.length b.im) := r3.below y0
  obtain ⟨k0, k1, k2, k3, k4⟩ := x0.facts
  clear r1 r2 r3
  cases e1 : nameOk b.name true
  · have HF : Hid (objOk b = false) := by show _ = _; rw [HO.out, e1]; rfl
    rw [e1] at H1
    go_wp2_with fail
    refine H1.mono ?_
    rintro e w0 ⟨rfl, rfl⟩
    go_wp2_with fail
    go_ret
    exact ⟨ret_bool HF.out.symm, y0⟩
  rw [e1] at H1
  have HO1 : Hid (objOk b = (exsOk b.ex && imsOk b.im && inB b.data 0 200 && decide (b.code.length ≤ 9000))) := by show _ = _; rw [HO.out, e1]; rfl
  clear e1 HO
  go_wp2_with fail
  refine H1.mono ?_
  rintro e w0 ⟨rfl, rfl⟩
  clear H1
  by_cases m1 : 8 < b.ex.length
  · have HF : Hid (objOk b = false) := by show _ = _; rw [HO1.out, exsOk_long m1]; rfl
    go_wp2_with fail
    go_ret
    exact ⟨ret_bool HF.out.symm, y0⟩
  by_cases m2 : 8 < b.im.length
  · have HF : Hid (objOk b = false) := by show _ = _; rw [HO1.out, imsOk_long m2]; simp
    go_wp2_with fail
    go_ret
    exact ⟨ret_bool HF.out.symm, y0⟩
  by_cases m3 : b.data < 0
  · have HF : Hid (objOk b = false) := by show _ = _; rw [HO1.out, show inB b.data 0 200 = false by unfold inB; rw [decide_eq_false (by omega : ¬ 0 ≤ b.data)]; rfl]; simp
    go_wp2_with fail
    go_ret
    exact ⟨ret_bool HF.out.symm, y0⟩
  by_cases m4 : 200 < b.data
  · have HF : Hid (objOk b = false) := by show _ = _; rw [HO1.out, show inB b.data 0 200 = false by unfold inB; rw [decide_eq_false (by omega : ¬ b.data ≤ 200)]; simp]; simp
    go_wp2_with fail
    go_ret
    exact ⟨ret_bool HF.out.symm, y0⟩
  by_cases m5 : 9000 < b.code.length
  · have HF : Hid (objOk b = false) := by show _ = _; rw [HO1.out, decide_eq_false (by omega : ¬ b.code.length ≤ 9000)]; simp
    go_wp2_with fail
    go_ret
    exact ⟨ret_bool HF.out.symm, y0⟩
  have HO2 : Hid (objOk b = (exsOk b.ex && imsOk b.im)) := by
    show _ = _
    rw [HO1.out, show inB b.data 0 200 = true by unfold inB; rw [decide_eq_true (by omega : 0 ≤ b.data), decide_eq_true (by omega : b.data ≤ 200)]; rfl, decide_eq_true (by omega : b.code.length ≤ 9000)]
    simp
  clear HO1
  have X0 : Hid (B5 w0 w.heap.size 47 ⟨.slice a1 b.name.length c1, .slice a2 b.ex.length c2, .slice a3 b.im.length c3, .int .i64 b.data, .slice a4 b.code.length c4⟩) := x0
  have hw0 : w.heap.size < w0.heap.size := x0.lt
  clear x0
  go_wp2_with fail
  clear k0 k1 k2 k3 k4
  go_loopw [3, 4, 5] (fun i _ _ wr => ∃ j : Nat, j ≤ b.ex.length ∧ i = .int .i64 j ∧ Hid (∀ m < j, exAt b.ex m = true) ∧ Below w0.heap.size w0 wr) (fun i _ _ _ => b.ex.length - (intOf i).toNat)
  case atStart => exact ⟨0, Nat.zero_le _, rfl, by intro m hm; omega, Below.refl _ _⟩
  case round =>
    obtain ⟨j, hj, rfl, hall, hbr⟩ := hrel
    have xr := B5.below X0.out hbr hw0
    obtain ⟨_, k1, k2, _, _⟩ := xr.facts
    simp only at k1 k2
    by_cases hlt : j < b.ex.length
    · obtain ⟨bb, off, rfl⟩ := DRow.addr R2.out (by omega)
      obtain ⟨⟨rx, ry, rz⟩, d, hdk, hR, q0, q1, q2⟩ := DRow.el (DRow.below (show DRow w0 (some ⟨bb, off, none⟩) b.ex.length b.ex from R2.out) hbr) hlt
      obtain ⟨ll, p, q, rfl, hll⟩ := EX.out d (List.mem_of_getElem? hdk)
      obtain ⟨⟨ax, cx, rfl, hbx, hxc, hxm, _⟩, rfl, rfl⟩ := hR
      have HA : Hid (exAt b.ex j = (nameOk ll false && inB p 0 2147483647 && inB q 0 4000 && !dup (b.ex.take j) ll)) := exAt_eq hdk
      clear hdk hxm
      go_upto_region 7 with fail
      have x0 := B3.new wr 60 (.slice ax ll.length cx) (.int .i64 p) (.int .i64 q)
      have y1 : Below wr.heap.size wr (wr.alloc (.cells #[.slice ax ll.length cx, .int .i64 p, .int .i64 q] 60 (0, 0))) := (Below.refl _ _).alloc (Nat.le_refl _) _
      generalize wr.alloc (.cells #[.slice ax ll.length cx, .int .i64 p, .int .i64 q] 60 (0, 0)) = w1 at *
      have hbw : Below w0.heap.size w0 w1 := hbr.trans (y1.mono hbr.size)
      have hbw' : Below w.heap.size w w1 := y0.trans (hbw.mono y0.size)
      have H1 := specNameOk ax ll.length cx ll false w1 (hbx.below y1) (by omega)
      have H2 := l5numM p w1
      have HX : Hid (BRow w1 ax ll.length ll) := hbx.below y1
      obtain ⟨g0, g1, g2, _, _, _⟩ := x0.facts
      have XB : Hid (B3 w1 wr.heap.size 60 (.slice ax ll.length cx) (.int .i64 p) (.int .i64 q)) := x0
      clear q0 q1 q2 x0 y1 hbx hbr xr k1 k2
      generalize wr.heap.size = gb at *
      cases v1 : nameOk ll false
      · have HF : Hid (objOk b = false) := by show _ = _; rw [HO2.out, exsOk_no hlt (by rw [HA.out, v1]; rfl)]; rfl
        rw [v1] at H1
        go_wp2_with fail
        refine H1.mono ?_
        rintro e w1 ⟨rfl, rfl⟩
        go_wp2_with fail
        go_ret
        exact ⟨ret_bool HF.out.symm, hbw'⟩
      rw [v1] at H1
      cases v2 : inB p 0 2147483647
      · have HF : Hid (objOk b = false) := by show _ = _; rw [HO2.out, exsOk_no hlt (by rw [HA.out, v1, v2]; rfl)]; rfl
        rw [v2] at H2
        go_wp2_with fail
        refine H1.mono ?_
        rintro e w1 ⟨rfl, rfl⟩
        go_wp2_with fail
        refine H2.mono ?_
        rintro e w1 ⟨rfl, rfl⟩
        go_wp2_with fail
        go_ret
        exact ⟨ret_bool HF.out.symm, hbw'⟩
      rw [v2] at H2
      have HA1 : Hid (exAt b.ex j = (inB q 0 4000 && !dup (b.ex.take j) ll)) := by show _ = _; rw [HA.out, v1, v2]; rfl
      clear v1 v2 HA
      go_wp2_with fail
      refine H1.mono ?_
      rintro e w1 ⟨rfl, rfl⟩
      go_wp2_with fail
      refine H2.mono ?_
      rintro e w1 ⟨rfl, rfl⟩
      clear H1 H2
      by_cases u1 : q < 0
      · have HF : Hid (objOk b = false) := by show _ = _; rw [HO2.out, exsOk_no hlt (by rw [HA1.out]; unfold inB; rw [decide_eq_false (by omega : ¬ 0 ≤ q)]; rfl)]; rfl
        go_wp2_with fail
        go_ret
        exact ⟨ret_bool HF.out.symm, hbw'⟩
      by_cases u2 : 4000 < q
      · have HF : Hid (objOk b = false) := by show _ = _; rw [HO2.out, exsOk_no hlt (by rw [HA1.out]; unfold inB; rw [decide_eq_false (by omega : ¬ q ≤ 4000)]; simp)]; rfl
        go_wp2_with fail
        go_ret
        exact ⟨ret_bool HF.out.symm, hbw'⟩
      have HA2 : Hid (exAt b.ex j = !dup (b.ex.take j) ll) := by show _ = _; rw [HA1.out]; unfold inB; rw [decide_eq_true (by omega : 0 ≤ q), decide_eq_true (by omega : q ≤ 4000)]; rfl
      clear HA1
      go_wp2_with fail
      clear g0 g1 g2
      go_loopw [5] (fun i wq => ∃ k : Nat, k ≤ j ∧ i = .int .i64 k ∧ Hid (dup (b.ex.take k) ll = false) ∧ Below w1.heap.size w1 wq) (fun i _ => j - (intOf i).toNat)
      case atStart => exact ⟨0, Nat.zero_le _, rfl, by show _ = _; simp [dup], Below.refl _ _⟩
      case round =>
        obtain ⟨k, hk, rfl, hno, hbq⟩ := hrel
        have hbq0 := hbw.trans (hbq.mono hbw.size)
        have xr := B5.below X0.out hbq0 hw0
        obtain ⟨_, k1, _, _, _⟩ := xr.facts
        have xb := B3.below XB.out hbq (B3.lt XB.out)
        obtain ⟨g0, _, _, _, _, _⟩ := xb.facts
        simp only at k1
        by_cases hlk : k < j
        · obtain ⟨⟨rx, ry, rz⟩, d, hdk, hR, q0, q1, q2⟩ := DRow.el (DRow.below (show DRow w0 (some ⟨bb, off, none⟩) b.ex.length b.ex from R2.out) hbq0) (show k < b.ex.length by omega)
          obtain ⟨lk, p', q', rfl, hlk'⟩ := EX.out d (List.mem_of_getElem? hdk)
          obtain ⟨⟨ay, cy, rfl, hby, _⟩, rfl, rfl⟩ := hR
          have kc1 := fun d => conv_bytes cy (hby.drewN d)
          have kc2 := fun d => conv_bytes cx (BRow.drewN (BRow.below HX.out hbq) d)
          have hk' : (k : Int) < (b.ex.length : Int) := by omega
          have HE : Hid (((strOfNums lk).toList == (strOfNums ll).toList) = decide (lk = ll)) := str_beq hby.2.1 HX.out.2.1
          have HN : Hid (dup (b.ex.take (k + 1)) ll = (dup (b.ex.take k) ll || decide (lk = ll))) := dup_next hdk
          have HT : Hid (lk = ll → dup (b.ex.take j) ll = true) := fun e => dup_some (d := ⟨.b lk, .n p', .n q'⟩) (show (b.ex.take j)[k]? = some _ by rw [List.getElem?_take, if_pos hlk]; exact hdk) e
          clear hdk hby
          by_cases he : lk = ll
          · have hb : ((strOfNums lk).toList == (strOfNums ll).toList) = true := HE.out.trans (decide_eq_true he)
            have HF : Hid (objOk b = false) := by show _ = _; rw [HO2.out, exsOk_no hlt (by rw [HA2.out, HT.out he]; rfl)]; rfl
            clear he HE HN HT
            go_wp2_with fail
            go_quiet (fail)
            go_wp2_with fail
            go_ret
            exact ⟨ret_bool HF.out.symm, below_drewN (y0.trans (hbq0.mono y0.size)) _⟩
          · have hb : ((strOfNums lk).toList == (strOfNums ll).toList) = false := HE.out.trans (decide_eq_false he)
            have HF : Hid (dup (b.ex.take (k + 1)) ll = false) := by show _ = _; rw [HN.out, hno.out, decide_eq_false he]; rfl
            clear he HE HN HT
            go_wp2_with fail
            go_quiet (fail)
            go_wp2_with fail
            go_roundw
            case rel => exact ⟨k + 1, by omega, by go_num, HF, below_drewN hbq _⟩
            case measure => simp [intOf]; omega
        · have : k = j := by omega
          subst this
          have HF : Hid (exAt b.ex k = true) := by show _ = _; rw [HA2.out, hno.out]; rfl
          go_wp2_with fail
          go_roundw
          case rel => exact ⟨k + 1, by omega, by go_num, before_next hall.out HF.out, hbq0⟩
          case measure => simp [intOf]; omega
    · have : j = b.ex.length := by omega
      subst this
      have HO3 : Hid (objOk b = imsOk b.im) := by show _ = _; rw [HO2.out, exsOk_yes (by omega) hall.out]; rfl
      have hw1 : w.heap.size < wr.heap.size := Nat.lt_of_lt_of_le hw0 hbr.size
      have X1 : Hid (B5 wr w.heap.size 47 ⟨.slice a1 b.name.length c1, .slice a2 b.ex.length c2, .slice a3 b.im.length c3, .int .i64 b.data, .slice a4 b.code.length c4⟩) := xr
      have R4 : Hid (DRow wr a3 b.im.length b.im) := DRow.below R3.out hbr
      have y1 : Below w.heap.size w wr := y0.trans (hbr.mono y0.size)
      clear HO2 hall hbr xr R2 R3 X0 EX y0 hw0
      go_wp2_with fail
      clear k1 k2
      generalize wr = w9 at *
      go_loopw [6, 7] (fun i _ wq => ∃ j : Nat, j ≤ b.im.length ∧ i = .int .i64 j ∧ Hid (∀ m < j, imAt b.im m = true) ∧ Below w9.heap.size w9 wq) (fun i _ _ => b.im.length - (intOf i).toNat)
      case atStart => exact ⟨0, Nat.zero_le _, rfl, by intro m hm; omega, Below.refl _ _⟩
      case round =>
        obtain ⟨k, hk, rfl, hall, hbq⟩ := hrel
        have xr := B5.below X1.out hbq hw1
        obtain ⟨_, _, k2, _, _⟩ := xr.facts
        simp only at k2
        have hbw : Below w.heap.size w wr := y1.trans (hbq.mono y1.size)
        by_cases hlk : k < b.im.length
        · obtain ⟨bb, off, rfl⟩ := DRow.addr R4.out (by omega)
          obtain ⟨⟨rx, ry, rz⟩, d, hdk, hR, q0, q1, q2⟩ := DRow.el (DRow.below (show DRow w9 (some ⟨bb, off, none⟩) b.im.length b.im from R4.out) hbq) hlk
          obtain ⟨ll, ll2, p, rfl, hll, hll2⟩ := IM.out d (List.mem_of_getElem? hdk)
          obtain ⟨⟨ax, cx, rfl, hbx, _⟩, ⟨ay, cy, rfl, hby, _⟩, rfl⟩ := hR
          have HA : Hid (imAt b.im k = (nameOk ll true && nameOk ll2 false && inB p 0 2147483647)) := imAt_eq hdk
          clear hdk
          go_upto_region 18 with fail
          have x0 := B3.new wr 52 (.slice ax ll.length cx) (.slice ay ll2.length cy) (.int .i64 p)
          have yy : Below wr.heap.size wr (wr.alloc (.cells #[.slice ax ll.length cx, .slice ay ll2.length cy, .int .i64 p] 52 (0, 0))) := (Below.refl _ _).alloc (Nat.le_refl _) _
          generalize wr.alloc (.cells #[.slice ax ll.length cx, .slice ay ll2.length cy, .int .i64 p] 52 (0, 0)) = w1 at *
          have hbw1 : Below w.heap.size w w1 := hbw.trans (yy.mono hbw.size)
          have hbq1 : Below w9.heap.size w9 w1 := hbq.trans (yy.mono hbq.size)
          have H1 := specNameOk ax ll.length cx ll true w1 (hbx.below yy) (by omega)
          have H2 := specNameOk ay ll2.length cy ll2 false w1 (hby.below yy) (by omega)
          have H3 := l5numM p w1
          obtain ⟨g0, g1, g2, _, _, _⟩ := x0.facts
          clear q0 q1 q2 x0 yy hbx hby hbq xr k2 hbw
          cases v1 : nameOk ll true
          · have HF : Hid (objOk b = false) := by show _ = _; rw [HO3.out, imsOk_no hlk (by rw [HA.out, v1]; rfl)]
            rw [v1] at H1
            go_wp2_with fail
            refine H1.mono ?_
            rintro e w1 ⟨rfl, rfl⟩
            go_wp2_with fail
            go_ret
            exact ⟨ret_bool HF.out.symm, hbw1⟩
          rw [v1] at H1
          cases v2 : nameOk ll2 false
          · have HF : Hid (objOk b = false) := by show _ = _; rw [HO3.out, imsOk_no hlk (by rw [HA.out, v1, v2]; rfl)]
            rw [v2] at H2
            go_wp2_with fail
            refine H1.mono ?_
            rintro e w1 ⟨rfl, rfl⟩
            go_wp2_with fail
            refine H2.mono ?_
            rintro e w1 ⟨rfl, rfl⟩
            go_wp2_with fail
            go_ret
            exact ⟨ret_bool HF.out.symm, hbw1⟩
          rw [v2] at H2
          cases v3 : inB p 0 2147483647
          · have HF : Hid (objOk b = false) := by show _ = _; rw [HO3.out, imsOk_no hlk (by rw [HA.out, v1, v2, v3]; rfl)]
            rw [v3] at H3
            go_wp2_with fail
            refine H1.mono ?_
            rintro e w1 ⟨rfl, rfl⟩
            go_wp2_with fail
            refine H2.mono ?_
            rintro e w1 ⟨rfl, rfl⟩
            go_wp2_with fail
            refine H3.mono ?_
            rintro e w1 ⟨rfl, rfl⟩
            go_wp2_with fail
            go_ret
            exact ⟨ret_bool HF.out.symm, hbw1⟩
          rw [v3] at H3
          have HF : Hid (imAt b.im k = true) := by show _ = _; rw [HA.out, v1, v2, v3]; rfl
          clear v1 v2 v3 HA
          go_wp2_with fail
          refine H1.mono ?_
          rintro e w1 ⟨rfl, rfl⟩
          go_wp2_with fail
          refine H2.mono ?_
          rintro e w1 ⟨rfl, rfl⟩
          go_wp2_with fail
          refine H3.mono ?_
          rintro e w1 ⟨rfl, rfl⟩
          go_wp2_with fail
          go_roundw
          case rel => exact ⟨k + 1, by omega, by go_num, before_next hall.out HF.out, hbq1⟩
          case measure => simp [intOf]; omega
        · have : k = b.im.length := by omega
          subst this
          have HF : Hid (objOk b = true) := by show _ = _; rw [HO3.out, imsOk_yes (by omega) hall.out]
          go_wp2_with fail
          go_ret
          exact ⟨ret_bool HF.out.symm, hbw⟩
end Go.Proofs.Ytefciaeajlgheaa
