/- What the program tells of exports, imports and objects. -/
import Derived.Test.YtefciaeajlgheaaOsDup
namespace Go.Proofs.Ytefciaeajlgheaa
open Go.RowKit
set_option linter.unusedVariables false
set_option linter.unusedSimpArgs false
set_option maxRecDepth 100000

set_option maxHeartbeats 4000000 in
theorem implImportsM (a : Option Addr) (n c : Nat) (ds : List D3) (w : World) (h : DRow w a n ds) (hd : ∀ d ∈ ds, ∃ l l2 p, d = (⟨.b l, .b l2, .n p⟩ : D3) ∧ l.length ≤ 1048576 ∧ l2.length ≤ 1048576) (hn : n ≤ 1048576) :
    Calls Try.prog 52 #[.slice a n c] w fun e w' => e = .returned (.bool (imsOk ds)) ∧ Below w.heap.size w w' := by
  have Hd : Hid (ds.length = n) := h.1
  by_cases h8 : 8 < n
  · have HD : Hid (imsOk ds = false) := imsOk_long (by rw [Hd.out]; exact h8)
    clear h hd
    go_enter Try.func52, Try.ntmps52
    go_wp2_with fail
    go_ret
    exact ⟨ret_bool HD.out.symm, Below.refl _ _⟩
  rcases Nat.eq_zero_or_pos n with h0 | hpos
  · subst h0
    have HD : Hid (imsOk ds = true) := imsOk_yes (by rw [Hd.out]; omega) (by rw [Hd.out]; intro j hj; omega)
    clear h hd
    go_enter Try.func52, Try.ntmps52
    go_wp2_with fail
    refine wp_loop_rounds 1 ?_
    rw [rounds_succ]
    go_wp2_with fail
    go_ret
    exact ⟨ret_bool HD.out.symm, Below.refl _ _⟩
  obtain ⟨b, off, rfl⟩ := h.addr hpos
  have H : Hid (DRow w (some ⟨b, off, none⟩) n ds) := h
  have HD : Hid (∀ d ∈ ds, ∃ l l2 p, d = (⟨.b l, .b l2, .n p⟩ : D3) ∧ l.length ≤ 1048576 ∧ l2.length ≤ 1048576) := hd
  clear h hd
  go_enter Try.func52, Try.ntmps52
  go_wp2_with fail
  go_loopw [4, 10] (fun _ i wr => ∃ j : Nat, j ≤ n ∧ i = .int .i64 j ∧ Hid (∀ m < j, imAt ds m = true) ∧ Below w.heap.size w wr) (fun _ i _ => n - (intOf i).toNat)
  case atStart => exact ⟨0, Nat.zero_le _, rfl, by intro m hm; omega, Below.refl _ _⟩
  case round =>
    obtain ⟨j, hj, rfl, hall, hbr⟩ := hrel
    by_cases hlt : j < n
    · obtain ⟨⟨rx, ry, rz⟩, d, hdk, hR, q0, q1, q2⟩ := DRow.el (DRow.below (show DRow w (some ⟨b, off, none⟩) n ds from H.out) hbr) hlt
      obtain ⟨ll, ll2, p, rfl, hll, hll2⟩ := HD.out d (List.mem_of_getElem? hdk)
      obtain ⟨⟨ax, cx, rfl, hbx, hxc, hxm, _⟩, ⟨ay, cy, rfl, hby, hyc, hym, _⟩, rfl⟩ := hR
      have HA : Hid (imAt ds j = (nameOk ll true && nameOk ll2 false && inB p 0 2147483647)) := imAt_eq hdk
      have HJ : Hid (j < ds.length) := by show j < ds.length; rw [Hd.out]; exact hlt
      clear hdk hxm hym
      go_upto_region 6 with fail
      have x0 := B3.new wr 52 (.slice ax ll.length cx) (.slice ay ll2.length cy) (.int .i64 p)
      have y0 : Below wr.heap.size wr (wr.alloc (.cells #[.slice ax ll.length cx, .slice ay ll2.length cy, .int .i64 p] 52 (0, 0))) := (Below.refl _ _).alloc (Nat.le_refl _) _
      generalize wr.alloc (.cells #[.slice ax ll.length cx, .slice ay ll2.length cy, .int .i64 p] 52 (0, 0)) = w1 at *
      have hbw : Below w.heap.size w w1 := hbr.trans (y0.mono hbr.size)
      have H1 := implNameOk ax ll.length cx ll true w1 (hbx.below y0) (by omega) hxc
      have H2 := implNameOk ay ll2.length cy ll2 false w1 (hby.below y0) (by omega) hyc
      have H3 := inRangeC p 0 2147483647 w1
      obtain ⟨k0, k1, k2, _, _, _⟩ := x0.facts
      clear q0 q1 q2 x0 y0 hbx hby hbr
      cases v1 : nameOk ll true
      · have HF : Hid (imsOk ds = false) := imsOk_no HJ.out (by rw [HA.out, v1]; rfl)
        rw [v1] at H1
        go_wp2_with fail
        refine H1.mono ?_
        rintro e w1 ⟨rfl, rfl⟩
        go_wp2_with fail
        go_ret
        exact ⟨ret_bool HF.out.symm, hbw⟩
      rw [v1] at H1
      cases v2 : nameOk ll2 false
      · have HF : Hid (imsOk ds = false) := imsOk_no HJ.out (by rw [HA.out, v1, v2]; rfl)
        rw [v2] at H2
        go_wp2_with fail
        refine H1.mono ?_
        rintro e w1 ⟨rfl, rfl⟩
        go_wp2_with fail
        refine H2.mono ?_
        rintro e w1 ⟨rfl, rfl⟩
        go_wp2_with fail
        go_ret
        exact ⟨ret_bool HF.out.symm, hbw⟩
      rw [v2] at H2
      cases v3 : (decide ((0 : Int) ≤ p) && decide (p ≤ 2147483647))
      · have HF : Hid (imsOk ds = false) := imsOk_no HJ.out (by rw [HA.out, v1, v2]; unfold inB; rw [v3]; rfl)
        rw [v3] at H3
        go_wp2_with fail
        refine H1.mono ?_
        rintro e w1 ⟨rfl, rfl⟩
        go_wp2_with fail
        refine H2.mono ?_
        rintro e w1 ⟨rfl, rfl⟩
        go_wp2_with fail
        refine H3.mono ?_
        rintro e w1 ⟨rfl, rfl⟩
        go_wp2_with fail
        go_ret
        exact ⟨ret_bool HF.out.symm, hbw⟩
      have HF : Hid (imAt ds j = true) := by show _ = _; rw [HA.out, v1, v2]; unfold inB; rw [v3]; rfl
      rw [v3] at H3
      go_wp2_with fail
      refine H1.mono ?_
      rintro e w1 ⟨rfl, rfl⟩
      go_wp2_with fail
      refine H2.mono ?_
      rintro e w1 ⟨rfl, rfl⟩
      go_wp2_with fail
      refine H3.mono ?_
      rintro e w1 ⟨rfl, rfl⟩
      go_wp2_with fail
      go_roundw
      case rel => exact ⟨j + 1, by omega, by go_num, before_next hall.out HF.out, hbw⟩
      case measure => simp [intOf]; omega
    · have : j = n := by omega
      subst this
      go_wp2_with fail
      go_ret
      exact ⟨ret_bool (imsOk_yes (by rw [Hd.out]; omega) (by rw [Hd.out]; exact hall.out)).symm, hbr⟩

set_option maxHeartbeats 4000000 in
theorem implExportsM (a : Option Addr) (n c : Nat) (ds : List D3) (w : World) (h : DRow w a n ds) (hnc : n ≤ c) (hd : ∀ d ∈ ds, ∃ l p q, d = (⟨.b l, .n p, .n q⟩ : D3) ∧ l.length ≤ 1048576) (hn : n ≤ 1048576) :
    Calls Try.prog 51 #[.slice a n c] w fun e w' => e = .returned (.bool (exsOk ds)) ∧ Below w.heap.size w w' := by
  have Hd : Hid (ds.length = n) := h.1
  by_cases h8 : 8 < n
  · have HD : Hid (exsOk ds = false) := exsOk_long (by rw [Hd.out]; exact h8)
    clear h hd
    go_enter Try.func51, Try.ntmps51
    go_wp2_with fail
    go_ret
    exact ⟨ret_bool HD.out.symm, Below.refl _ _⟩
  rcases Nat.eq_zero_or_pos n with h0 | hpos
  · subst h0
    have HD : Hid (exsOk ds = true) := exsOk_yes (by rw [Hd.out]; omega) (by rw [Hd.out]; intro j hj; omega)
    clear h hd
    go_enter Try.func51, Try.ntmps51
    go_wp2_with fail
    refine wp_loop_rounds 1 ?_
    rw [rounds_succ]
    go_wp2_with fail
    go_ret
    exact ⟨ret_bool HD.out.symm, Below.refl _ _⟩
  obtain ⟨b, off, rfl⟩ := h.addr hpos
  have H : Hid (DRow w (some ⟨b, off, none⟩) n ds) := h
  have HD : Hid (∀ d ∈ ds, ∃ l p q, d = (⟨.b l, .n p, .n q⟩ : D3) ∧ l.length ≤ 1048576) := hd
  clear h hd
  have hmf : ∀ (fn : Fn) (first cap : Array Value) (w : World), (Instr.makeFunc fn first cap).run Try.prog w = .ok (.func fn first cap) w := fun _ _ _ _ => rfl
  go_enter Try.func51, Try.ntmps51
  go_wp2_with fail
  go_loopw [3, 4, 10] (fun _ _ i wr => ∃ j : Nat, j ≤ n ∧ i = .int .i64 j ∧ Hid (∀ m < j, exAt ds m = true) ∧ Below w.heap.size w wr) (fun _ _ i _ => n - (intOf i).toNat)
  case atStart => exact ⟨0, Nat.zero_le _, rfl, by intro m hm; omega, Below.refl _ _⟩
  case round =>
    obtain ⟨j, hj, rfl, hall, hbr⟩ := hrel
    by_cases hlt : j < n
    · obtain ⟨⟨rx, ry, rz⟩, d, hdk, hR, q0, q1, q2⟩ := DRow.el (DRow.below (show DRow w (some ⟨b, off, none⟩) n ds from H.out) hbr) hlt
      obtain ⟨ll, p, q, rfl, hll⟩ := HD.out d (List.mem_of_getElem? hdk)
      obtain ⟨⟨ax, cx, rfl, hbx, hxc, hxm, _⟩, rfl, rfl⟩ := hR
      have HA : Hid (exAt ds j = (nameOk ll false && inB p 0 2147483647 && inB q 0 4000 && !dup (ds.take j) ll)) := exAt_eq hdk
      have HJ : Hid (j < ds.length) := by show j < ds.length; rw [Hd.out]; exact hlt
      clear hdk hxm
      go_upto_region 6 with fail
      have x0 := B3.new wr 60 (.slice ax ll.length cx) (.int .i64 p) (.int .i64 q)
      have y0 : Below wr.heap.size wr (wr.alloc (.cells #[.slice ax ll.length cx, .int .i64 p, .int .i64 q] 60 (0, 0))) := (Below.refl _ _).alloc (Nat.le_refl _) _
      generalize wr.alloc (.cells #[.slice ax ll.length cx, .int .i64 p, .int .i64 q] 60 (0, 0)) = w1 at *
      have hbw : Below w.heap.size w w1 := hbr.trans (y0.mono hbr.size)
      have H1 := implNameOk ax ll.length cx ll false w1 (hbx.below y0) (by omega) hxc
      have H2 := inRangeC p 0 2147483647 w1
      have H3 := inRangeC q 0 4000 w1
      have H4 := containsExM (some ⟨b, off, none⟩) j c (ds.take j) wr.heap.size ax ll.length cx ll (.int .i64 p) (.int .i64 q) w1 (DRow.take (DRow.below (show DRow w (some ⟨b, off, none⟩) n ds from H.out) hbw) hj) (by omega) (fun d hd => by obtain ⟨l, p, q, e, _⟩ := HD.out d (List.mem_of_mem_take hd); exact ⟨l, p, q, e⟩) (hbx.below y0) x0
      obtain ⟨k0, k1, k2, _, _, _⟩ := x0.facts
      clear q0 q1 q2 x0 y0 hbx hbr
      cases v1 : nameOk ll false
      · have HF : Hid (exsOk ds = false) := exsOk_no HJ.out (by rw [HA.out, v1]; rfl)
        rw [v1] at H1
        go_wp2_with fail
        refine H1.mono ?_
        rintro e w1 ⟨rfl, rfl⟩
        go_wp2_with fail
        go_ret
        exact ⟨ret_bool HF.out.symm, hbw⟩
      rw [v1] at H1
      cases v2 : (decide ((0 : Int) ≤ p) && decide (p ≤ 2147483647))
      · have HF : Hid (exsOk ds = false) := exsOk_no HJ.out (by rw [HA.out, v1]; unfold inB; rw [v2]; rfl)
        rw [v2] at H2
        go_wp2_with fail
        refine H1.mono ?_
        rintro e w1 ⟨rfl, rfl⟩
        go_wp2_with fail
        refine H2.mono ?_
        rintro e w1 ⟨rfl, rfl⟩
        go_wp2_with fail
        go_ret
        exact ⟨ret_bool HF.out.symm, hbw⟩
      rw [v2] at H2
      cases v3 : (decide ((0 : Int) ≤ q) && decide (q ≤ 4000))
      · have HF : Hid (exsOk ds = false) := exsOk_no HJ.out (by rw [HA.out, v1]; unfold inB; rw [v2, v3]; rfl)
        rw [v3] at H3
        go_wp2_with fail
        refine H1.mono ?_
        rintro e w1 ⟨rfl, rfl⟩
        go_wp2_with fail
        refine H2.mono ?_
        rintro e w1 ⟨rfl, rfl⟩
        go_wp2_with fail
        refine H3.mono ?_
        rintro e w1 ⟨rfl, rfl⟩
        go_wp2_with fail
        go_ret
        exact ⟨ret_bool HF.out.symm, hbw⟩
      rw [v3] at H3
      have HA' : Hid (exAt ds j = !dup (ds.take j) ll) := by show _ = _; rw [HA.out, v1]; unfold inB; rw [v2, v3]; rfl
      clear v1 v2 v3 HA
      go_wp2_with fail
      refine H1.mono ?_
      rintro e w1 ⟨rfl, rfl⟩
      go_wp2_with fail
      refine H2.mono ?_
      rintro e w1 ⟨rfl, rfl⟩
      go_wp2_with fail
      refine H3.mono ?_
      rintro e w1 ⟨rfl, rfl⟩
      clear H1 H2 H3
      go_wp2_with fail
      refine H4.mono ?_
      rintro e w2 ⟨rfl, hb2⟩
      have hbw2 : Below w.heap.size w w2 := hbw.trans (hb2.mono hbw.size)
      clear hb2 hbw k0 k1 k2 H4
      cases v4 : dup (ds.take j) ll
      · have HF : Hid (exAt ds j = true) := by show _ = _; rw [HA'.out, v4]; rfl
        clear v4
        go_wp2_with fail
        go_roundw
        case rel => exact ⟨j + 1, by omega, by go_num, before_next hall.out HF.out, hbw2⟩
        case measure => simp [intOf]; omega
      · have HF : Hid (exsOk ds = false) := exsOk_no HJ.out (by rw [HA'.out, v4]; rfl)
        clear v4
        go_wp2_with fail
        go_ret
        exact ⟨ret_bool HF.out.symm, hbw2⟩
    · have : j = n := by omega
      subst this
      go_wp2_with fail
      go_ret
      exact ⟨ret_bool (exsOk_yes (by rw [Hd.out]; omega) (by rw [Hd.out]; exact hall.out)).symm, hbr⟩
end Go.Proofs.Ytefciaeajlgheaa
