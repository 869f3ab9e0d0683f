import Derived.Test.YtnhebknckgffoaaObjPure
import Derived.Test.YtnhebknckgffoaaBytesEq
import Derived.Test.YtnhebknckgffoaaNameImpl
import Derived.Deep.Cut
import Derived.Deep.CutRange
import Derived.Test.YtnhebknckgffoaaPackA
/- Exports of one name: the program's search. -/
namespace Go.Proofs.Ytnhebknckgffoaa
open Go.RowKit
set_option linter.unusedVariables false
set_option linter.unusedSimpArgs false
set_option maxRecDepth 100000

theorem exEqM (a1 : Option Addr) (n1 c1 : Nat) (l1 : List Int) (p q : Int) (g : Nat) (a2 : Option Addr) (n2 c2 : Nat) (l2 : List Int) (y z : Value) (w : World) (h1 : BRow w a1 n1 l1) (h2 : BRow w a2 n2 l2) (hg : B3 w g 43 (.slice a2 n2 c2) y z) :
    Calls Try.prog 41 #[.agg #[.slice a1 n1 c1, .int .i64 p, .int .i64 q], .pointer (some ⟨g, 0, none⟩)] w fun e w' => e = .returned (.bool (decide (l1 = l2))) ∧ Below w.heap.size w w' := by
  have x0 := B3.new w 43 (.slice a1 n1 c1) (.int .i64 p) (.int .i64 q)
  have x1 := hg.old (o := .cells #[.slice a1 n1 c1, .int .i64 p, .int .i64 q] 43 (0, 0))
  have y0 : Below w.heap.size w (w.alloc (.cells #[.slice a1 n1 c1, .int .i64 p, .int .i64 q] 43 (0, 0))) := (Below.refl _ _).alloc (Nat.le_refl _) _
  have H := bytesEqualM a1 n1 c1 l1 a2 n2 c2 l2 _ (h1.below y0) (h2.below y0)
  clear h1 h2 hg
  go_enter Try.func41, Try.ntmps41
  go_upto_region 1 with fail
  generalize w.alloc (.cells #[.slice a1 n1 c1, .int .i64 p, .int .i64 q] 43 (0, 0)) = w1 at *
  obtain ⟨q0, _, _, _, _, _⟩ := x0.facts
  obtain ⟨p0, _, _, _, _, _⟩ := x1.facts
  go_wp2_with fail
  refine H.mono ?_
  rintro e w2 ⟨rfl, rfl⟩
  go_wp2_with fail
  go_ret
  exact ⟨rfl, y0⟩

set_option maxHeartbeats 4000000 in
theorem indexExM (a : Option Addr) (n c : Nat) (ds : List D3) (g : Nat) (a2 : Option Addr) (n2 c2 : Nat) (l2 : List Int) (y z : Value) (w : World) (h : DRow w a n ds) (hn : n ≤ 8) (hd : ∀ d ∈ ds, isE d) (h2 : BRow w a2 n2 l2) (hg : B3 w g 43 (.slice a2 n2 c2) y z) :
    Calls Try.prog 60 #[.slice a n c, .func (.func 41) #[] #[.pointer (some ⟨g, 0, none⟩)]] w fun e w' => ∃ r : Int, e = .returned (.int .i64 r) ∧ decide (0 ≤ r) = dup ds l2 ∧ Below w.heap.size w w' := by
  have Hd : Hid (ds.length = n) := h.1
  rcases Nat.eq_zero_or_pos n with h0 | hpos
  · subst h0
    have e0 : ds = [] := List.eq_nil_of_length_eq_zero Hd.out
    subst e0
    clear h h2 hg hd
    go_enter Try.func60, Try.ntmps60
    go_wp2_with fail
    refine wp_loop_rounds 1 ?_
    rw [rounds_succ]
    go_wp2_with fail
    go_ret
    exact ⟨_, rfl, rfl, Below.refl _ _⟩
  · obtain ⟨b, off, rfl⟩ := h.addr hpos
    have H : Hid (DRow w (some ⟨b, off, none⟩) n ds) := h
    have HD : Hid (∀ d ∈ ds, isE d) := hd
    have H2 : Hid (BRow w a2 n2 l2) := h2
    have HG : Hid (B3 w g 43 (.slice a2 n2 c2) y z) := hg
    clear h hd h2 hg
    go_enter Try.func60, Try.ntmps60
    go_wp2_with fail
    go_loopw [5, 8] (fun _ i wr => ∃ j : Nat, j ≤ n ∧ i = .int .i64 j ∧ Hid (dup (ds.take j) l2 = false) ∧ Below w.heap.size w wr) (fun _ i _ => n - (intOf i).toNat)
    case atStart => exact ⟨0, Nat.zero_le _, rfl, by show _ = _; simp [dup], Below.refl _ _⟩
    case round =>
      obtain ⟨j, hj, rfl, hno, hbr⟩ := hrel
      by_cases hlt : j < n
      · obtain ⟨⟨rx, ry, rz⟩, d, hdk, hR, q0, q1, q2⟩ := DRow.el (DRow.below (show DRow w (some ⟨b, off, none⟩) n ds from H.out) hbr) hlt
        obtain ⟨ll, p, q, rfl⟩ := HD.out d (List.mem_of_getElem? hdk)
        obtain ⟨⟨ax, cx, rfl, hbx, hxc, hxm, _⟩, rfl, rfl⟩ := hR
        have HN : Hid (dup (ds.take (j + 1)) l2 = (dup (ds.take j) l2 || decide (ll = l2))) := dup_next hdk
        have HK : Hid (ds[j]? = some ⟨.b ll, .n p, .n q⟩) := hdk
        have HC := exEqM ax ll.length cx ll p q g a2 n2 c2 l2 y z wr hbx (BRow.below H2.out hbr) (B3.below HG.out hbr (B3.lt HG.out))
        clear hdk
        go_wp2_with fail
        refine HC.mono ?_
        rintro e w2 ⟨rfl, hb2⟩
        have hbw : Below w.heap.size w w2 := hbr.trans (hb2.mono hbr.size)
        clear q0 q1 q2 hb2 HC
        by_cases he : ll = l2
        · have hT : decide (ll = l2) = true := decide_eq_true he
          have HS : Hid (dup ds l2 = true) := dup_some HK.out he
          clear he
          rw [hT]
          go_wp2_with fail
          go_ret
          exact ⟨_, rfl, by rw [HS.out]; simp, hbw⟩
        · have hT : decide (ll = l2) = false := decide_eq_false he
          have HS : Hid (dup (ds.take (j + 1)) l2 = false) := by show _ = _; rw [HN.out, hno.out, hT]; rfl
          clear he
          rw [hT]
          go_wp2_with fail
          go_roundw
          case rel => exact ⟨j + 1, by omega, by go_num, HS, hbw⟩
          case measure => simp [intOf]; omega
      · have : j = n := by omega
        subst this
        have HS : Hid (dup ds l2 = false) := by
          have := hno.out
          rwa [List.take_of_length_le (by rw [Hd.out]; exact Nat.le_refl _)] at this
        go_wp2_with fail
        go_ret
        exact ⟨_, rfl, by rw [HS.out]; rfl, hbr⟩

theorem containsExM (a : Option Addr) (n c : Nat) (ds : List D3) (g : Nat) (a2 : Option Addr) (n2 c2 : Nat) (l2 : List Int) (y z : Value) (w : World) (h : DRow w a n ds) (hn : n ≤ 8) (hd : ∀ d ∈ ds, isE d) (h2 : BRow w a2 n2 l2) (hg : B3 w g 43 (.slice a2 n2 c2) y z) :
    Calls Try.prog 40 #[.slice a n c, .func (.func 41) #[] #[.pointer (some ⟨g, 0, none⟩)]] w fun e w' => e = .returned (.bool (dup ds l2)) ∧ Below w.heap.size w w' := by
  have H := indexExM a n c ds g a2 n2 c2 l2 y z w h hn hd h2 hg
  clear h hd h2 hg
  go_enter Try.func40, Try.ntmps40
  go_wp2_with fail
  refine H.mono ?_
  rintro e w2 ⟨r, rfl, hr, hb⟩
  go_wp2_with fail
  go_ret
  exact ⟨rfl, hb⟩
end Go.Proofs.Ytnhebknckgffoaa

/- What the program tells of exports, imports and objects. -/
namespace Go.Proofs.Ytnhebknckgffoaa
open Go.RowKit
set_option linter.unusedVariables false
set_option linter.unusedSimpArgs false
set_option maxRecDepth 100000

set_option maxHeartbeats 4000000 in
theorem implImportsM (a : Option Addr) (n c : Nat) (ds : List D3) (w : World) (h : DRow w a n ds) (hd : ∀ d ∈ ds, ∃ l l2 p, d = (⟨.b l, .b l2, .n p⟩ : D3) ∧ l.length ≤ 1048576 ∧ l2.length ≤ 1048576) (hn : n ≤ 1048576) :
    Calls Try.prog 25 #[.slice a n c] w fun e w' => e = .returned (.bool (imsOk ds)) ∧ Below w.heap.size w w' := by
  have Hd : Hid (ds.length = n) := h.1
  by_cases h8 : 8 < n
  · have HD : Hid (imsOk ds = false) := imsOk_long (by rw [Hd.out]; exact h8)
    clear h hd
    go_enter Try.func25, Try.ntmps25
    go_wp2_with fail
    go_ret
    exact ⟨ret_bool HD.out.symm, Below.refl _ _⟩
  rcases Nat.eq_zero_or_pos n with h0 | hpos
  · subst h0
    have HD : Hid (imsOk ds = true) := imsOk_yes (by rw [Hd.out]; omega) (by rw [Hd.out]; intro j hj; omega)
    clear h hd
    go_enter Try.func25, Try.ntmps25
    go_wp2_with fail
    refine wp_loop_rounds 1 ?_
    rw [rounds_succ]
    go_wp2_with fail
    go_ret
    exact ⟨ret_bool HD.out.symm, Below.refl _ _⟩
  obtain ⟨b, off, rfl⟩ := h.addr hpos
  have H : Hid (DRow w (some ⟨b, off, none⟩) n ds) := h
  have HD : Hid (∀ d ∈ ds, ∃ l l2 p, d = (⟨.b l, .b l2, .n p⟩ : D3) ∧ l.length ≤ 1048576 ∧ l2.length ≤ 1048576) := hd
  clear h hd
  go_enter Try.func25, Try.ntmps25
  go_wp2_with fail
  go_loopw [4, 10] (fun _ i wr => ∃ j : Nat, j ≤ n ∧ i = .int .i64 j ∧ Hid (∀ m < j, imAt ds m = true) ∧ Below w.heap.size w wr) (fun _ i _ => n - (intOf i).toNat)
  case atStart => exact ⟨0, Nat.zero_le _, rfl, by intro m hm; omega, Below.refl _ _⟩
  case round =>
    obtain ⟨j, hj, rfl, hall, hbr⟩ := hrel
    by_cases hlt : j < n
    · obtain ⟨⟨rx, ry, rz⟩, d, hdk, hR, q0, q1, q2⟩ := DRow.el (DRow.below (show DRow w (some ⟨b, off, none⟩) n ds from H.out) hbr) hlt
      obtain ⟨ll, ll2, p, rfl, hll, hll2⟩ := HD.out d (List.mem_of_getElem? hdk)
      obtain ⟨⟨ax, cx, rfl, hbx, hxc, hxm, _⟩, ⟨ay, cy, rfl, hby, hyc, hym, _⟩, rfl⟩ := hR
      have HA : Hid (imAt ds j = (nameOk ll true && nameOk ll2 false && inB p 0 2147483647)) := imAt_eq hdk
      have HJ : Hid (j < ds.length) := by show j < ds.length; rw [Hd.out]; exact hlt
      clear hdk hxm hym
      go_upto_region 6 with fail
      have x0 := B3.new wr 47 (.slice ax ll.length cx) (.slice ay ll2.length cy) (.int .i64 p)
      have y0 : Below wr.heap.size wr (wr.alloc (.cells #[.slice ax ll.length cx, .slice ay ll2.length cy, .int .i64 p] 47 (0, 0))) := (Below.refl _ _).alloc (Nat.le_refl _) _
      generalize wr.alloc (.cells #[.slice ax ll.length cx, .slice ay ll2.length cy, .int .i64 p] 47 (0, 0)) = w1 at *
      have hbw : Below w.heap.size w w1 := hbr.trans (y0.mono hbr.size)
      have H1 := implNameOk ax ll.length cx ll true w1 (hbx.below y0) (by omega) hxc
      have H2 := implNameOk ay ll2.length cy ll2 false w1 (hby.below y0) (by omega) hyc
      have H3 := inRangeC p 0 2147483647 w1
      obtain ⟨k0, k1, k2, _, _, _⟩ := x0.facts
      clear q0 q1 q2 x0 y0 hbx hby hbr
      cases v1 : nameOk ll true
      · have HF : Hid (imsOk ds = false) := imsOk_no HJ.out (by rw [HA.out, v1]; rfl)
        rw [v1] at H1
        go_wp2_with fail
        refine H1.mono ?_
        rintro e w1 ⟨rfl, rfl⟩
        go_wp2_with fail
        go_ret
        exact ⟨ret_bool HF.out.symm, hbw⟩
      rw [v1] at H1
      cases v2 : nameOk ll2 false
      · have HF : Hid (imsOk ds = false) := imsOk_no HJ.out (by rw [HA.out, v1, v2]; rfl)
        rw [v2] at H2
        go_wp2_with fail
        refine H1.mono ?_
        rintro e w1 ⟨rfl, rfl⟩
        go_wp2_with fail
        refine H2.mono ?_
        rintro e w1 ⟨rfl, rfl⟩
        go_wp2_with fail
        go_ret
        exact ⟨ret_bool HF.out.symm, hbw⟩
      rw [v2] at H2
      cases v3 : (decide ((0 : Int) ≤ p) && decide (p ≤ 2147483647))
      · have HF : Hid (imsOk ds = false) := imsOk_no HJ.out (by rw [HA.out, v1, v2]; unfold inB; rw [v3]; rfl)
        rw [v3] at H3
        go_wp2_with fail
        refine H1.mono ?_
        rintro e w1 ⟨rfl, rfl⟩
        go_wp2_with fail
        refine H2.mono ?_
        rintro e w1 ⟨rfl, rfl⟩
        go_wp2_with fail
        refine H3.mono ?_
        rintro e w1 ⟨rfl, rfl⟩
        go_wp2_with fail
        go_ret
        exact ⟨ret_bool HF.out.symm, hbw⟩
      have HF : Hid (imAt ds j = true) := by show _ = _; rw [HA.out, v1, v2]; unfold inB; rw [v3]; rfl
      rw [v3] at H3
      go_wp2_with fail
      refine H1.mono ?_
      rintro e w1 ⟨rfl, rfl⟩
      go_wp2_with fail
      refine H2.mono ?_
      rintro e w1 ⟨rfl, rfl⟩
      go_wp2_with fail
      refine H3.mono ?_
      rintro e w1 ⟨rfl, rfl⟩
      go_wp2_with fail
      go_roundw
      case rel => exact ⟨j + 1, by omega, by go_num, before_next hall.out HF.out, hbw⟩
      case measure => simp [intOf]; omega
    · have : j = n := by omega
      subst this
      go_wp2_with fail
      go_ret
      exact ⟨ret_bool (imsOk_yes (by rw [Hd.out]; omega) (by rw [Hd.out]; exact hall.out)).symm, hbr⟩

set_option maxHeartbeats 4000000 in
theorem implExportsM (a : Option Addr) (n c : Nat) (ds : List D3) (w : World) (h : DRow w a n ds) (hnc : n ≤ c) (hd : ∀ d ∈ ds, ∃ l p q, d = (⟨.b l, .n p, .n q⟩ : D3) ∧ l.length ≤ 1048576) (hn : n ≤ 1048576) :
    Calls Try.prog 24 #[.slice a n c] w fun e w' => e = .returned (.bool (exsOk ds)) ∧ Below w.heap.size w w' := by
  have Hd : Hid (ds.length = n) := h.1
  by_cases h8 : 8 < n
  · have HD : Hid (exsOk ds = false) := exsOk_long (by rw [Hd.out]; exact h8)
    clear h hd
    go_enter Try.func24, Try.ntmps24
    go_wp2_with fail
    go_ret
    exact ⟨ret_bool HD.out.symm, Below.refl _ _⟩
  rcases Nat.eq_zero_or_pos n with h0 | hpos
  · subst h0
    have HD : Hid (exsOk ds = true) := exsOk_yes (by rw [Hd.out]; omega) (by rw [Hd.out]; intro j hj; omega)
    clear h hd
    go_enter Try.func24, Try.ntmps24
    go_wp2_with fail
    refine wp_loop_rounds 1 ?_
    rw [rounds_succ]
    go_wp2_with fail
    go_ret
    exact ⟨ret_bool HD.out.symm, Below.refl _ _⟩
  obtain ⟨b, off, rfl⟩ := h.addr hpos
  have H : Hid (DRow w (some ⟨b, off, none⟩) n ds) := h
  have HD : Hid (∀ d ∈ ds, ∃ l p q, d = (⟨.b l, .n p, .n q⟩ : D3) ∧ l.length ≤ 1048576) := hd
  clear h hd
  have hmf : ∀ (fn : Fn) (first cap : Array Value) (w : World), (Instr.makeFunc fn first cap).run Try.prog w = .ok (.func fn first cap) w := fun _ _ _ _ => rfl
  go_enter Try.func24, Try.ntmps24
  go_wp2_with fail
  go_loopw [3, 4, 10] (fun _ _ i wr => ∃ j : Nat, j ≤ n ∧ i = .int .i64 j ∧ Hid (∀ m < j, exAt ds m = true) ∧ Below w.heap.size w wr) (fun _ _ i _ => n - (intOf i).toNat)
  case atStart => exact ⟨0, Nat.zero_le _, rfl, by intro m hm; omega, Below.refl _ _⟩
  case round =>
    obtain ⟨j, hj, rfl, hall, hbr⟩ := hrel
    by_cases hlt : j < n
    · obtain ⟨⟨rx, ry, rz⟩, d, hdk, hR, q0, q1, q2⟩ := DRow.el (DRow.below (show DRow w (some ⟨b, off, none⟩) n ds from H.out) hbr) hlt
      obtain ⟨ll, p, q, rfl, hll⟩ := HD.out d (List.mem_of_getElem? hdk)
      obtain ⟨⟨ax, cx, rfl, hbx, hxc, hxm, _⟩, rfl, rfl⟩ := hR
      have HA : Hid (exAt ds j = (nameOk ll false && inB p 0 2147483647 && inB q 0 4000 && !dup (ds.take j) ll)) := exAt_eq hdk
      have HJ : Hid (j < ds.length) := by show j < ds.length; rw [Hd.out]; exact hlt
      clear hdk hxm
      go_upto_region 6 with fail
      have x0 := B3.new wr 43 (.slice ax ll.length cx) (.int .i64 p) (.int .i64 q)
      have y0 : Below wr.heap.size wr (wr.alloc (.cells #[.slice ax ll.length cx, .int .i64 p, .int .i64 q] 43 (0, 0))) := (Below.refl _ _).alloc (Nat.le_refl _) _
      generalize wr.alloc (.cells #[.slice ax ll.length cx, .int .i64 p, .int .i64 q] 43 (0, 0)) = w1 at *
      have hbw : Below w.heap.size w w1 := hbr.trans (y0.mono hbr.size)
      have H1 := implNameOk ax ll.length cx ll false w1 (hbx.below y0) (by omega) hxc
      have H2 := inRangeC p 0 2147483647 w1
      have H3 := inRangeC q 0 4000 w1
      have H4 := containsExM (some ⟨b, off, none⟩) j c (ds.take j) wr.heap.size ax ll.length cx ll (.int .i64 p) (.int .i64 q) w1 (DRow.take (DRow.below (show DRow w (some ⟨b, off, none⟩) n ds from H.out) hbw) hj) (by omega) (fun d hd => by obtain ⟨l, p, q, e, _⟩ := HD.out d (List.mem_of_mem_take hd); exact ⟨l, p, q, e⟩) (hbx.below y0) x0
      obtain ⟨k0, k1, k2, _, _, _⟩ := x0.facts
      clear q0 q1 q2 x0 y0 hbx hbr
      cases v1 : nameOk ll false
      · have HF : Hid (exsOk ds = false) := exsOk_no HJ.out (by rw [HA.out, v1]; rfl)
        rw [v1] at H1
        go_wp2_with fail
        refine H1.mono ?_
        rintro e w1 ⟨rfl, rfl⟩
        go_wp2_with fail
        go_ret
        exact ⟨ret_bool HF.out.symm, hbw⟩
      rw [v1] at H1
      cases v2 : (decide ((0 : Int) ≤ p) && decide (p ≤ 2147483647))
      · have HF : Hid (exsOk ds = false) := exsOk_no HJ.out (by rw [HA.out, v1]; unfold inB; rw [v2]; rfl)
        rw [v2] at H2
        go_wp2_with fail
        refine H1.mono ?_
        rintro e w1 ⟨rfl, rfl⟩
        go_wp2_with fail
        refine H2.mono ?_
        rintro e w1 ⟨rfl, rfl⟩
        go_wp2_with fail
        go_ret
        exact ⟨ret_bool HF.out.symm, hbw⟩
      rw [v2] at H2
      cases v3 : (decide ((0 : Int) ≤ q) && decide (q ≤ 4000))
      · have HF : Hid (exsOk ds = false) := exsOk_no HJ.out (by rw [HA.out, v1]; unfold inB; rw [v2, v3]; rfl)
        rw [v3] at H3
        go_wp2_with fail
        refine H1.mono ?_
        rintro e w1 ⟨rfl, rfl⟩
        go_wp2_with fail
        refine H2.mono ?_
        rintro e w1 ⟨rfl, rfl⟩
        go_wp2_with fail
        refine H3.mono ?_
        rintro e w1 ⟨rfl, rfl⟩
        go_wp2_with fail
        go_ret
        exact ⟨ret_bool HF.out.symm, hbw⟩
      rw [v3] at H3
      have HA' : Hid (exAt ds j = !dup (ds.take j) ll) := by show _ = _; rw [HA.out, v1]; unfold inB; rw [v2, v3]; rfl
      clear v1 v2 v3 HA
      go_wp2_with fail
      refine H1.mono ?_
      rintro e w1 ⟨rfl, rfl⟩
      go_wp2_with fail
      refine H2.mono ?_
      rintro e w1 ⟨rfl, rfl⟩
      go_wp2_with fail
      refine H3.mono ?_
      rintro e w1 ⟨rfl, rfl⟩
      clear H1 H2 H3
      go_wp2_with fail
      refine H4.mono ?_
      rintro e w2 ⟨rfl, hb2⟩
      have hbw2 : Below w.heap.size w w2 := hbw.trans (hb2.mono hbw.size)
      clear hb2 hbw k0 k1 k2 H4
      cases v4 : dup (ds.take j) ll
      · have HF : Hid (exAt ds j = true) := by show _ = _; rw [HA'.out, v4]; rfl
        clear v4
        go_wp2_with fail
        go_roundw
        case rel => exact ⟨j + 1, by omega, by go_num, before_next hall.out HF.out, hbw2⟩
        case measure => simp [intOf]; omega
      · have HF : Hid (exsOk ds = false) := exsOk_no HJ.out (by rw [HA'.out, v4]; rfl)
        clear v4
        go_wp2_with fail
        go_ret
        exact ⟨ret_bool HF.out.symm, hbw2⟩
    · have : j = n := by omega
      subst this
      go_wp2_with fail
      go_ret
      exact ⟨ret_bool (exsOk_yes (by rw [Hd.out]; omega) (by rw [Hd.out]; exact hall.out)).symm, hbr⟩
end Go.Proofs.Ytnhebknckgffoaa

/- What the program tells of an object. -/
namespace Go.Proofs.Ytnhebknckgffoaa
open Go.RowKit
set_option linter.unusedVariables false
set_option linter.unusedSimpArgs false
set_option maxRecDepth 100000

set_option maxHeartbeats 4000000 in
theorem implObjectOkM (o : O5) (b : Ob) (w : World) (h : ORead w o b) (hs : osz b ≤ 1048576) :
    Calls Try.prog 7 #[.agg #[o.x, o.e, o.i, o.d, o.c]] w fun e w' => e = .returned (.bool (objOk b)) ∧ Below w.heap.size w w' := by
  obtain ⟨x, xe, xi, xd, xc⟩ := o
  have EX := osz_ex hs h.exs
  have IM := osz_im hs h.ims
  obtain ⟨nm, ex, im, dt, cd, _, _⟩ := h
  simp only at nm ex im dt cd
  obtain ⟨a1, c1, rfl, r1, v1, _⟩ := nm
  obtain ⟨a2, c2, rfl, r2, v2, _⟩ := ex
  obtain ⟨a3, c3, rfl, r3, _⟩ := im
  obtain ⟨a4, c4, rfl, r4, _⟩ := cd
  subst dt
  clear r4
  unfold osz at hs
  have x0 := B5.new w 26 ⟨.slice a1 b.name.length c1, .slice a2 b.ex.length c2, .slice a3 b.im.length c3, .int .i64 b.data, .slice a4 b.code.length c4⟩
  have y0 : Below w.heap.size w (w.alloc (.cells #[.slice a1 b.name.length c1, .slice a2 b.ex.length c2, .slice a3 b.im.length c3, .int .i64 b.data, .slice a4 b.code.length c4] 26 (0, 0))) := (Below.refl _ _).alloc (Nat.le_refl _) _
  simp only at x0
  have HO : Hid (objOk b = (nameOk b.name true && exsOk b.ex && imsOk b.im && inB b.data 0 200 && decide (b.code.length ≤ 9000))) := rfl
  go_enter Try.func7, Try.ntmps7
  go_upto_region 1 with fail
  generalize w.alloc (.cells #[.slice a1 b.name.length c1, .slice a2 b.ex.length c2, .slice a3 b.im.length c3, .int .i64 b.data, .slice a4 b.code.length c4] 26 (0, 0)) = w0 at *
  have H1 := implNameOk a1 b.name.length c1 b.name true w0 (r1.below y0) (by omega) v1
  have H2 := implExportsM a2 b.ex.length c2 b.ex w0 (r2.below y0) v2 EX (by omega)
  obtain ⟨k0, k1, _, _, _⟩ := x0.facts
  clear r1 r2
  cases e1 : nameOk b.name true
  · have HF : Hid (objOk b = false) := by show _ = _; rw [HO.out, e1]; rfl
    rw [e1] at H1
    go_wp2_with fail
    refine H1.mono ?_
    rintro e w0 ⟨rfl, rfl⟩
    go_wp2_with fail
    go_ret
    exact ⟨ret_bool HF.out.symm, y0⟩
  rw [e1] at H1
  have HO1 : Hid (objOk b = (exsOk b.ex && imsOk b.im && inB b.data 0 200 && decide (b.code.length ≤ 9000))) := by show _ = _; rw [HO.out, e1]; rfl
  clear e1 HO
  go_wp2_with fail
  refine H1.mono ?_
  rintro e w0 ⟨rfl, rfl⟩
  go_wp2_with fail
  refine H2.mono ?_
  rintro e w1 ⟨rfl, hb1⟩
  have x1 := x0.below hb1 x0.lt
  have y1 : Below w.heap.size w w1 := y0.trans (hb1.mono y0.size)
  have H3 := implImportsM a3 b.im.length c3 b.im w1 (r3.below y1) IM (by omega)
  clear x0 y0 hb1 H1 H2 k0 k1 r3
  obtain ⟨_, _, k2, _, _⟩ := x1.facts
  cases e1 : exsOk b.ex
  · have HF : Hid (objOk b = false) := by show _ = _; rw [HO1.out, e1]; rfl
    go_wp2_with fail
    go_ret
    exact ⟨ret_bool HF.out.symm, y1⟩
  have HO2 : Hid (objOk b = (imsOk b.im && inB b.data 0 200 && decide (b.code.length ≤ 9000))) := by show _ = _; rw [HO1.out, e1]; rfl
  clear e1 HO1
  go_wp2_with fail
  refine H3.mono ?_
  rintro e w2 ⟨rfl, hb2⟩
  have x2 := x1.below hb2 x1.lt
  have y2 : Below w.heap.size w w2 := y1.trans (hb2.mono y1.size)
  have H4 := inRangeC b.data 0 200 w2
  clear x1 y1 hb2 H3 k2
  obtain ⟨_, _, _, k3, k4⟩ := x2.facts
  cases e1 : imsOk b.im
  · have HF : Hid (objOk b = false) := by show _ = _; rw [HO2.out, e1]; rfl
    go_wp2_with fail
    go_ret
    exact ⟨ret_bool HF.out.symm, y2⟩
  have HO3 : Hid (objOk b = (inB b.data 0 200 && decide (b.code.length ≤ 9000))) := by show _ = _; rw [HO2.out, e1]; rfl
  clear e1 HO2
  go_wp2_with fail
  refine H4.mono ?_
  rintro e w2 ⟨rfl, rfl⟩
  have HB : Hid (inB b.data 0 200 = (decide (0 ≤ b.data) && decide (b.data ≤ 200))) := rfl
  cases e1 : (decide (0 ≤ b.data) && decide (b.data ≤ 200))
  · have HF : Hid (objOk b = false) := by show _ = _; rw [HO3.out, HB.out, e1]; rfl
    clear e1 H4
    go_wp2_with fail
    go_ret
    exact ⟨ret_bool HF.out.symm, y2⟩
  have HF : Hid (objOk b = decide (b.code.length ≤ 9000)) := by show _ = _; rw [HO3.out, HB.out, e1]; rfl
  clear e1 H4
  go_wp2_with fail
  go_ret
  exact ⟨ret_bool (by rw [HF.out]; apply decide_eq_decide.2; omega), y2⟩
end Go.Proofs.Ytnhebknckgffoaa
