/- Exports of one name: the program's search. -/
import Derived.Test.YtefciaeajlgheaaOsPure
import Derived.Test.YtefciaeajlgheaaBytesEq
import Derived.Test.YtefciaeajlgheaaNameImpl
import Derived.Deep.Cut
import Derived.Deep.CutRange
namespace Go.Proofs.Ytefciaeajlgheaa
open Go.RowKit
set_option linter.unusedVariables false
set_option linter.unusedSimpArgs false
set_option maxRecDepth 100000

theorem exEqM (a1 : Option Addr) (n1 c1 : Nat) (l1 : List Int) (p q : Int) (g : Nat) (a2 : Option Addr) (n2 c2 : Nat) (l2 : List Int) (y z : Value) (w : World) (h1 : BRow w a1 n1 l1) (h2 : BRow w a2 n2 l2) (hg : B3 w g 60 (.slice a2 n2 c2) y z) :
    Calls Try.prog 78 #[.agg #[.slice a1 n1 c1, .int .i64 p, .int .i64 q], .pointer (some ⟨g, 0, none⟩)] w fun e w' => e = .returned (.bool (decide (l1 = l2))) ∧ Below w.heap.size w w' := by
  have x0 := B3.new w 60 (.slice a1 n1 c1) (.int .i64 p) (.int .i64 q)
  have x1 := hg.old (o := .cells #[.slice a1 n1 c1, .int .i64 p, .int .i64 q] 60 (0, 0))
  have y0 : Below w.heap.size w (w.alloc (.cells #[.slice a1 n1 c1, .int .i64 p, .int .i64 q] 60 (0, 0))) := (Below.refl _ _).alloc (Nat.le_refl _) _
  have H := bytesEqualM a1 n1 c1 l1 a2 n2 c2 l2 _ (h1.below y0) (h2.below y0)
  clear h1 h2 hg
  go_enter Try.func78, Try.ntmps78
  go_upto_region 1 with fail
  generalize w.alloc (.cells #[.slice a1 n1 c1, .int .i64 p, .int .i64 q] 60 (0, 0)) = w1 at *
  obtain ⟨q0, _, _, _, _, _⟩ := x0.facts
  obtain ⟨p0, _, _, _, _, _⟩ := x1.facts
  go_wp2_with fail
  refine H.mono ?_
  rintro e w2 ⟨rfl, rfl⟩
  go_wp2_with fail
  go_ret
  exact ⟨rfl, y0⟩

set_option maxHeartbeats 4000000 in
theorem indexExM (a : Option Addr) (n c : Nat) (ds : List D3) (g : Nat) (a2 : Option Addr) (n2 c2 : Nat) (l2 : List Int) (y z : Value) (w : World) (h : DRow w a n ds) (hn : n ≤ 8) (hd : ∀ d ∈ ds, isE d) (h2 : BRow w a2 n2 l2) (hg : B3 w g 60 (.slice a2 n2 c2) y z) :
    Calls Try.prog 81 #[.slice a n c, .func (.func 78) #[] #[.pointer (some ⟨g, 0, none⟩)]] w fun e w' => ∃ r : Int, e = .returned (.int .i64 r) ∧ decide (0 ≤ r) = dup ds l2 ∧ Below w.heap.size w w' := by
  have Hd : Hid (ds.length = n) := h.1
  rcases Nat.eq_zero_or_pos n with h0 | hpos
  · subst h0
    have e0 : ds = [] := List.eq_nil_of_length_eq_zero Hd.out
    subst e0
    clear h h2 hg hd
    go_enter Try.func81, Try.ntmps81
    go_wp2_with fail
    refine wp_loop_rounds 1 ?_
    rw [rounds_succ]
    go_wp2_with fail
    go_ret
    exact ⟨_, rfl, rfl, Below.refl _ _⟩
  · obtain ⟨b, off, rfl⟩ := h.addr hpos
    have H : Hid (DRow w (some ⟨b, off, none⟩) n ds) := h
    have HD : Hid (∀ d ∈ ds, isE d) := hd
    have H2 : Hid (BRow w a2 n2 l2) := h2
    have HG : Hid (B3 w g 60 (.slice a2 n2 c2) y z) := hg
    clear h hd h2 hg
    go_enter Try.func81, Try.ntmps81
    go_wp2_with fail
    go_loopw [5, 8] (fun _ i wr => ∃ j : Nat, j ≤ n ∧ i = .int .i64 j ∧ Hid (dup (ds.take j) l2 = false) ∧ Below w.heap.size w wr) (fun _ i _ => n - (intOf i).toNat)
    case atStart => exact ⟨0, Nat.zero_le _, rfl, by show _ = _; simp [dup], Below.refl _ _⟩
    case round =>
      obtain ⟨j, hj, rfl, hno, hbr⟩ := hrel
      by_cases hlt : j < n
      · obtain ⟨⟨rx, ry, rz⟩, d, hdk, hR, q0, q1, q2⟩ := DRow.el (DRow.below (show DRow w (some ⟨b, off, none⟩) n ds from H.out) hbr) hlt
        obtain ⟨ll, p, q, rfl⟩ := HD.out d (List.mem_of_getElem? hdk)
        obtain ⟨⟨ax, cx, rfl, hbx, hxc, hxm, _⟩, rfl, rfl⟩ := hR
        have HN : Hid (dup (ds.take (j + 1)) l2 = (dup (ds.take j) l2 || decide (ll = l2))) := dup_next hdk
        have HK : Hid (ds[j]? = some ⟨.b ll, .n p, .n q⟩) := hdk
        have HC := exEqM ax ll.length cx ll p q g a2 n2 c2 l2 y z wr hbx (BRow.below H2.out hbr) (B3.below HG.out hbr (B3.lt HG.out))
        clear hdk
        go_wp2_with fail
        refine HC.mono ?_
        rintro e w2 ⟨rfl, hb2⟩
        have hbw : Below w.heap.size w w2 := hbr.trans (hb2.mono hbr.size)
        clear q0 q1 q2 hb2 HC
        by_cases he : ll = l2
        · have hT : decide (ll = l2) = true := decide_eq_true he
          have HS : Hid (dup ds l2 = true) := dup_some HK.out he
          clear he
          rw [hT]
          go_wp2_with fail
          go_ret
          exact ⟨_, rfl, by rw [HS.out]; simp, hbw⟩
        · have hT : decide (ll = l2) = false := decide_eq_false he
          have HS : Hid (dup (ds.take (j + 1)) l2 = false) := by show _ = _; rw [HN.out, hno.out, hT]; rfl
          clear he
          rw [hT]
          go_wp2_with fail
          go_roundw
          case rel => exact ⟨j + 1, by omega, by go_num, HS, hbw⟩
          case measure => simp [intOf]; omega
      · have : j = n := by omega
        subst this
        have HS : Hid (dup ds l2 = false) := by
          have := hno.out
          rwa [List.take_of_length_le (by rw [Hd.out]; exact Nat.le_refl _)] at this
        go_wp2_with fail
        go_ret
        exact ⟨_, rfl, by rw [HS.out]; rfl, hbr⟩

theorem containsExM (a : Option Addr) (n c : Nat) (ds : List D3) (g : Nat) (a2 : Option Addr) (n2 c2 : Nat) (l2 : List Int) (y z : Value) (w : World) (h : DRow w a n ds) (hn : n ≤ 8) (hd : ∀ d ∈ ds, isE d) (h2 : BRow w a2 n2 l2) (hg : B3 w g 60 (.slice a2 n2 c2) y z) :
    Calls Try.prog 77 #[.slice a n c, .func (.func 78) #[] #[.pointer (some ⟨g, 0, none⟩)]] w fun e w' => e = .returned (.bool (dup ds l2)) ∧ Below w.heap.size w w' := by
  have H := indexExM a n c ds g a2 n2 c2 l2 y z w h hn hd h2 hg
  clear h hd h2 hg
  go_enter Try.func77, Try.ntmps77
  go_wp2_with fail
  refine H.mono ?_
  rintro e w2 ⟨r, rfl, hr, hb⟩
  go_wp2_with fail
  go_ret
  exact ⟨rfl, hb⟩
end Go.Proofs.Ytefciaeajlgheaa
