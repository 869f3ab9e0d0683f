/- Sum: both bodies reckon the same number, and the law of it returns true at every slice of bytes. -/
import Derived.Test.YtefciaeajlgheaaBase
namespace Go.Proofs.Ytefciaeajlgheaa
open Go.RowKit

/-- The number that the first bytes of l come to. -/
def sumTo (l : List Int) : Nat → Int
  | 0 => 7
  | k + 1 => (sumTo l k * 257 + l[k]?.getD 0 + 1) % 2147483647

theorem sumTo_bd (l : List Int) (k : Nat) : 0 ≤ sumTo l k ∧ sumTo l k ≤ 2147483646 := by
  cases k with
  | zero => simp [sumTo]
  | succ k => simp only [sumTo]; omega

set_option maxHeartbeats 1000000 in
theorem specSum (a : Option Addr) (n c : Nat) (l : List Int) (w : World) (h : BRow w a n l) (hn : n ≤ 1073741824) :
    Calls Try.prog 44 #[.slice a n c] w fun e w' => e = .returned (.int .i64 (sumTo l n)) ∧ w' = w := by
  obtain ⟨_, hby, hc⟩ := h
  rcases Nat.eq_zero_or_pos n with h0 | hpos
  · subst h0
    clear hc
    go_enter Try.func44, Try.ntmps44
    go_wp2
    refine wp_loop_rounds 1 ?_
    rw [rounds_succ]
    go_wp2
    go_ret
    exact ⟨ret_int rfl, rfl⟩
  · obtain ⟨b, off, rfl, hd⟩ := hc hpos
    clear hc
    go_enter Try.func44, Try.ntmps44
    go_wp2
    go_loop [3, 4] (fun s i => ∃ j : Nat, j ≤ n ∧ i = .int .i64 j ∧ s = .int .i64 (sumTo l j)) (fun _ i => n - (intOf i).toNat)
    case atStart => exact ⟨0, Nat.zero_le _, rfl, rfl⟩
    case round =>
      obtain ⟨j, hj, rfl, rfl⟩ := hrel
      have hs := sumTo_bd l j
      by_cases hlt : j < n
      · have hx := hd j hlt
        have hb := byte_at hby j
        have hnext : Hid (sumTo l (j + 1) = (sumTo l j * 257 + l[j]?.getD 0 + 1) % 2147483647) := rfl
        clear hd
        generalize sumTo l j = s at *
        generalize l[j]?.getD 0 = x at *
        go_wp2
        go_round
        case rel => exact ⟨j + 1, by omega, by go_num, by rw [hnext.out]⟩
        case measure => simp [intOf]; omega
      · clear hd
        go_wp2
        go_ret
        have : j = n := by omega
        subst this
        exact ⟨rfl, rfl⟩

set_option maxHeartbeats 1000000 in
theorem implSum (a : Option Addr) (n c : Nat) (l : List Int) (w : World) (h : BRow w a n l) (hn : n ≤ 1073741824) :
    Calls Try.prog 60 #[.slice a n c] w fun e w' => e = .returned (.int .i64 (sumTo l n)) ∧ w' = w := by
  obtain ⟨_, hby, hc⟩ := h
  rcases Nat.eq_zero_or_pos n with h0 | hpos
  · subst h0
    clear hc
    go_enter Try.func60, Try.ntmps60
    go_wp2
    refine wp_loop_rounds 1 ?_
    rw [rounds_succ]
    go_wp2
    go_ret
    exact ⟨ret_int rfl, rfl⟩
  · obtain ⟨b, off, rfl, hd⟩ := hc hpos
    clear hc
    go_enter Try.func60, Try.ntmps60
    go_wp2
    go_loop [3, 8] (fun s i => ∃ j : Nat, j ≤ n ∧ i = .int .i64 j ∧ s = .int .i64 (sumTo l j)) (fun _ i => n - (intOf i).toNat)
    case atStart => exact ⟨0, Nat.zero_le _, rfl, rfl⟩
    case round =>
      obtain ⟨j, hj, rfl, rfl⟩ := hrel
      have hs := sumTo_bd l j
      by_cases hlt : j < n
      · have hx := hd j hlt
        have hb := byte_at hby j
        have hnext : Hid (sumTo l (j + 1) = (sumTo l j * 257 + l[j]?.getD 0 + 1) % 2147483647) := rfl
        clear hd
        generalize sumTo l j = s at *
        generalize l[j]?.getD 0 = x at *
        go_wp2
        go_round
        case rel => exact ⟨j + 1, by omega, by go_num, by rw [hnext.out]; go_num⟩
        case measure => simp [intOf]; omega
      · clear hd
        go_wp2
        go_ret
        have : j = n := by omega
        subst this
        exact ⟨rfl, rfl⟩
end Go.Proofs.Ytefciaeajlgheaa
