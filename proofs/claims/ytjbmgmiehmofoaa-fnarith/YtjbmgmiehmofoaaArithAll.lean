/- The law of arithmetic: whatever the bytes, sums and products of drawn ints go round as 32 bits do; quotients are told but of 0. -/
import Derived.Test.YtjbmgmiehmofoaaArith
import Derived.Test.YtjbmgmiehmofoaaDrawAny
namespace Go.Proofs.Ytjbmgmiehmofoaa
open Go.RowKit
set_option linter.unusedVariables false
set_option linter.unusedSimpArgs false
set_option maxRecDepth 100000

theorem wr_eq (n : Int) : wr n = (n + 2147483648) % 4294967296 - 2147483648 := by
  unfold wr wrap64 wrap32
  omega
theorem wr_back (a b : Int) : wr (wrap64 (wr (wr (wrap64 (wr a + wr b))) - wr b)) = wr a := by
  simp only [wr_eq, wrap64]
  omega
theorem wr_wr (n : Int) : wr (wr n) = wr n := by simp only [wr_eq]; omega
theorem three (a b : Int) : tr (decide (a < b)) + tr (decide (b < a)) + tr (a == b) = 1 := by
  by_cases h1 : a < b
  · have h2 : ¬ b < a := by omega
    have h3 : (a == b) = false := by rw [beq_eq_false_iff_ne]; omega
    simp [tr, h1, h2, h3]
  · by_cases h2 : b < a
    · have h3 : (a == b) = false := by rw [beq_eq_false_iff_ne]; omega
      simp [tr, h1, h2, h3]
    · have h3 : a = b := by omega
      simp [tr, h3]
theorem tr_in (b : Bool) : 0 ≤ tr b ∧ tr b ≤ 1 := by cases b <;> simp [tr]

set_option maxHeartbeats 4000000 in
theorem drawArithM (a : Option Addr) (n c : Nat) (l : List Int) (w : World) (h : BRow w a n l) (hn : n ≤ 9223372036854775807) :
    Calls Try.prog 5 #[.slice a n c] w fun e w' => ∃ o x y, e = .returned (.tuple #[.int .i64 o, .int .i64 x, .int .i64 y]) ∧ InInt x ∧ InInt y ∧ Below w.heap.size w w' := by
  go_enter Try.func5, Try.ntmps5
  go_wp2_with fail
  refine (newM a n c l _ h hn).mono ?_
  rintro e w1 ⟨g, rfl, hg, hc1, hb1⟩
  clear h
  have hl1 := hc1.lt
  go_wp2_with fail
  refine (pickM g w1.heap.size 9 9 _ (hc1.alloc _) hl1 (by omega) (by omega) (ints_block w1 [0, 1, 2, 3, 4, 5, 3, -1, 6] (inInt_all _ (by decide)))).mono ?_
  rintro e w2 ⟨v, rfl, hv, hc2, hd2⟩
  have hb2 : Below w.heap.size w w2 := Below.drawn (hb1.alloc hb1.size _) hd2 (by have := hb1.size; simp; omega) hg
  clear hb1 hd2 hc1
  go_wp2_with fail
  refine (anyM g _ hc2).mono ?_
  rintro e w3 ⟨x, rfl, hx, hc3, hd3⟩
  have hb3 : Below w.heap.size w w3 := Below.drawn hb2 hd3 hb2.size hg
  clear hb2 hd3 hc2
  go_wp2_with fail
  refine (anyM g _ hc3).mono ?_
  rintro e w4 ⟨y, rfl, hy, hc4, hd4⟩
  have hb4 : Below w.heap.size w w4 := Below.drawn hb3 hd4 hb3.size hg
  clear hb3 hd4 hc3 hc4
  go_wp2_with fail
  refine bodyPost_ret (v := .tuple #[.int .i64 v, .int .i64 x, .int .i64 y]) (by simp [results, Try.results5, go_sem]) rfl ⟨_, _, _, rfl, hx, hy, hb4⟩

set_option maxHeartbeats 4000000 in
theorem arithall_walk (a0 : Option Addr) (len0 cap0 : Nat) (z0 : List Int) (w : World) (w0 : RowIn .u8 w a0 len0 cap0 z0) :
    Calls Try.prog 3 #[.slice a0 len0 cap0] w fun e w' => e = .returned (.bool true) ∧ Below w.heap.size w w' := by
  obtain ⟨hr, hlc, hm⟩ := w0.row
  unfold maxLen at hm
  clear w0
  go_enter Try.func3, Try.ntmps3
  go_wp2_with fail
  refine (drawArithM a0 len0 cap0 _ _ hr (by omega)).mono ?_
  rintro e w1 ⟨o, a, b, rfl, ha, hb, hb1⟩
  clear hr
  have H0 := arithM 0 a b
  have H1 := arithM 1 (arV 0 (wr a) (wr b)) b
  have H2 := arithM 2 a b
  have H3 := arithM 2 b a
  have H4 := arithM 4 a b
  have H5 := arithM 4 b a
  have H6 := arithM 5 a b
  have H7 := arithM 3 a b
  have H8 := arithM 6 a b
  have e1 : arV 1 (wr (arV 0 (wr a) (wr b))) (wr b) = wr a := by
    simp only [arV, Int.reduceEq, if_true, if_false]
    exact wr_back a b
  have e3 : arV 2 (wr b) (wr a) = arV 2 (wr a) (wr b) := by
    simp only [arV, Int.reduceEq, if_true, if_false]
    rw [Int.mul_comm]
  have e4 : arV 4 (wr a) (wr b) + arV 4 (wr b) (wr a) + arV 5 (wr a) (wr b) = 1 := by
    simp only [arV, Int.reduceEq, if_true, if_false]
    exact three _ _
  have b4 : 0 ≤ arV 4 (wr a) (wr b) ∧ arV 4 (wr a) (wr b) ≤ 1 := by simp only [arV, Int.reduceEq, if_true, if_false]; exact tr_in _
  have b5 : 0 ≤ arV 4 (wr b) (wr a) ∧ arV 4 (wr b) (wr a) ≤ 1 := by simp only [arV, Int.reduceEq, if_true, if_false]; exact tr_in _
  have b6 : 0 ≤ arV 5 (wr a) (wr b) ∧ arV 5 (wr a) (wr b) ≤ 1 := by simp only [arV, Int.reduceEq, if_true, if_false]; exact tr_in _
  have e7 : wr (arV 3 (wr a) (wr b)) = arV 3 (wr a) (wr b) := by
    simp only [arV, Int.reduceEq, if_true, if_false]
    split
    · simp [wr_eq]
    · exact wr_wr _
  have t7 : arT 3 (wr b) = if wr b = 0 then 6 else 0 := by simp only [arT, Int.reduceEq, if_true, if_false]
  rw [e1] at H1
  rw [e3] at H3
  have HD := arWrapM (arV 3 (wr a) (wr b))
  rw [e7] at HD
  rw [show arT 0 (wr b) = 0 from rfl] at H0
  rw [show arT 1 (wr b) = 0 from rfl] at H1
  rw [show arT 2 (wr b) = 0 from rfl] at H2
  rw [show arT 2 (wr a) = 0 from rfl] at H3
  rw [show arT 4 (wr b) = 0 from rfl] at H4
  rw [show arT 4 (wr a) = 0 from rfl] at H5
  rw [show arT 5 (wr b) = 0 from rfl] at H6
  rw [show arT 6 (wr b) = 4 from rfl] at H8
  rw [t7] at H7
  generalize arV 0 (wr a) (wr b) = s at *
  generalize arV 2 (wr a) (wr b) = p at *
  generalize arV 4 (wr a) (wr b) = l1 at *
  generalize arV 4 (wr b) (wr a) = l2 at *
  generalize arV 5 (wr a) (wr b) = l3 at *
  generalize arV 3 (wr a) (wr b) = d at *
  generalize arV 6 (wr a) (wr b) = z at *
  have HA := arWrapM a
  have HB := arWrapM b
  generalize wr a = A at *
  clear e1 e3 e7 t7
  have Hb : Hid _ := hb1
  clear hb1
  by_cases hz : wr b = 0
  · rw [if_pos hz] at H7
    rw [hz] at HB
    clear hz
    go_wp2_with fail
    refine (H0 _).mono ?_
    rintro e w1 ⟨rfl, rfl⟩
    go_wp2_with fail
    refine (H1 _).mono ?_
    rintro e w1 ⟨rfl, rfl⟩
    go_wp2_with fail
    refine (H2 _).mono ?_
    rintro e w1 ⟨rfl, rfl⟩
    go_wp2_with fail
    refine (H3 _).mono ?_
    rintro e w1 ⟨rfl, rfl⟩
    go_wp2_with fail
    refine (H4 _).mono ?_
    rintro e w1 ⟨rfl, rfl⟩
    go_wp2_with fail
    refine (H5 _).mono ?_
    rintro e w1 ⟨rfl, rfl⟩
    go_wp2_with fail
    refine (H6 _).mono ?_
    rintro e w1 ⟨rfl, rfl⟩
    go_wp2_with fail
    refine (H7 _).mono ?_
    rintro e w1 ⟨rfl, rfl⟩
    go_wp2_with fail
    refine (H8 _).mono ?_
    rintro e w1 ⟨rfl, rfl⟩
    go_wp2_with fail
    refine (HA _).mono ?_
    rintro e w1 ⟨rfl, rfl⟩
    go_wp2_with fail
    refine (HB _).mono ?_
    rintro e w1 ⟨rfl, rfl⟩
    go_wp2_with fail
    refine (HD _).mono ?_
    rintro e w1 ⟨rfl, rfl⟩
    go_wp2_with fail
    go_ret
    exact ⟨rfl, Hb.out⟩
  · rw [if_neg hz] at H7
    generalize wr b = B at *
    go_wp2_with fail
    refine (H0 _).mono ?_
    rintro e w1 ⟨rfl, rfl⟩
    go_wp2_with fail
    refine (H1 _).mono ?_
    rintro e w1 ⟨rfl, rfl⟩
    go_wp2_with fail
    refine (H2 _).mono ?_
    rintro e w1 ⟨rfl, rfl⟩
    go_wp2_with fail
    refine (H3 _).mono ?_
    rintro e w1 ⟨rfl, rfl⟩
    go_wp2_with fail
    refine (H4 _).mono ?_
    rintro e w1 ⟨rfl, rfl⟩
    go_wp2_with fail
    refine (H5 _).mono ?_
    rintro e w1 ⟨rfl, rfl⟩
    go_wp2_with fail
    refine (H6 _).mono ?_
    rintro e w1 ⟨rfl, rfl⟩
    go_wp2_with fail
    refine (H7 _).mono ?_
    rintro e w1 ⟨rfl, rfl⟩
    go_wp2_with fail
    refine (H8 _).mono ?_
    rintro e w1 ⟨rfl, rfl⟩
    go_wp2_with fail
    refine (HA _).mono ?_
    rintro e w1 ⟨rfl, rfl⟩
    go_wp2_with fail
    refine (HB _).mono ?_
    rintro e w1 ⟨rfl, rfl⟩
    go_wp2_with fail
    refine (HD _).mono ?_
    rintro e w1 ⟨rfl, rfl⟩
    go_wp2_with fail
    go_ret
    exact ⟨by simp [go_sem, hz], Hb.out⟩
end Go.Proofs.Ytjbmgmiehmofoaa
