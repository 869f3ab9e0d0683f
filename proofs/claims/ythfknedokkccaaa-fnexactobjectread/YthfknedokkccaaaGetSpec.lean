/- spec.GetNum, a theorem a way: a whole number of one to five bytes; a needless nought; too great; not whole. -/
import Derived.Test.YthfknedokkccaaaRowOf
namespace Go.Proofs.Ythfknedokkccaaa
open Go.RowKit

theorem ret_two {a b c d : Int} (h : a = c) (k : b = d) : Ending.returned (.tuple #[.int .i64 a, .int .i64 b]) = .returned (.tuple #[.int .i64 c, .int .i64 d]) := by rw [h, k]
set_option linter.unusedVariables false

set_option maxRecDepth 100000 in
set_option maxHeartbeats 2000000 in
theorem specGet_w00 (b off n c t : Nat) (w : World) (hn : n ≤ 1073741824) (ht : t + 0 < n) (c0 : w.cell? ⟨b, off + t, none⟩ = some (.int .u8 0)) :
    Calls Try.prog 27 #[.slice (some ⟨b, off, none⟩) n c, .int .i64 t] w fun e w' => e = .returned (.tuple #[.int .i64 0, .int .i64 ((t : Int) + 1)]) ∧ w' = w := by
  go_enter Try.func27, Try.ntmps27
  go_wp2
  refine wp_loop_rounds 1 ?_
  rw [rounds_succ]
  go_wp2
  go_ret2
  exact ⟨ret_two rfl rfl, rfl⟩

set_option maxRecDepth 100000 in
set_option maxHeartbeats 2000000 in
theorem specGet_w0 (b off n c t : Nat) (x0 : Int) (w : World) (hn : n ≤ 1073741824) (ht : t + 0 < n) (c0 : w.cell? ⟨b, off + t, none⟩ = some (.int .u8 x0)) (g0 : 0 ≤ x0) (l0 : x0 < 128) (hv : x0 % 128 ≤ 2147483647) :
    Calls Try.prog 27 #[.slice (some ⟨b, off, none⟩) n c, .int .i64 t] w fun e w' => e = .returned (.tuple #[.int .i64 (x0 % 128), .int .i64 ((t : Int) + 1)]) ∧ w' = w := by
  by_cases hz : x0 = 0
  · subst hz
    exact specGet_w00 b off n c t w hn ht c0
  replace hz : (x0 == 0) = false := by simpa using hz
  go_enter Try.func27, Try.ntmps27
  go_wp2
  refine wp_loop_rounds 1 ?_
  rw [rounds_succ]
  go_wp2
  go_ret2
  exact ⟨ret_two rfl (by omega), rfl⟩

set_option maxRecDepth 100000 in
set_option maxHeartbeats 2000000 in
theorem specGet_w1 (b off n c t : Nat) (x0 x1 : Int) (w : World) (hn : n ≤ 1073741824) (ht : t + 1 < n) (c0 : w.cell? ⟨b, off + t, none⟩ = some (.int .u8 x0)) (c1 : w.cell? ⟨b, off + (t + 1), none⟩ = some (.int .u8 x1)) (g0 : 128 ≤ x0) (l0 : x0 ≤ 255) (g1 : 0 ≤ x1) (l1 : x1 < 128) (hz : (x1 == 0) = false) (hv : x0 % 128 + x1 % 128 * 128 ≤ 2147483647) :
    Calls Try.prog 27 #[.slice (some ⟨b, off, none⟩) n c, .int .i64 t] w fun e w' => e = .returned (.tuple #[.int .i64 (x0 % 128 + x1 % 128 * 128), .int .i64 ((t : Int) + 2)]) ∧ w' = w := by
  go_enter Try.func27, Try.ntmps27
  go_wp2
  refine wp_loop_rounds 2 ?_
  rw [rounds_succ]
  go_wp2
  rw [rounds_succ]
  go_wp2
  go_ret2
  exact ⟨ret_two rfl (by omega), rfl⟩

set_option maxRecDepth 100000 in
set_option maxHeartbeats 2000000 in
theorem specGet_z1 (b off n c t : Nat) (x0 x1 : Int) (w : World) (hn : n ≤ 1073741824) (ht : t + 1 < n) (c0 : w.cell? ⟨b, off + t, none⟩ = some (.int .u8 x0)) (c1 : w.cell? ⟨b, off + (t + 1), none⟩ = some (.int .u8 x1)) (g0 : 128 ≤ x0) (l0 : x0 ≤ 255) (hz : x1 = 0) :
    Calls Try.prog 27 #[.slice (some ⟨b, off, none⟩) n c, .int .i64 t] w fun e w' => e = .returned (.tuple #[.int .i64 0, .int .i64 (-1)]) ∧ w' = w := by
  subst hz
  go_enter Try.func27, Try.ntmps27
  go_wp2
  refine wp_loop_rounds 2 ?_
  rw [rounds_succ]
  go_wp2
  rw [rounds_succ]
  go_wp2
  go_ret2
  exact ⟨rfl, rfl⟩

set_option maxRecDepth 100000 in
set_option maxHeartbeats 2000000 in
theorem specGet_w2 (b off n c t : Nat) (x0 x1 x2 : Int) (w : World) (hn : n ≤ 1073741824) (ht : t + 2 < n) (c0 : w.cell? ⟨b, off + t, none⟩ = some (.int .u8 x0)) (c1 : w.cell? ⟨b, off + (t + 1), none⟩ = some (.int .u8 x1)) (c2 : w.cell? ⟨b, off + (t + 2), none⟩ = some (.int .u8 x2)) (g0 : 128 ≤ x0) (l0 : x0 ≤ 255) (g1 : 128 ≤ x1) (l1 : x1 ≤ 255) (g2 : 0 ≤ x2) (l2 : x2 < 128) (hz : (x2 == 0) = false) (hv : x0 % 128 + x1 % 128 * 128 + x2 % 128 * 16384 ≤ 2147483647) :
    Calls Try.prog 27 #[.slice (some ⟨b, off, none⟩) n c, .int .i64 t] w fun e w' => e = .returned (.tuple #[.int .i64 (x0 % 128 + x1 % 128 * 128 + x2 % 128 * 16384), .int .i64 ((t : Int) + 3)]) ∧ w' = w := by
  go_enter Try.func27, Try.ntmps27
  go_wp2
  refine wp_loop_rounds 3 ?_
  rw [rounds_succ]
  go_wp2
  rw [rounds_succ]
  go_wp2
  rw [rounds_succ]
  go_wp2
  go_ret2
  exact ⟨ret_two rfl (by omega), rfl⟩

set_option maxRecDepth 100000 in
set_option maxHeartbeats 2000000 in
theorem specGet_z2 (b off n c t : Nat) (x0 x1 x2 : Int) (w : World) (hn : n ≤ 1073741824) (ht : t + 2 < n) (c0 : w.cell? ⟨b, off + t, none⟩ = some (.int .u8 x0)) (c1 : w.cell? ⟨b, off + (t + 1), none⟩ = some (.int .u8 x1)) (c2 : w.cell? ⟨b, off + (t + 2), none⟩ = some (.int .u8 x2)) (g0 : 128 ≤ x0) (l0 : x0 ≤ 255) (g1 : 128 ≤ x1) (l1 : x1 ≤ 255) (hz : x2 = 0) :
    Calls Try.prog 27 #[.slice (some ⟨b, off, none⟩) n c, .int .i64 t] w fun e w' => e = .returned (.tuple #[.int .i64 0, .int .i64 (-1)]) ∧ w' = w := by
  subst hz
  go_enter Try.func27, Try.ntmps27
  go_wp2
  refine wp_loop_rounds 3 ?_
  rw [rounds_succ]
  go_wp2
  rw [rounds_succ]
  go_wp2
  rw [rounds_succ]
  go_wp2
  go_ret2
  exact ⟨rfl, rfl⟩

set_option maxRecDepth 100000 in
set_option maxHeartbeats 2000000 in
theorem specGet_w3 (b off n c t : Nat) (x0 x1 x2 x3 : Int) (w : World) (hn : n ≤ 1073741824) (ht : t + 3 < n) (c0 : w.cell? ⟨b, off + t, none⟩ = some (.int .u8 x0)) (c1 : w.cell? ⟨b, off + (t + 1), none⟩ = some (.int .u8 x1)) (c2 : w.cell? ⟨b, off + (t + 2), none⟩ = some (.int .u8 x2)) (c3 : w.cell? ⟨b, off + (t + 3), none⟩ = some (.int .u8 x3)) (g0 : 128 ≤ x0) (l0 : x0 ≤ 255) (g1 : 128 ≤ x1) (l1 : x1 ≤ 255) (g2 : 128 ≤ x2) (l2 : x2 ≤ 255) (g3 : 0 ≤ x3) (l3 : x3 < 128) (hz : (x3 == 0) = false) (hv : x0 % 128 + x1 % 128 * 128 + x2 % 128 * 16384 + x3 % 128 * 2097152 ≤ 2147483647) :
    Calls Try.prog 27 #[.slice (some ⟨b, off, none⟩) n c, .int .i64 t] w fun e w' => e = .returned (.tuple #[.int .i64 (x0 % 128 + x1 % 128 * 128 + x2 % 128 * 16384 + x3 % 128 * 2097152), .int .i64 ((t : Int) + 4)]) ∧ w' = w := by
  go_enter Try.func27, Try.ntmps27
  go_wp2
  refine wp_loop_rounds 4 ?_
  rw [rounds_succ]
  go_wp2
  rw [rounds_succ]
  go_wp2
  rw [rounds_succ]
  go_wp2
  rw [rounds_succ]
  go_wp2
  go_ret2
  exact ⟨ret_two rfl (by omega), rfl⟩

set_option maxRecDepth 100000 in
set_option maxHeartbeats 2000000 in
theorem specGet_z3 (b off n c t : Nat) (x0 x1 x2 x3 : Int) (w : World) (hn : n ≤ 1073741824) (ht : t + 3 < n) (c0 : w.cell? ⟨b, off + t, none⟩ = some (.int .u8 x0)) (c1 : w.cell? ⟨b, off + (t + 1), none⟩ = some (.int .u8 x1)) (c2 : w.cell? ⟨b, off + (t + 2), none⟩ = some (.int .u8 x2)) (c3 : w.cell? ⟨b, off + (t + 3), none⟩ = some (.int .u8 x3)) (g0 : 128 ≤ x0) (l0 : x0 ≤ 255) (g1 : 128 ≤ x1) (l1 : x1 ≤ 255) (g2 : 128 ≤ x2) (l2 : x2 ≤ 255) (hz : x3 = 0) :
    Calls Try.prog 27 #[.slice (some ⟨b, off, none⟩) n c, .int .i64 t] w fun e w' => e = .returned (.tuple #[.int .i64 0, .int .i64 (-1)]) ∧ w' = w := by
  subst hz
  go_enter Try.func27, Try.ntmps27
  go_wp2
  refine wp_loop_rounds 4 ?_
  rw [rounds_succ]
  go_wp2
  rw [rounds_succ]
  go_wp2
  rw [rounds_succ]
  go_wp2
  rw [rounds_succ]
  go_wp2
  go_ret2
  exact ⟨rfl, rfl⟩

set_option maxRecDepth 100000 in
set_option maxHeartbeats 2000000 in
theorem specGet_w4 (b off n c t : Nat) (x0 x1 x2 x3 x4 : Int) (w : World) (hn : n ≤ 1073741824) (ht : t + 4 < n) (c0 : w.cell? ⟨b, off + t, none⟩ = some (.int .u8 x0)) (c1 : w.cell? ⟨b, off + (t + 1), none⟩ = some (.int .u8 x1)) (c2 : w.cell? ⟨b, off + (t + 2), none⟩ = some (.int .u8 x2)) (c3 : w.cell? ⟨b, off + (t + 3), none⟩ = some (.int .u8 x3)) (c4 : w.cell? ⟨b, off + (t + 4), none⟩ = some (.int .u8 x4)) (g0 : 128 ≤ x0) (l0 : x0 ≤ 255) (g1 : 128 ≤ x1) (l1 : x1 ≤ 255) (g2 : 128 ≤ x2) (l2 : x2 ≤ 255) (g3 : 128 ≤ x3) (l3 : x3 ≤ 255) (g4 : 0 ≤ x4) (l4 : x4 < 128) (hz : (x4 == 0) = false) (hv : x0 % 128 + x1 % 128 * 128 + x2 % 128 * 16384 + x3 % 128 * 2097152 + x4 % 128 * 268435456 ≤ 2147483647) :
    Calls Try.prog 27 #[.slice (some ⟨b, off, none⟩) n c, .int .i64 t] w fun e w' => e = .returned (.tuple #[.int .i64 (x0 % 128 + x1 % 128 * 128 + x2 % 128 * 16384 + x3 % 128 * 2097152 + x4 % 128 * 268435456), .int .i64 ((t : Int) + 5)]) ∧ w' = w := by
  go_enter Try.func27, Try.ntmps27
  go_wp2
  refine wp_loop_rounds 5 ?_
  rw [rounds_succ]
  go_wp2
  rw [rounds_succ]
  go_wp2
  rw [rounds_succ]
  go_wp2
  rw [rounds_succ]
  go_wp2
  rw [rounds_succ]
  go_wp2
  go_ret2
  exact ⟨ret_two rfl (by omega), rfl⟩

set_option maxRecDepth 100000 in
set_option maxHeartbeats 2000000 in
theorem specGet_z4 (b off n c t : Nat) (x0 x1 x2 x3 x4 : Int) (w : World) (hn : n ≤ 1073741824) (ht : t + 4 < n) (c0 : w.cell? ⟨b, off + t, none⟩ = some (.int .u8 x0)) (c1 : w.cell? ⟨b, off + (t + 1), none⟩ = some (.int .u8 x1)) (c2 : w.cell? ⟨b, off + (t + 2), none⟩ = some (.int .u8 x2)) (c3 : w.cell? ⟨b, off + (t + 3), none⟩ = some (.int .u8 x3)) (c4 : w.cell? ⟨b, off + (t + 4), none⟩ = some (.int .u8 x4)) (g0 : 128 ≤ x0) (l0 : x0 ≤ 255) (g1 : 128 ≤ x1) (l1 : x1 ≤ 255) (g2 : 128 ≤ x2) (l2 : x2 ≤ 255) (g3 : 128 ≤ x3) (l3 : x3 ≤ 255) (hz : x4 = 0) :
    Calls Try.prog 27 #[.slice (some ⟨b, off, none⟩) n c, .int .i64 t] w fun e w' => e = .returned (.tuple #[.int .i64 0, .int .i64 (-1)]) ∧ w' = w := by
  subst hz
  go_enter Try.func27, Try.ntmps27
  go_wp2
  refine wp_loop_rounds 5 ?_
  rw [rounds_succ]
  go_wp2
  rw [rounds_succ]
  go_wp2
  rw [rounds_succ]
  go_wp2
  rw [rounds_succ]
  go_wp2
  rw [rounds_succ]
  go_wp2
  go_ret2
  exact ⟨rfl, rfl⟩

set_option maxRecDepth 100000 in
set_option maxHeartbeats 2000000 in
theorem specGet_b4 (b off n c t : Nat) (x0 x1 x2 x3 x4 : Int) (w : World) (hn : n ≤ 1073741824) (ht : t + 4 < n) (c0 : w.cell? ⟨b, off + t, none⟩ = some (.int .u8 x0)) (c1 : w.cell? ⟨b, off + (t + 1), none⟩ = some (.int .u8 x1)) (c2 : w.cell? ⟨b, off + (t + 2), none⟩ = some (.int .u8 x2)) (c3 : w.cell? ⟨b, off + (t + 3), none⟩ = some (.int .u8 x3)) (c4 : w.cell? ⟨b, off + (t + 4), none⟩ = some (.int .u8 x4)) (g0 : 128 ≤ x0) (l0 : x0 ≤ 255) (g1 : 128 ≤ x1) (l1 : x1 ≤ 255) (g2 : 128 ≤ x2) (l2 : x2 ≤ 255) (g3 : 128 ≤ x3) (l3 : x3 ≤ 255) (g4 : 0 ≤ x4) (l4 : x4 < 128) (hz : (x4 == 0) = false) (hv : 2147483647 < x0 % 128 + x1 % 128 * 128 + x2 % 128 * 16384 + x3 % 128 * 2097152 + x4 % 128 * 268435456) :
    Calls Try.prog 27 #[.slice (some ⟨b, off, none⟩) n c, .int .i64 t] w fun e w' => e = .returned (.tuple #[.int .i64 0, .int .i64 (-1)]) ∧ w' = w := by
  go_enter Try.func27, Try.ntmps27
  go_wp2
  refine wp_loop_rounds 5 ?_
  rw [rounds_succ]
  go_wp2
  rw [rounds_succ]
  go_wp2
  rw [rounds_succ]
  go_wp2
  rw [rounds_succ]
  go_wp2
  rw [rounds_succ]
  go_wp2
  go_ret2
  exact ⟨rfl, rfl⟩

set_option maxRecDepth 100000 in
set_option maxHeartbeats 2000000 in
theorem specGet_c0 (ao : Option Addr) (n c t : Nat) (w : World) (hn : n ≤ 1073741824) (ht : t + 0 ≤ n) (ht2 : n ≤ t + 0) :
    Calls Try.prog 27 #[.slice ao n c, .int .i64 t] w fun e w' => e = .returned (.tuple #[.int .i64 0, .int .i64 (-1)]) ∧ w' = w := by
  go_enter Try.func27, Try.ntmps27
  go_wp2
  refine wp_loop_rounds 1 ?_
  rw [rounds_succ]
  go_wp2
  go_ret2
  exact ⟨rfl, rfl⟩

set_option maxRecDepth 100000 in
set_option maxHeartbeats 2000000 in
theorem specGet_c1 (b off n c t : Nat) (x0 : Int) (w : World) (hn : n ≤ 1073741824) (ht : t + 1 ≤ n) (ht2 : n ≤ t + 1) (c0 : w.cell? ⟨b, off + t, none⟩ = some (.int .u8 x0)) (g0 : 128 ≤ x0) (l0 : x0 ≤ 255) :
    Calls Try.prog 27 #[.slice (some ⟨b, off, none⟩) n c, .int .i64 t] w fun e w' => e = .returned (.tuple #[.int .i64 0, .int .i64 (-1)]) ∧ w' = w := by
  go_enter Try.func27, Try.ntmps27
  go_wp2
  refine wp_loop_rounds 2 ?_
  rw [rounds_succ]
  go_wp2
  rw [rounds_succ]
  go_wp2
  go_ret2
  exact ⟨rfl, rfl⟩

set_option maxRecDepth 100000 in
set_option maxHeartbeats 2000000 in
theorem specGet_c2 (b off n c t : Nat) (x0 x1 : Int) (w : World) (hn : n ≤ 1073741824) (ht : t + 2 ≤ n) (ht2 : n ≤ t + 2) (c0 : w.cell? ⟨b, off + t, none⟩ = some (.int .u8 x0)) (c1 : w.cell? ⟨b, off + (t + 1), none⟩ = some (.int .u8 x1)) (g0 : 128 ≤ x0) (l0 : x0 ≤ 255) (g1 : 128 ≤ x1) (l1 : x1 ≤ 255) :
    Calls Try.prog 27 #[.slice (some ⟨b, off, none⟩) n c, .int .i64 t] w fun e w' => e = .returned (.tuple #[.int .i64 0, .int .i64 (-1)]) ∧ w' = w := by
  go_enter Try.func27, Try.ntmps27
  go_wp2
  refine wp_loop_rounds 3 ?_
  rw [rounds_succ]
  go_wp2
  rw [rounds_succ]
  go_wp2
  rw [rounds_succ]
  go_wp2
  go_ret2
  exact ⟨rfl, rfl⟩

set_option maxRecDepth 100000 in
set_option maxHeartbeats 2000000 in
theorem specGet_c3 (b off n c t : Nat) (x0 x1 x2 : Int) (w : World) (hn : n ≤ 1073741824) (ht : t + 3 ≤ n) (ht2 : n ≤ t + 3) (c0 : w.cell? ⟨b, off + t, none⟩ = some (.int .u8 x0)) (c1 : w.cell? ⟨b, off + (t + 1), none⟩ = some (.int .u8 x1)) (c2 : w.cell? ⟨b, off + (t + 2), none⟩ = some (.int .u8 x2)) (g0 : 128 ≤ x0) (l0 : x0 ≤ 255) (g1 : 128 ≤ x1) (l1 : x1 ≤ 255) (g2 : 128 ≤ x2) (l2 : x2 ≤ 255) :
    Calls Try.prog 27 #[.slice (some ⟨b, off, none⟩) n c, .int .i64 t] w fun e w' => e = .returned (.tuple #[.int .i64 0, .int .i64 (-1)]) ∧ w' = w := by
  go_enter Try.func27, Try.ntmps27
  go_wp2
  refine wp_loop_rounds 4 ?_
  rw [rounds_succ]
  go_wp2
  rw [rounds_succ]
  go_wp2
  rw [rounds_succ]
  go_wp2
  rw [rounds_succ]
  go_wp2
  go_ret2
  exact ⟨rfl, rfl⟩

set_option maxRecDepth 100000 in
set_option maxHeartbeats 2000000 in
theorem specGet_c4 (b off n c t : Nat) (x0 x1 x2 x3 : Int) (w : World) (hn : n ≤ 1073741824) (ht : t + 4 ≤ n) (ht2 : n ≤ t + 4) (c0 : w.cell? ⟨b, off + t, none⟩ = some (.int .u8 x0)) (c1 : w.cell? ⟨b, off + (t + 1), none⟩ = some (.int .u8 x1)) (c2 : w.cell? ⟨b, off + (t + 2), none⟩ = some (.int .u8 x2)) (c3 : w.cell? ⟨b, off + (t + 3), none⟩ = some (.int .u8 x3)) (g0 : 128 ≤ x0) (l0 : x0 ≤ 255) (g1 : 128 ≤ x1) (l1 : x1 ≤ 255) (g2 : 128 ≤ x2) (l2 : x2 ≤ 255) (g3 : 128 ≤ x3) (l3 : x3 ≤ 255) :
    Calls Try.prog 27 #[.slice (some ⟨b, off, none⟩) n c, .int .i64 t] w fun e w' => e = .returned (.tuple #[.int .i64 0, .int .i64 (-1)]) ∧ w' = w := by
  go_enter Try.func27, Try.ntmps27
  go_wp2
  refine wp_loop_rounds 5 ?_
  rw [rounds_succ]
  go_wp2
  rw [rounds_succ]
  go_wp2
  rw [rounds_succ]
  go_wp2
  rw [rounds_succ]
  go_wp2
  rw [rounds_succ]
  go_wp2
  go_ret2
  exact ⟨rfl, rfl⟩

set_option maxRecDepth 100000 in
set_option maxHeartbeats 2000000 in
theorem specGet_l (b off n c t : Nat) (x0 x1 x2 x3 x4 : Int) (w : World) (hn : n ≤ 1073741824) (ht : t + 4 < n) (c0 : w.cell? ⟨b, off + t, none⟩ = some (.int .u8 x0)) (c1 : w.cell? ⟨b, off + (t + 1), none⟩ = some (.int .u8 x1)) (c2 : w.cell? ⟨b, off + (t + 2), none⟩ = some (.int .u8 x2)) (c3 : w.cell? ⟨b, off + (t + 3), none⟩ = some (.int .u8 x3)) (c4 : w.cell? ⟨b, off + (t + 4), none⟩ = some (.int .u8 x4)) (g0 : 128 ≤ x0) (l0 : x0 ≤ 255) (g1 : 128 ≤ x1) (l1 : x1 ≤ 255) (g2 : 128 ≤ x2) (l2 : x2 ≤ 255) (g3 : 128 ≤ x3) (l3 : x3 ≤ 255) (g4 : 128 ≤ x4) (l4 : x4 ≤ 255) :
    Calls Try.prog 27 #[.slice (some ⟨b, off, none⟩) n c, .int .i64 t] w fun e w' => e = .returned (.tuple #[.int .i64 0, .int .i64 (-1)]) ∧ w' = w := by
  go_enter Try.func27, Try.ntmps27
  go_wp2
  refine wp_loop_rounds 6 ?_
  rw [rounds_succ]
  go_wp2
  rw [rounds_succ]
  go_wp2
  rw [rounds_succ]
  go_wp2
  rw [rounds_succ]
  go_wp2
  rw [rounds_succ]
  go_wp2
  rw [rounds_succ]
  go_wp2
  go_ret2
  exact ⟨rfl, rfl⟩
end Go.Proofs.Ythfknedokkccaaa
