/- number: what a row of one to five bytes is worth. -/
import Derived.Test.YtnhebknckgffoaaRowOf
namespace Go.Proofs.Ytnhebknckgffoaa
open Go.RowKit
set_option linter.unusedVariables false

set_option maxRecDepth 100000 in
set_option maxHeartbeats 2000000 in
theorem number1 (x0 x1 x2 x3 x4 : Int) (w : World) (g0 : 0 ≤ x0) (l0 : x0 ≤ 255) :
    Calls Try.prog 62 #[.agg #[.int .u8 x0, .int .u8 x1, .int .u8 x2, .int .u8 x3, .int .u8 x4, .int .i64 1]] w fun e w' => e = .returned (.int .i64 (x0 % 128)) ∧ Below w.heap.size w w' := by
  go_enter Try.func62, Try.ntmps62
  go_wp2
  refine wp_loop_rounds 2 ?_
  rw [rounds_succ]
  go_wp2
  rw [rounds_succ]
  go_wp2
  go_ret
  exact ⟨ret_int (by omega), (Below.refl _ _).alloc (Nat.le_refl _) _⟩

set_option maxRecDepth 100000 in
set_option maxHeartbeats 2000000 in
theorem number2 (x0 x1 x2 x3 x4 : Int) (w : World) (g0 : 0 ≤ x0) (l0 : x0 ≤ 255) (g1 : 0 ≤ x1) (l1 : x1 ≤ 255) :
    Calls Try.prog 62 #[.agg #[.int .u8 x0, .int .u8 x1, .int .u8 x2, .int .u8 x3, .int .u8 x4, .int .i64 2]] w fun e w' => e = .returned (.int .i64 (x0 % 128 + x1 % 128 * 128)) ∧ Below w.heap.size w w' := by
  go_enter Try.func62, Try.ntmps62
  go_wp2
  refine wp_loop_rounds 3 ?_
  rw [rounds_succ]
  go_wp2
  rw [rounds_succ]
  go_wp2
  rw [rounds_succ]
  go_wp2
  go_ret
  exact ⟨ret_int (by omega), (Below.refl _ _).alloc (Nat.le_refl _) _⟩

set_option maxRecDepth 100000 in
set_option maxHeartbeats 2000000 in
theorem number3 (x0 x1 x2 x3 x4 : Int) (w : World) (g0 : 0 ≤ x0) (l0 : x0 ≤ 255) (g1 : 0 ≤ x1) (l1 : x1 ≤ 255) (g2 : 0 ≤ x2) (l2 : x2 ≤ 255) :
    Calls Try.prog 62 #[.agg #[.int .u8 x0, .int .u8 x1, .int .u8 x2, .int .u8 x3, .int .u8 x4, .int .i64 3]] w fun e w' => e = .returned (.int .i64 (x0 % 128 + x1 % 128 * 128 + x2 % 128 * 16384)) ∧ Below w.heap.size w w' := by
  go_enter Try.func62, Try.ntmps62
  go_wp2
  refine wp_loop_rounds 4 ?_
  rw [rounds_succ]
  go_wp2
  rw [rounds_succ]
  go_wp2
  rw [rounds_succ]
  go_wp2
  rw [rounds_succ]
  go_wp2
  go_ret
  exact ⟨ret_int (by omega), (Below.refl _ _).alloc (Nat.le_refl _) _⟩

set_option maxRecDepth 100000 in
set_option maxHeartbeats 2000000 in
theorem number4 (x0 x1 x2 x3 x4 : Int) (w : World) (g0 : 0 ≤ x0) (l0 : x0 ≤ 255) (g1 : 0 ≤ x1) (l1 : x1 ≤ 255) (g2 : 0 ≤ x2) (l2 : x2 ≤ 255) (g3 : 0 ≤ x3) (l3 : x3 ≤ 255) :
    Calls Try.prog 62 #[.agg #[.int .u8 x0, .int .u8 x1, .int .u8 x2, .int .u8 x3, .int .u8 x4, .int .i64 4]] w fun e w' => e = .returned (.int .i64 (x0 % 128 + x1 % 128 * 128 + x2 % 128 * 16384 + x3 % 128 * 2097152)) ∧ Below w.heap.size w w' := by
  go_enter Try.func62, Try.ntmps62
  go_wp2
  refine wp_loop_rounds 5 ?_
  rw [rounds_succ]
  go_wp2
  rw [rounds_succ]
  go_wp2
  rw [rounds_succ]
  go_wp2
  rw [rounds_succ]
  go_wp2
  rw [rounds_succ]
  go_wp2
  go_ret
  exact ⟨ret_int (by omega), (Below.refl _ _).alloc (Nat.le_refl _) _⟩

set_option maxRecDepth 100000 in
set_option maxHeartbeats 2000000 in
theorem number5 (x0 x1 x2 x3 x4 : Int) (w : World) (g0 : 0 ≤ x0) (l0 : x0 ≤ 255) (g1 : 0 ≤ x1) (l1 : x1 ≤ 255) (g2 : 0 ≤ x2) (l2 : x2 ≤ 255) (g3 : 0 ≤ x3) (l3 : x3 ≤ 255) (g4 : 0 ≤ x4) (l4 : x4 ≤ 255) :
    Calls Try.prog 62 #[.agg #[.int .u8 x0, .int .u8 x1, .int .u8 x2, .int .u8 x3, .int .u8 x4, .int .i64 5]] w fun e w' => e = .returned (.int .i64 (x0 % 128 + x1 % 128 * 128 + x2 % 128 * 16384 + x3 % 128 * 2097152 + x4 % 128 * 268435456)) ∧ Below w.heap.size w w' := by
  go_enter Try.func62, Try.ntmps62
  go_wp2
  refine wp_loop_rounds 6 ?_
  rw [rounds_succ]
  go_wp2
  rw [rounds_succ]
  go_wp2
  rw [rounds_succ]
  go_wp2
  rw [rounds_succ]
  go_wp2
  rw [rounds_succ]
  go_wp2
  rw [rounds_succ]
  go_wp2
  go_ret
  exact ⟨ret_int (by omega), (Below.refl _ _).alloc (Nat.le_refl _) _⟩
end Go.Proofs.Ytnhebknckgffoaa
