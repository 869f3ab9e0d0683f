/- rowAt, a theorem a way: a whole row of one to five bytes; cut; too long. -/
import Derived.Test.YtnhebknckgffoaaRowOf
namespace Go.Proofs.Ytnhebknckgffoaa
open Go.RowKit
set_option linter.unusedVariables false

set_option maxRecDepth 100000 in
set_option maxHeartbeats 2000000 in
theorem rowAt_w0 (b off n c t : Nat) (x0 : Int) (w : World) (hn : n ≤ 1073741824) (hnc : n ≤ c) (hcm : c ≤ maxLen) (ht : t + 0 < n) (c0 : w.cell? ⟨b, off + t, none⟩ = some (.int .u8 x0)) (g0 : 0 ≤ x0) (l0 : x0 < 128) :
    Calls Try.prog 61 #[.slice (some ⟨b, off, none⟩) n c, .int .i64 t] w fun e w' => e = .returned (.tuple #[.agg #[.int .u8 x0, .int .u8 0, .int .u8 0, .int .u8 0, .int .u8 0, .int .i64 1], .int .i64 0]) ∧ Below w.heap.size w w' := by
  have hbl : b < w.heap.size := World.block_lt_of_cell? w _ c0
  have hct : ¬ c = t := by omega
  unfold maxLen at hcm
  go_enter Try.func61, Try.ntmps61
  go_wp2
  refine wp_loop_rounds 1 ?_
  rw [rounds_succ]
  go_wp2
  exact bodyPost_ret (v := .tuple #[.agg #[.int .u8 x0, .int .u8 0, .int .u8 0, .int .u8 0, .int .u8 0, .int .i64 1], .int .i64 0]) (by simp [results, Try.results61, go_sem]) rfl ⟨rfl, ((Below.refl _ _).alloc (Nat.le_refl _) _).alloc (by simp) _⟩

set_option maxRecDepth 100000 in
set_option maxHeartbeats 2000000 in
theorem rowAt_w1 (b off n c t : Nat) (x0 x1 : Int) (w : World) (hn : n ≤ 1073741824) (hnc : n ≤ c) (hcm : c ≤ maxLen) (ht : t + 1 < n) (c0 : w.cell? ⟨b, off + t, none⟩ = some (.int .u8 x0)) (c1 : w.cell? ⟨b, off + t + 1, none⟩ = some (.int .u8 x1)) (g0 : 128 ≤ x0) (l0 : x0 ≤ 255) (g1 : 0 ≤ x1) (l1 : x1 < 128) :
    Calls Try.prog 61 #[.slice (some ⟨b, off, none⟩) n c, .int .i64 t] w fun e w' => e = .returned (.tuple #[.agg #[.int .u8 x0, .int .u8 x1, .int .u8 0, .int .u8 0, .int .u8 0, .int .i64 2], .int .i64 0]) ∧ Below w.heap.size w w' := by
  have hbl : b < w.heap.size := World.block_lt_of_cell? w _ c0
  have hct : ¬ c = t := by omega
  unfold maxLen at hcm
  go_enter Try.func61, Try.ntmps61
  go_wp2
  refine wp_loop_rounds 2 ?_
  rw [rounds_succ]
  go_wp2
  rw [rounds_succ]
  go_wp2
  exact bodyPost_ret (v := .tuple #[.agg #[.int .u8 x0, .int .u8 x1, .int .u8 0, .int .u8 0, .int .u8 0, .int .i64 2], .int .i64 0]) (by simp [results, Try.results61, go_sem]) rfl ⟨rfl, ((Below.refl _ _).alloc (Nat.le_refl _) _).alloc (by simp) _⟩

set_option maxRecDepth 100000 in
set_option maxHeartbeats 2000000 in
theorem rowAt_w2 (b off n c t : Nat) (x0 x1 x2 : Int) (w : World) (hn : n ≤ 1073741824) (hnc : n ≤ c) (hcm : c ≤ maxLen) (ht : t + 2 < n) (c0 : w.cell? ⟨b, off + t, none⟩ = some (.int .u8 x0)) (c1 : w.cell? ⟨b, off + t + 1, none⟩ = some (.int .u8 x1)) (c2 : w.cell? ⟨b, off + t + 2, none⟩ = some (.int .u8 x2)) (g0 : 128 ≤ x0) (l0 : x0 ≤ 255) (g1 : 128 ≤ x1) (l1 : x1 ≤ 255) (g2 : 0 ≤ x2) (l2 : x2 < 128) :
    Calls Try.prog 61 #[.slice (some ⟨b, off, none⟩) n c, .int .i64 t] w fun e w' => e = .returned (.tuple #[.agg #[.int .u8 x0, .int .u8 x1, .int .u8 x2, .int .u8 0, .int .u8 0, .int .i64 3], .int .i64 0]) ∧ Below w.heap.size w w' := by
  have hbl : b < w.heap.size := World.block_lt_of_cell? w _ c0
  have hct : ¬ c = t := by omega
  unfold maxLen at hcm
  go_enter Try.func61, Try.ntmps61
  go_wp2
  refine wp_loop_rounds 3 ?_
  rw [rounds_succ]
  go_wp2
  rw [rounds_succ]
  go_wp2
  rw [rounds_succ]
  go_wp2
  exact bodyPost_ret (v := .tuple #[.agg #[.int .u8 x0, .int .u8 x1, .int .u8 x2, .int .u8 0, .int .u8 0, .int .i64 3], .int .i64 0]) (by simp [results, Try.results61, go_sem]) rfl ⟨rfl, ((Below.refl _ _).alloc (Nat.le_refl _) _).alloc (by simp) _⟩

set_option maxRecDepth 100000 in
set_option maxHeartbeats 2000000 in
theorem rowAt_w3 (b off n c t : Nat) (x0 x1 x2 x3 : Int) (w : World) (hn : n ≤ 1073741824) (hnc : n ≤ c) (hcm : c ≤ maxLen) (ht : t + 3 < n) (c0 : w.cell? ⟨b, off + t, none⟩ = some (.int .u8 x0)) (c1 : w.cell? ⟨b, off + t + 1, none⟩ = some (.int .u8 x1)) (c2 : w.cell? ⟨b, off + t + 2, none⟩ = some (.int .u8 x2)) (c3 : w.cell? ⟨b, off + t + 3, none⟩ = some (.int .u8 x3)) (g0 : 128 ≤ x0) (l0 : x0 ≤ 255) (g1 : 128 ≤ x1) (l1 : x1 ≤ 255) (g2 : 128 ≤ x2) (l2 : x2 ≤ 255) (g3 : 0 ≤ x3) (l3 : x3 < 128) :
    Calls Try.prog 61 #[.slice (some ⟨b, off, none⟩) n c, .int .i64 t] w fun e w' => e = .returned (.tuple #[.agg #[.int .u8 x0, .int .u8 x1, .int .u8 x2, .int .u8 x3, .int .u8 0, .int .i64 4], .int .i64 0]) ∧ Below w.heap.size w w' := by
  have hbl : b < w.heap.size := World.block_lt_of_cell? w _ c0
  have hct : ¬ c = t := by omega
  unfold maxLen at hcm
  go_enter Try.func61, Try.ntmps61
  go_wp2
  refine wp_loop_rounds 4 ?_
  rw [rounds_succ]
  go_wp2
  rw [rounds_succ]
  go_wp2
  rw [rounds_succ]
  go_wp2
  rw [rounds_succ]
  go_wp2
  exact bodyPost_ret (v := .tuple #[.agg #[.int .u8 x0, .int .u8 x1, .int .u8 x2, .int .u8 x3, .int .u8 0, .int .i64 4], .int .i64 0]) (by simp [results, Try.results61, go_sem]) rfl ⟨rfl, ((Below.refl _ _).alloc (Nat.le_refl _) _).alloc (by simp) _⟩

set_option maxRecDepth 100000 in
set_option maxHeartbeats 2000000 in
theorem rowAt_w4 (b off n c t : Nat) (x0 x1 x2 x3 x4 : Int) (w : World) (hn : n ≤ 1073741824) (hnc : n ≤ c) (hcm : c ≤ maxLen) (ht : t + 4 < n) (c0 : w.cell? ⟨b, off + t, none⟩ = some (.int .u8 x0)) (c1 : w.cell? ⟨b, off + t + 1, none⟩ = some (.int .u8 x1)) (c2 : w.cell? ⟨b, off + t + 2, none⟩ = some (.int .u8 x2)) (c3 : w.cell? ⟨b, off + t + 3, none⟩ = some (.int .u8 x3)) (c4 : w.cell? ⟨b, off + t + 4, none⟩ = some (.int .u8 x4)) (g0 : 128 ≤ x0) (l0 : x0 ≤ 255) (g1 : 128 ≤ x1) (l1 : x1 ≤ 255) (g2 : 128 ≤ x2) (l2 : x2 ≤ 255) (g3 : 128 ≤ x3) (l3 : x3 ≤ 255) (g4 : 0 ≤ x4) (l4 : x4 < 128) :
    Calls Try.prog 61 #[.slice (some ⟨b, off, none⟩) n c, .int .i64 t] w fun e w' => e = .returned (.tuple #[.agg #[.int .u8 x0, .int .u8 x1, .int .u8 x2, .int .u8 x3, .int .u8 x4, .int .i64 5], .int .i64 0]) ∧ Below w.heap.size w w' := by
  have hbl : b < w.heap.size := World.block_lt_of_cell? w _ c0
  have hct : ¬ c = t := by omega
  unfold maxLen at hcm
  go_enter Try.func61, Try.ntmps61
  go_wp2
  refine wp_loop_rounds 5 ?_
  rw [rounds_succ]
  go_wp2
  rw [rounds_succ]
  go_wp2
  rw [rounds_succ]
  go_wp2
  rw [rounds_succ]
  go_wp2
  rw [rounds_succ]
  go_wp2
  exact bodyPost_ret (v := .tuple #[.agg #[.int .u8 x0, .int .u8 x1, .int .u8 x2, .int .u8 x3, .int .u8 x4, .int .i64 5], .int .i64 0]) (by simp [results, Try.results61, go_sem]) rfl ⟨rfl, ((Below.refl _ _).alloc (Nat.le_refl _) _).alloc (by simp) _⟩

set_option maxRecDepth 100000 in
set_option maxHeartbeats 2000000 in
theorem rowAt_c1 (b off n c t : Nat) (x0 : Int) (w : World) (hn : n ≤ 1073741824) (hnc : n ≤ c) (hcm : c ≤ maxLen) (ht : t + 1 ≤ n) (ht2 : n ≤ t + 1) (c0 : w.cell? ⟨b, off + t, none⟩ = some (.int .u8 x0)) (g0 : 128 ≤ x0) (l0 : x0 ≤ 255) :
    Calls Try.prog 61 #[.slice (some ⟨b, off, none⟩) n c, .int .i64 t] w fun e w' => e = .returned (.tuple #[.agg #[.int .u8 x0, .int .u8 0, .int .u8 0, .int .u8 0, .int .u8 0, .int .i64 1], .int .i64 1]) ∧ Below w.heap.size w w' := by
  have hbl : b < w.heap.size := World.block_lt_of_cell? w _ c0
  have hct : ¬ c = t := by omega
  unfold maxLen at hcm
  go_enter Try.func61, Try.ntmps61
  go_wp2
  refine wp_loop_rounds 2 ?_
  rw [rounds_succ]
  go_wp2
  rw [rounds_succ]
  go_wp2
  exact bodyPost_ret (v := .tuple #[.agg #[.int .u8 x0, .int .u8 0, .int .u8 0, .int .u8 0, .int .u8 0, .int .i64 1], .int .i64 1]) (by simp [results, Try.results61, go_sem]) rfl ⟨rfl, ((Below.refl _ _).alloc (Nat.le_refl _) _).alloc (by simp) _⟩

set_option maxRecDepth 100000 in
set_option maxHeartbeats 2000000 in
theorem rowAt_c2 (b off n c t : Nat) (x0 x1 : Int) (w : World) (hn : n ≤ 1073741824) (hnc : n ≤ c) (hcm : c ≤ maxLen) (ht : t + 2 ≤ n) (ht2 : n ≤ t + 2) (c0 : w.cell? ⟨b, off + t, none⟩ = some (.int .u8 x0)) (c1 : w.cell? ⟨b, off + t + 1, none⟩ = some (.int .u8 x1)) (g0 : 128 ≤ x0) (l0 : x0 ≤ 255) (g1 : 128 ≤ x1) (l1 : x1 ≤ 255) :
    Calls Try.prog 61 #[.slice (some ⟨b, off, none⟩) n c, .int .i64 t] w fun e w' => e = .returned (.tuple #[.agg #[.int .u8 x0, .int .u8 x1, .int .u8 0, .int .u8 0, .int .u8 0, .int .i64 2], .int .i64 1]) ∧ Below w.heap.size w w' := by
  have hbl : b < w.heap.size := World.block_lt_of_cell? w _ c0
  have hct : ¬ c = t := by omega
  unfold maxLen at hcm
  go_enter Try.func61, Try.ntmps61
  go_wp2
  refine wp_loop_rounds 3 ?_
  rw [rounds_succ]
  go_wp2
  rw [rounds_succ]
  go_wp2
  rw [rounds_succ]
  go_wp2
  exact bodyPost_ret (v := .tuple #[.agg #[.int .u8 x0, .int .u8 x1, .int .u8 0, .int .u8 0, .int .u8 0, .int .i64 2], .int .i64 1]) (by simp [results, Try.results61, go_sem]) rfl ⟨rfl, ((Below.refl _ _).alloc (Nat.le_refl _) _).alloc (by simp) _⟩

set_option maxRecDepth 100000 in
set_option maxHeartbeats 2000000 in
theorem rowAt_c3 (b off n c t : Nat) (x0 x1 x2 : Int) (w : World) (hn : n ≤ 1073741824) (hnc : n ≤ c) (hcm : c ≤ maxLen) (ht : t + 3 ≤ n) (ht2 : n ≤ t + 3) (c0 : w.cell? ⟨b, off + t, none⟩ = some (.int .u8 x0)) (c1 : w.cell? ⟨b, off + t + 1, none⟩ = some (.int .u8 x1)) (c2 : w.cell? ⟨b, off + t + 2, none⟩ = some (.int .u8 x2)) (g0 : 128 ≤ x0) (l0 : x0 ≤ 255) (g1 : 128 ≤ x1) (l1 : x1 ≤ 255) (g2 : 128 ≤ x2) (l2 : x2 ≤ 255) :
    Calls Try.prog 61 #[.slice (some ⟨b, off, none⟩) n c, .int .i64 t] w fun e w' => e = .returned (.tuple #[.agg #[.int .u8 x0, .int .u8 x1, .int .u8 x2, .int .u8 0, .int .u8 0, .int .i64 3], .int .i64 1]) ∧ Below w.heap.size w w' := by
  have hbl : b < w.heap.size := World.block_lt_of_cell? w _ c0
  have hct : ¬ c = t := by omega
  unfold maxLen at hcm
  go_enter Try.func61, Try.ntmps61
  go_wp2
  refine wp_loop_rounds 4 ?_
  rw [rounds_succ]
  go_wp2
  rw [rounds_succ]
  go_wp2
  rw [rounds_succ]
  go_wp2
  rw [rounds_succ]
  go_wp2
  exact bodyPost_ret (v := .tuple #[.agg #[.int .u8 x0, .int .u8 x1, .int .u8 x2, .int .u8 0, .int .u8 0, .int .i64 3], .int .i64 1]) (by simp [results, Try.results61, go_sem]) rfl ⟨rfl, ((Below.refl _ _).alloc (Nat.le_refl _) _).alloc (by simp) _⟩

set_option maxRecDepth 100000 in
set_option maxHeartbeats 2000000 in
theorem rowAt_c4 (b off n c t : Nat) (x0 x1 x2 x3 : Int) (w : World) (hn : n ≤ 1073741824) (hnc : n ≤ c) (hcm : c ≤ maxLen) (ht : t + 4 ≤ n) (ht2 : n ≤ t + 4) (c0 : w.cell? ⟨b, off + t, none⟩ = some (.int .u8 x0)) (c1 : w.cell? ⟨b, off + t + 1, none⟩ = some (.int .u8 x1)) (c2 : w.cell? ⟨b, off + t + 2, none⟩ = some (.int .u8 x2)) (c3 : w.cell? ⟨b, off + t + 3, none⟩ = some (.int .u8 x3)) (g0 : 128 ≤ x0) (l0 : x0 ≤ 255) (g1 : 128 ≤ x1) (l1 : x1 ≤ 255) (g2 : 128 ≤ x2) (l2 : x2 ≤ 255) (g3 : 128 ≤ x3) (l3 : x3 ≤ 255) :
    Calls Try.prog 61 #[.slice (some ⟨b, off, none⟩) n c, .int .i64 t] w fun e w' => e = .returned (.tuple #[.agg #[.int .u8 x0, .int .u8 x1, .int .u8 x2, .int .u8 x3, .int .u8 0, .int .i64 4], .int .i64 1]) ∧ Below w.heap.size w w' := by
  have hbl : b < w.heap.size := World.block_lt_of_cell? w _ c0
  have hct : ¬ c = t := by omega
  unfold maxLen at hcm
  go_enter Try.func61, Try.ntmps61
  go_wp2
  refine wp_loop_rounds 5 ?_
  rw [rounds_succ]
  go_wp2
  rw [rounds_succ]
  go_wp2
  rw [rounds_succ]
  go_wp2
  rw [rounds_succ]
  go_wp2
  rw [rounds_succ]
  go_wp2
  exact bodyPost_ret (v := .tuple #[.agg #[.int .u8 x0, .int .u8 x1, .int .u8 x2, .int .u8 x3, .int .u8 0, .int .i64 4], .int .i64 1]) (by simp [results, Try.results61, go_sem]) rfl ⟨rfl, ((Below.refl _ _).alloc (Nat.le_refl _) _).alloc (by simp) _⟩

set_option maxRecDepth 100000 in
set_option maxHeartbeats 2000000 in
theorem rowAt_c5 (b off n c t : Nat) (x0 x1 x2 x3 x4 : Int) (w : World) (hn : n ≤ 1073741824) (hnc : n ≤ c) (hcm : c ≤ maxLen) (ht : t + 5 ≤ n) (ht2 : n ≤ t + 5) (c0 : w.cell? ⟨b, off + t, none⟩ = some (.int .u8 x0)) (c1 : w.cell? ⟨b, off + t + 1, none⟩ = some (.int .u8 x1)) (c2 : w.cell? ⟨b, off + t + 2, none⟩ = some (.int .u8 x2)) (c3 : w.cell? ⟨b, off + t + 3, none⟩ = some (.int .u8 x3)) (c4 : w.cell? ⟨b, off + t + 4, none⟩ = some (.int .u8 x4)) (g0 : 128 ≤ x0) (l0 : x0 ≤ 255) (g1 : 128 ≤ x1) (l1 : x1 ≤ 255) (g2 : 128 ≤ x2) (l2 : x2 ≤ 255) (g3 : 128 ≤ x3) (l3 : x3 ≤ 255) (g4 : 128 ≤ x4) (l4 : x4 ≤ 255) :
    Calls Try.prog 61 #[.slice (some ⟨b, off, none⟩) n c, .int .i64 t] w fun e w' => e = .returned (.tuple #[.agg #[.int .u8 x0, .int .u8 x1, .int .u8 x2, .int .u8 x3, .int .u8 x4, .int .i64 5], .int .i64 1]) ∧ Below w.heap.size w w' := by
  have hbl : b < w.heap.size := World.block_lt_of_cell? w _ c0
  have hct : ¬ c = t := by omega
  unfold maxLen at hcm
  go_enter Try.func61, Try.ntmps61
  go_wp2
  refine wp_loop_rounds 6 ?_
  rw [rounds_succ]
  go_wp2
  rw [rounds_succ]
  go_wp2
  rw [rounds_succ]
  go_wp2
  rw [rounds_succ]
  go_wp2
  rw [rounds_succ]
  go_wp2
  rw [rounds_succ]
  go_wp2
  exact bodyPost_ret (v := .tuple #[.agg #[.int .u8 x0, .int .u8 x1, .int .u8 x2, .int .u8 x3, .int .u8 x4, .int .i64 5], .int .i64 1]) (by simp [results, Try.results61, go_sem]) rfl ⟨rfl, ((Below.refl _ _).alloc (Nat.le_refl _) _).alloc (by simp) _⟩

set_option maxRecDepth 100000 in
set_option maxHeartbeats 2000000 in
theorem rowAt_l (b off n c t : Nat) (x0 x1 x2 x3 x4 : Int) (w : World) (hn : n ≤ 1073741824) (hnc : n ≤ c) (hcm : c ≤ maxLen) (ht : t + 5 < n) (c0 : w.cell? ⟨b, off + t, none⟩ = some (.int .u8 x0)) (c1 : w.cell? ⟨b, off + t + 1, none⟩ = some (.int .u8 x1)) (c2 : w.cell? ⟨b, off + t + 2, none⟩ = some (.int .u8 x2)) (c3 : w.cell? ⟨b, off + t + 3, none⟩ = some (.int .u8 x3)) (c4 : w.cell? ⟨b, off + t + 4, none⟩ = some (.int .u8 x4)) (g0 : 128 ≤ x0) (l0 : x0 ≤ 255) (g1 : 128 ≤ x1) (l1 : x1 ≤ 255) (g2 : 128 ≤ x2) (l2 : x2 ≤ 255) (g3 : 128 ≤ x3) (l3 : x3 ≤ 255) (g4 : 128 ≤ x4) (l4 : x4 ≤ 255) (y : Int) (cy : w.cell? ⟨b, off + t + 5, none⟩ = some (.int .u8 y)) :
    Calls Try.prog 61 #[.slice (some ⟨b, off, none⟩) n c, .int .i64 t] w fun e w' => e = .returned (.tuple #[.agg #[.int .u8 x0, .int .u8 x1, .int .u8 x2, .int .u8 x3, .int .u8 x4, .int .i64 5], .int .i64 2]) ∧ Below w.heap.size w w' := by
  have hbl : b < w.heap.size := World.block_lt_of_cell? w _ c0
  have hct : ¬ c = t := by omega
  unfold maxLen at hcm
  go_enter Try.func61, Try.ntmps61
  go_wp2
  refine wp_loop_rounds 6 ?_
  rw [rounds_succ]
  go_wp2
  rw [rounds_succ]
  go_wp2
  rw [rounds_succ]
  go_wp2
  rw [rounds_succ]
  go_wp2
  rw [rounds_succ]
  go_wp2
  rw [rounds_succ]
  go_wp2
  exact bodyPost_ret (v := .tuple #[.agg #[.int .u8 x0, .int .u8 x1, .int .u8 x2, .int .u8 x3, .int .u8 x4, .int .i64 5], .int .i64 2]) (by simp [results, Try.results61, go_sem]) rfl ⟨rfl, ((Below.refl _ _).alloc (Nat.le_refl _) _).alloc (by simp) _⟩
end Go.Proofs.Ytnhebknckgffoaa
