/- rowOf: what a number becomes, as an array of five bytes and their count. -/
import Derived.Test.YtnhebknckgffoaaJoined
import Derived.Test.YtnhebknckgffoaaNum
namespace Go.Proofs.Ytnhebknckgffoaa
open Go.RowKit

/-- The bytes d as a row of five and their count. -/
def rowV (d : List Int) : Value := .agg #[.int .u8 (d[0]?.getD 0), .int .u8 (d[1]?.getD 0), .int .u8 (d[2]?.getD 0), .int .u8 (d[3]?.getD 0), .int .u8 (d[4]?.getD 0), .int .i64 d.length]

set_option maxRecDepth 100000 in
set_option maxHeartbeats 1000000 in
theorem rowOf1 (m : Nat) (w : World) (h : m < 128) :
    Calls Try.prog 36 #[.int .i64 m] w fun e w' => e = .returned (.agg #[.int .u8 ((m : Int)), .int .u8 (0), .int .u8 (0), .int .u8 (0), .int .u8 (0), .int .i64 1]) ∧ Below w.heap.size w w' := by
  go_enter Try.func36, Try.ntmps36
  go_wp2
  refine wp_loop_rounds 1 ?_
  rw [rounds_succ]
  go_wp2
  exact bodyPost_ret (v := .agg #[.int .u8 ((m : Int)), .int .u8 (0), .int .u8 (0), .int .u8 (0), .int .u8 (0), .int .i64 1]) (by simp [results, Try.results36, go_sem]) rfl ⟨rfl, ((Below.refl _ _).alloc (Nat.le_refl _) _).alloc (by simp) _⟩

set_option maxRecDepth 100000 in
set_option maxHeartbeats 1000000 in
theorem rowOf2 (m : Nat) (w : World) (h : m < 16384) (h2 : 128 ≤ m) :
    Calls Try.prog 36 #[.int .i64 m] w fun e w' => e = .returned (.agg #[.int .u8 ((m : Int) % 128 + 128), .int .u8 ((m : Int) / 128), .int .u8 (0), .int .u8 (0), .int .u8 (0), .int .i64 2]) ∧ Below w.heap.size w w' := by
  go_enter Try.func36, Try.ntmps36
  go_wp2
  refine wp_loop_rounds 2 ?_
  rw [rounds_succ]
  go_wp2
  rw [rounds_succ]
  go_wp2
  exact bodyPost_ret (v := .agg #[.int .u8 ((m : Int) % 128 + 128), .int .u8 ((m : Int) / 128), .int .u8 (0), .int .u8 (0), .int .u8 (0), .int .i64 2]) (by simp [results, Try.results36, go_sem]) rfl ⟨rfl, ((Below.refl _ _).alloc (Nat.le_refl _) _).alloc (by simp) _⟩

set_option maxRecDepth 100000 in
set_option maxHeartbeats 1000000 in
theorem rowOf3 (m : Nat) (w : World) (h : m < 2097152) (h2 : 16384 ≤ m) :
    Calls Try.prog 36 #[.int .i64 m] w fun e w' => e = .returned (.agg #[.int .u8 ((m : Int) % 128 + 128), .int .u8 ((m : Int) / 128 % 128 + 128), .int .u8 ((m : Int) / 128 / 128), .int .u8 (0), .int .u8 (0), .int .i64 3]) ∧ Below w.heap.size w w' := by
  go_enter Try.func36, Try.ntmps36
  go_wp2
  refine wp_loop_rounds 3 ?_
  rw [rounds_succ]
  go_wp2
  rw [rounds_succ]
  go_wp2
  rw [rounds_succ]
  go_wp2
  exact bodyPost_ret (v := .agg #[.int .u8 ((m : Int) % 128 + 128), .int .u8 ((m : Int) / 128 % 128 + 128), .int .u8 ((m : Int) / 128 / 128), .int .u8 (0), .int .u8 (0), .int .i64 3]) (by simp [results, Try.results36, go_sem]) rfl ⟨rfl, ((Below.refl _ _).alloc (Nat.le_refl _) _).alloc (by simp) _⟩

set_option maxRecDepth 100000 in
set_option maxHeartbeats 1000000 in
theorem rowOf4 (m : Nat) (w : World) (h : m < 268435456) (h2 : 2097152 ≤ m) :
    Calls Try.prog 36 #[.int .i64 m] w fun e w' => e = .returned (.agg #[.int .u8 ((m : Int) % 128 + 128), .int .u8 ((m : Int) / 128 % 128 + 128), .int .u8 ((m : Int) / 128 / 128 % 128 + 128), .int .u8 ((m : Int) / 128 / 128 / 128), .int .u8 (0), .int .i64 4]) ∧ Below w.heap.size w w' := by
  go_enter Try.func36, Try.ntmps36
  go_wp2
  refine wp_loop_rounds 4 ?_
  rw [rounds_succ]
  go_wp2
  rw [rounds_succ]
  go_wp2
  rw [rounds_succ]
  go_wp2
  rw [rounds_succ]
  go_wp2
  exact bodyPost_ret (v := .agg #[.int .u8 ((m : Int) % 128 + 128), .int .u8 ((m : Int) / 128 % 128 + 128), .int .u8 ((m : Int) / 128 / 128 % 128 + 128), .int .u8 ((m : Int) / 128 / 128 / 128), .int .u8 (0), .int .i64 4]) (by simp [results, Try.results36, go_sem]) rfl ⟨rfl, ((Below.refl _ _).alloc (Nat.le_refl _) _).alloc (by simp) _⟩

set_option maxRecDepth 100000 in
set_option maxHeartbeats 1000000 in
theorem rowOf5 (m : Nat) (w : World) (h : m < 2147483648) (h2 : 268435456 ≤ m) :
    Calls Try.prog 36 #[.int .i64 m] w fun e w' => e = .returned (.agg #[.int .u8 ((m : Int) % 128 + 128), .int .u8 ((m : Int) / 128 % 128 + 128), .int .u8 ((m : Int) / 128 / 128 % 128 + 128), .int .u8 ((m : Int) / 128 / 128 / 128 % 128 + 128), .int .u8 ((m : Int) / 128 / 128 / 128 / 128), .int .i64 5]) ∧ Below w.heap.size w w' := by
  go_enter Try.func36, Try.ntmps36
  go_wp2
  refine wp_loop_rounds 5 ?_
  rw [rounds_succ]
  go_wp2
  rw [rounds_succ]
  go_wp2
  rw [rounds_succ]
  go_wp2
  rw [rounds_succ]
  go_wp2
  rw [rounds_succ]
  go_wp2
  exact bodyPost_ret (v := .agg #[.int .u8 ((m : Int) % 128 + 128), .int .u8 ((m : Int) / 128 % 128 + 128), .int .u8 ((m : Int) / 128 / 128 % 128 + 128), .int .u8 ((m : Int) / 128 / 128 / 128 % 128 + 128), .int .u8 ((m : Int) / 128 / 128 / 128 / 128), .int .i64 5]) (by simp [results, Try.results36, go_sem]) rfl ⟨rfl, ((Below.refl _ _).alloc (Nat.le_refl _) _).alloc (by simp) _⟩

theorem rowOfB (m : Nat) (w : World) (h : m ≤ 2147483647) :
    Calls Try.prog 36 #[.int .i64 m] w fun e w' => e = .returned (rowV (num m)) ∧ Below w.heap.size w w' := by
  by_cases h1 : m < 128
  · refine (rowOf1 m w h1).mono ?_
    rintro e w' ⟨rfl, hb⟩
    refine ⟨?_, hb⟩
    rw [num_lt (n := m) (by omega)]
    simp [rowV]
  by_cases h2 : m < 16384
  · refine (rowOf2 m w h2 (by omega)).mono ?_
    rintro e w' ⟨rfl, hb⟩
    refine ⟨?_, hb⟩
    rw [num_ge (n := m) (by omega), num_lt (n := m / 128) (by omega)]
    simp [rowV]
  by_cases h3 : m < 2097152
  · refine (rowOf3 m w h3 (by omega)).mono ?_
    rintro e w' ⟨rfl, hb⟩
    refine ⟨?_, hb⟩
    rw [num_ge (n := m) (by omega), num_ge (n := m / 128) (by omega), num_lt (n := m / 128 / 128) (by omega)]
    simp [rowV]
  by_cases h4 : m < 268435456
  · refine (rowOf4 m w h4 (by omega)).mono ?_
    rintro e w' ⟨rfl, hb⟩
    refine ⟨?_, hb⟩
    rw [num_ge (n := m) (by omega), num_ge (n := m / 128) (by omega), num_ge (n := m / 128 / 128) (by omega), num_lt (n := m / 128 / 128 / 128) (by omega)]
    simp [rowV]
  · refine (rowOf5 m w (by omega) (by omega)).mono ?_
    rintro e w' ⟨rfl, hb⟩
    refine ⟨?_, hb⟩
    rw [num_ge (n := m) (by omega), num_ge (n := m / 128) (by omega), num_ge (n := m / 128 / 128) (by omega), num_ge (n := m / 128 / 128 / 128) (by omega), num_lt (n := m / 128 / 128 / 128 / 128) (by omega)]
    simp [rowV]
end Go.Proofs.Ytnhebknckgffoaa
