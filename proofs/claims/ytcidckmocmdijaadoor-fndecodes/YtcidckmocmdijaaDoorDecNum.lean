/- Four bytes as a number of 32 bits: what is built and its model. -/
import Derived.Test.YtcidckmocmdijaaDoorIns
import Derived.Test.YtcidckmocmdijaaDoorBase
namespace Go.Proofs.YtcidckmocmdijaaDoor
open Go.RowKit
set_option linter.unusedVariables false
set_option linter.unusedSimpArgs false
set_option maxRecDepth 100000

theorem or_u32 (p X Y : Nat) (h : X < 2 ^ p) (hy : Y * 2 ^ p + X < 4294967296) : bits .or .u32 (X : Int) ((Y * 2 ^ p : Nat) : Int) = ((Y * 2 ^ p + X : Nat) : Int) := by
  have hX : ((X : Int) % ((2 ^ 32 : Nat) : Int)).toNat = X := by omega
  have hY : (((Y * 2 ^ p : Nat) : Int) % ((2 ^ 32 : Nat) : Int)).toNat = Y * 2 ^ p := by
    generalize Y * 2 ^ p = Z at *
    omega
  have key : (BitVec.ofInt 32 (X : Int) ||| BitVec.ofInt 32 ((Y * 2 ^ p : Nat) : Int)).toNat = Y * 2 ^ p + X := by
    rw [BitVec.toNat_or, BitVec.toNat_ofInt, BitVec.toNat_ofInt, hX, hY, Nat.or_comm, Nat.mul_comm, ← Nat.two_pow_add_eq_or_of_lt h]
  show IntKind.u32.wrap ((BitVec.ofInt 32 (X : Int) ||| BitVec.ofInt 32 ((Y * 2 ^ p : Nat) : Int)).toNat : Nat) = _
  rw [key, IntKind.wrap_u32]
  generalize Y * 2 ^ p = Z at *
  omega

def num4 (x0 x1 x2 x3 : Int) : Int := wr (x0 + 256 * x1 + 65536 * x2 + 16777216 * x3)

theorem or4 (x0 x1 x2 x3 : Int) (h0 : 0 ≤ x0 ∧ x0 ≤ 255) (h1 : 0 ≤ x1 ∧ x1 ≤ 255) (h2 : 0 ≤ x2 ∧ x2 ≤ 255) (h3 : 0 ≤ x3 ∧ x3 ≤ 255) :
    wrap64 (wrap32 (bits .or .u32 (bits .or .u32 (bits .or .u32 (x0 % 4294967296) (x1 % 4294967296 * 256 % 4294967296)) (x2 % 4294967296 * 65536 % 4294967296)) (x3 % 4294967296 * 16777216 % 4294967296))) = num4 x0 x1 x2 x3 := by
  obtain ⟨a, rfl⟩ := Int.eq_ofNat_of_zero_le h0.1
  obtain ⟨b, rfl⟩ := Int.eq_ofNat_of_zero_le h1.1
  obtain ⟨c, rfl⟩ := Int.eq_ofNat_of_zero_le h2.1
  obtain ⟨d, rfl⟩ := Int.eq_ofNat_of_zero_le h3.1
  have e0 : (a : Int) % 4294967296 = a := by omega
  have e1 : (b : Int) % 4294967296 * 256 % 4294967296 = ((b * 2 ^ 8 : Nat) : Int) := by omega
  have e2 : (c : Int) % 4294967296 * 65536 % 4294967296 = ((c * 2 ^ 16 : Nat) : Int) := by omega
  have e3 : (d : Int) % 4294967296 * 16777216 % 4294967296 = ((d * 2 ^ 24 : Nat) : Int) := by omega
  rw [e0, e1, e2, e3, or_u32 8 a b (by omega) (by omega), or_u32 16 _ c (by omega) (by omega), or_u32 24 _ d (by omega) (by omega)]
  unfold num4 wr
  congr 2
  omega

set_option maxHeartbeats 2000000 in
theorem read32M (b o c : Nat) (x0 x1 x2 x3 : Int) (w : World) (f0 : w.cell? ⟨b, o, none⟩ = some (.int .u8 x0)) (f1 : w.cell? ⟨b, o + 1, none⟩ = some (.int .u8 x1)) (f2 : w.cell? ⟨b, o + 2, none⟩ = some (.int .u8 x2)) (f3 : w.cell? ⟨b, o + 3, none⟩ = some (.int .u8 x3))
    (h0 : 0 ≤ x0 ∧ x0 ≤ 255) (h1 : 0 ≤ x1 ∧ x1 ≤ 255) (h2 : 0 ≤ x2 ∧ x2 ≤ 255) (h3 : 0 ≤ x3 ∧ x3 ≤ 255) :
    Calls Tryd.prog 27 #[.slice (some ⟨b, o, none⟩) 4 c] w fun e w' => e = .returned (.int .i64 (num4 x0 x1 x2 x3)) ∧ w' = w := by
  obtain ⟨h0, h0'⟩ := h0
  obtain ⟨h1, h1'⟩ := h1
  obtain ⟨h2, h2'⟩ := h2
  obtain ⟨h3, h3'⟩ := h3
  go_enter Tryd.func27, Tryd.ntmps27
  go_wp2_with fail
  refine wp_loop_rounds 5 ?_
  rw [rounds_succ]
  go_wp2_with fail
  rw [rounds_succ]
  go_wp2_with fail
  rw [rounds_succ]
  go_wp2_with fail
  rw [rounds_succ]
  go_wp2_with fail
  rw [rounds_succ]
  go_wp2_with fail
  refine (implWrapM _ _).mono ?_
  rintro e w1 ⟨rfl, rfl⟩
  go_wp2_with fail
  go_ret
  exact ⟨ri (by unfold num4; congr 1; omega), rfl⟩
end Go.Proofs.YtcidckmocmdijaaDoor
