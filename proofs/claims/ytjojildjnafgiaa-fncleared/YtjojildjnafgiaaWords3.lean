/- Words as values: within, narrowed, shifted: the program and the specification tell the same. -/
import Derived.Test.YtjojildjnafgiaaWords2
namespace Go.Proofs.Ytjojildjnafgiaa
open Go.RowKit
set_option linter.unusedVariables false
set_option linter.unusedSimpArgs false

theorem way_iff (xt : Bool) (xn xl xh xa xp xs : Int) : (okB xt xn xl xh xa xp xs && (xt && (xs == 0))) = wayB xt xn xl xh xa xp xs := by
  cases xt
  · simp [wayB]
  · by_cases h : xs = 0
    · subst h; simp [okB, isIntB, entryB, wayB, inR]
    · have : (xs == 0) = false := by simpa using h
      simp [wayB, this]

theorem way_ok (xt : Bool) (xn xl xh xa xp xs : Int) (h : okB xt xn xl xh xa xp xs = true) (hd : (xt && (xs == 0)) = true) : wayB xt xn xl xh xa xp xs = true := by rw [← way_iff, h, hd]; rfl

theorem way_parts (xt : Bool) (xn xl xh xa xp xs : Int) (h : wayB xt xn xl xh xa xp xs = true) : xt = true ∧ xn = 0 ∧ xs = 0 ∧ (0 ≤ xp ∧ xp ≤ 31) ∧ 0 ≤ xl ∧ xl ≤ xh ∧ xh ≤ 4000 ∧ -4000 ≤ xa ∧ xa ≤ 8000 := by
  simpa [wayB, inR, and_assoc] using h

theorem back64 (x : BitVec 64) : BitVec.ofInt 64 (IntKind.i64.wrap ((x.toNat : Nat) : Int)) = x := by
  apply BitVec.eq_of_toNat_eq
  have := x.isLt
  rw [BitVec.toNat_ofInt, IntKind.wrap_i64]
  omega

theorem andnot_xor (a b : Int) : bits .andNot .i64 a (bits .xor .i64 (-1) b) = bits .and .i64 a b := by
  show IntKind.i64.wrap (((BitVec.ofInt 64 a &&& ~~~ BitVec.ofInt 64 (IntKind.i64.wrap (((BitVec.ofInt 64 (-1) ^^^ BitVec.ofInt 64 b).toNat : Nat) : Int))).toNat : Nat) : Int) = IntKind.i64.wrap (((BitVec.ofInt 64 a &&& BitVec.ofInt 64 b).toNat : Nat) : Int)
  have h1 : BitVec.ofInt 64 (-1) = BitVec.allOnes 64 := by decide
  rw [back64, h1, BitVec.allOnes_xor, BitVec.not_not]

def withinB (xt : Bool) (xn xl xh xa xp xs : Int) (yt : Bool) (yn yl yh ya yp ys : Int) : Bool := wayB xt xn xl xh xa xp xs && (wayB yt yn yl yh ya yp ys && (decide (yl ≤ xl) && (decide (xh ≤ yh) && (bits .andNot .i64 xp yp == 0))))

end Go.Proofs.Ytjojildjnafgiaa
