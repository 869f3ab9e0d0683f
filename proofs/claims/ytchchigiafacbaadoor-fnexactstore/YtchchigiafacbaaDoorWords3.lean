/- Words as values: within, narrowed, shifted: the program and the specification tell the same. -/
import Derived.Test.YtchchigiafacbaaDoorWords2
namespace Go.Proofs.YtchchigiafacbaaDoor
open Go.RowKit
set_option linter.unusedVariables false
set_option linter.unusedSimpArgs false

theorem way_iff (xt : Bool) (xn xl xh xa xp xs : Int) : (okB xt xn xl xh xa xp xs && (xt && (xs == 0))) = wayB xt xn xl xh xa xp xs := by
  cases xt
  · simp [wayB]
  · by_cases h : xs = 0
    · subst h; simp [okB, isIntB, entryB, wayB, inR]
    · have : (xs == 0) = false := by simpa using h
      simp [wayB, this]

theorem way_ok (xt : Bool) (xn xl xh xa xp xs : Int) (h : okB xt xn xl xh xa xp xs = true) (hd : (xt && (xs == 0)) = true) : wayB xt xn xl xh xa xp xs = true := by rw [← way_iff, h, hd]; rfl

theorem way_parts (xt : Bool) (xn xl xh xa xp xs : Int) (h : wayB xt xn xl xh xa xp xs = true) : xt = true ∧ xn = 0 ∧ xs = 0 ∧ (0 ≤ xp ∧ xp ≤ 31) ∧ 0 ≤ xl ∧ xl ≤ xh ∧ xh ≤ 4000 ∧ -4000 ≤ xa ∧ xa ≤ 8000 := by
  simpa [wayB, inR, and_assoc] using h

theorem back64 (x : BitVec 64) : BitVec.ofInt 64 (IntKind.i64.wrap ((x.toNat : Nat) : Int)) = x := by
  apply BitVec.eq_of_toNat_eq
  have := x.isLt
  rw [BitVec.toNat_ofInt, IntKind.wrap_i64]
  omega

theorem andnot_xor (a b : Int) : bits .andNot .i64 a (bits .xor .i64 (-1) b) = bits .and .i64 a b := by
  show IntKind.i64.wrap (((BitVec.ofInt 64 a &&& ~~~ BitVec.ofInt 64 (IntKind.i64.wrap (((BitVec.ofInt 64 (-1) ^^^ BitVec.ofInt 64 b).toNat : Nat) : Int))).toNat : Nat) : Int) = IntKind.i64.wrap (((BitVec.ofInt 64 a &&& BitVec.ofInt 64 b).toNat : Nat) : Int)
  have h1 : BitVec.ofInt 64 (-1) = BitVec.allOnes 64 := by decide
  rw [back64, h1, BitVec.allOnes_xor, BitVec.not_not]

def withinB (xt : Bool) (xn xl xh xa xp xs : Int) (yt : Bool) (yn yl yh ya yp ys : Int) : Bool := wayB xt xn xl xh xa xp xs && (wayB yt yn yl yh ya yp ys && (decide (yl ≤ xl) && (decide (xh ≤ yh) && (bits .andNot .i64 xp yp == 0))))

set_option maxRecDepth 100000 in
set_option maxHeartbeats 2000000 in
theorem implWithinM (xt : Bool) (xn xl xh xa xp xs : Int) (yt : Bool) (yn yl yh ya yp ys : Int) (w : World) :
    Calls Tryd.prog 14 #[.agg #[.bool xt, .int .i64 xn, .int .i64 xl, .int .i64 xh, .int .i64 xa, .int .i64 xp, .int .i64 xs], .agg #[.bool yt, .int .i64 yn, .int .i64 yl, .int .i64 yh, .int .i64 ya, .int .i64 yp, .int .i64 ys]] w fun e w' => e = .returned (.bool (withinB xt xn xl xh xa xp xs yt yn yl yh ya yp ys)) ∧ Below w.heap.size w w' := by
  unfold withinB
  have H1 := isWayM xt xn xl xh xa xp xs
  have H2 := isWayM yt yn yl yh ya yp ys
  generalize wayB xt xn xl xh xa xp xs = b1 at *
  generalize wayB yt yn yl yh ya yp ys = b2 at *
  cases b1
  · go_enter Tryd.func14, Tryd.ntmps14
    go_wp2_with fail
    refine (H1 _).mono ?_
    rintro e w1 ⟨rfl, o1, rfl⟩
    go_wp2
    go_ret
    exact ⟨rb (by simp), (by repeat (first | exact Below.refl _ _ | assumption | (refine below_drewN ?_ _) | apply Below.drew | (refine Below.alloc ?_ ?_ _) | (refine Below.setCell ?_ ?_ _) | omega | (simp; omega) | simp))⟩
  · cases b2
    · go_enter Tryd.func14, Tryd.ntmps14
      go_wp2_with fail
      refine (H1 _).mono ?_
      rintro e w1 ⟨rfl, o1, rfl⟩
      go_wp2_with fail
      refine (H2 _).mono ?_
      rintro e w2 ⟨rfl, o2, rfl⟩
      go_wp2
      go_ret
      exact ⟨rb (by simp), (by repeat (first | exact Below.refl _ _ | assumption | (refine below_drewN ?_ _) | apply Below.drew | (refine Below.alloc ?_ ?_ _) | (refine Below.setCell ?_ ?_ _) | omega | (simp; omega) | simp))⟩
    · by_cases hc : yl ≤ xl ∧ xh ≤ yh
      · obtain ⟨h1, h2⟩ := hc
        go_enter Tryd.func14, Tryd.ntmps14
        go_wp2_with fail
        refine (H1 _).mono ?_
        rintro e w1 ⟨rfl, o1, rfl⟩
        go_wp2_with fail
        refine (H2 _).mono ?_
        rintro e w2 ⟨rfl, o2, rfl⟩
        go_wp2_with fail
        refine (mayM _ _ _ _ _ _ _ _ _).mono ?_
        rintro e w3 ⟨rfl, rfl⟩
        go_wp2
        go_ret
        exact ⟨rb (by simp [h1, h2]), (by repeat (first | exact Below.refl _ _ | assumption | (refine below_drewN ?_ _) | apply Below.drew | (refine Below.alloc ?_ ?_ _) | (refine Below.setCell ?_ ?_ _) | omega | (simp; omega) | simp))⟩
      · go_enter Tryd.func14, Tryd.ntmps14
        go_wp2_with fail
        refine (H1 _).mono ?_
        rintro e w1 ⟨rfl, o1, rfl⟩
        go_wp2_with fail
        refine (H2 _).mono ?_
        rintro e w2 ⟨rfl, o2, rfl⟩
        go_wp2
        all_goals first | (exfalso; omega) | go_ret
        all_goals exact ⟨rb (by simp; omega), (by repeat (first | exact Below.refl _ _ | assumption | (refine below_drewN ?_ _) | apply Below.drew | (refine Below.alloc ?_ ?_ _) | (refine Below.setCell ?_ ?_ _) | omega | (simp; omega) | simp))⟩

end Go.Proofs.YtchchigiafacbaaDoor
