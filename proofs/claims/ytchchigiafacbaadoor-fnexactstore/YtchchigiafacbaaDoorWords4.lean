/- Words as values: narrowed and shifted: the program and the specification tell the same. -/
import Derived.Test.YtchchigiafacbaaDoorWords3
namespace Go.Proofs.YtchchigiafacbaaDoor
open Go.RowKit
set_option linter.unusedVariables false
set_option linter.unusedSimpArgs false

theorem drewN_alloc1 (w : World) (a b : Obj) (d : Nat) : ((w.alloc a).alloc b).drewN d = ((w.drewN d).alloc a).alloc b := rfl
theorem drewN_alloc3 (w : World) (a b c : Obj) (d : Nat) : (((w.alloc a).alloc b).alloc c).drewN d = (((w.drewN d).alloc a).alloc b).alloc c := rfl

def nar0 (xt : Bool) (xl xh xs lo hi : Int) : Bool := (xt && (xs == 0)) && (decide (xl ≤ lo) && (decide (hi ≤ xh) && decide (lo ≤ hi)))
def narB (xt : Bool) (xn xl xh xa xp xs : Int) (lo hi : Int) : Bool := wayB xt xn xl xh xa xp xs && (decide (xl ≤ lo) && (decide (hi ≤ xh) && decide (lo ≤ hi)))

theorem nar_iff (xt : Bool) (xn xl xh xa xp xs : Int) (lo hi : Int) : (okB xt xn xl xh xa xp xs && nar0 xt xl xh xs lo hi) = narB xt xn xl xh xa xp xs lo hi := by rw [narB, ← way_iff, nar0]; simp only [Bool.and_assoc]



set_option maxRecDepth 100000 in
set_option maxHeartbeats 2000000 in
theorem implNarrowM (xt : Bool) (xn xl xh xa xp xs : Int) (lo hi p : Int) (w : World) :
    Calls Tryd.prog 9 #[.agg #[.bool xt, .int .i64 xn, .int .i64 xl, .int .i64 xh, .int .i64 xa, .int .i64 xp, .int .i64 xs], .int .i64 lo, .int .i64 hi, .int .i64 p] w fun e w' => e = .returned (.tuple #[.agg #[.bool (narB xt xn xl xh xa xp xs lo hi), .int .i64 0, .int .i64 (sel (narB xt xn xl xh xa xp xs lo hi) lo), .int .i64 (sel (narB xt xn xl xh xa xp xs lo hi) hi), .int .i64 (sel (narB xt xn xl xh xa xp xs lo hi) lo), .int .i64 (sel (narB xt xn xl xh xa xp xs lo hi) (bits .and .i64 xp p)), .int .i64 0], .bool (narB xt xn xl xh xa xp xs lo hi)]) ∧ Below w.heap.size w w' := by
  have H := isWayM xt xn xl xh xa xp xs
  by_cases hn : narB xt xn xl xh xa xp xs lo hi = true
  · rw [hn]
    obtain ⟨hd, h1, h2, h3⟩ : wayB xt xn xl xh xa xp xs = true ∧ xl ≤ lo ∧ hi ≤ xh ∧ lo ≤ hi := by simpa [narB] using hn
    rw [hd] at H
    obtain ⟨rfl, rfl, rfl, _⟩ := way_parts xt xn xl xh xa xp xs hd
    clear hn hd
    have hx := andnot_xor xp p
    go_enter Tryd.func9, Tryd.ntmps9
    go_wp2_with fail
    refine (H _).mono ?_
    rintro e w1 ⟨rfl, o1, rfl⟩
    go_wp2_with fail
    refine (narrowedM _ _ _ _ _ _ _ _ _ _ _).mono ?_
    rintro e w2 ⟨rfl, o2, o3, o4, o5, rfl⟩
    rw [hx]
    go_wp2_with fail
    refine bodyPost_ret (v := .tuple #[.agg #[.bool true, .int .i64 0, .int .i64 lo, .int .i64 hi, .int .i64 lo, .int .i64 (bits .and .i64 xp p), .int .i64 0], .bool true]) (by simp [results, Tryd.results9, go_sem]) rfl ⟨rfl, (by repeat (first | exact Below.refl _ _ | assumption | (refine below_drewN ?_ _) | apply Below.drew | (refine Below.alloc ?_ ?_ _) | (refine Below.setCell ?_ ?_ _) | omega | (simp; omega) | simp))⟩
  · rw [Bool.not_eq_true] at hn
    rw [hn]
    cases hd : wayB xt xn xl xh xa xp xs
    · rw [hd] at H
      clear hd hn
      go_enter Tryd.func9, Tryd.ntmps9
      go_wp2_with fail
      refine (H _).mono ?_
      rintro e w1 ⟨rfl, o1, rfl⟩
      go_wp2_with fail
      refine bodyPost_ret (v := .tuple #[.agg #[.bool false, .int .i64 0, .int .i64 0, .int .i64 0, .int .i64 0, .int .i64 0, .int .i64 0], .bool false]) (by simp [results, Tryd.results9, go_sem]) rfl ⟨rfl, (by repeat (first | exact Below.refl _ _ | assumption | (refine below_drewN ?_ _) | apply Below.drew | (refine Below.alloc ?_ ?_ _) | (refine Below.setCell ?_ ?_ _) | omega | (simp; omega) | simp))⟩
    · rw [hd] at H
      have hnn : ¬ (xl ≤ lo ∧ hi ≤ xh ∧ lo ≤ hi) := by
        intro h; rw [narB, hd] at hn; simp [h.1, h.2.1, h.2.2] at hn
      clear hd hn
      go_enter Tryd.func9, Tryd.ntmps9
      go_wp2_with fail
      refine (H _).mono ?_
      rintro e w1 ⟨rfl, o1, rfl⟩
      go_wp2_with fail
      all_goals first | (exfalso; omega) | (refine bodyPost_ret (v := .tuple #[.agg #[.bool false, .int .i64 0, .int .i64 0, .int .i64 0, .int .i64 0, .int .i64 0, .int .i64 0], .bool false]) (by simp [results, Tryd.results9, go_sem]) rfl ⟨rfl, (by repeat (first | exact Below.refl _ _ | assumption | (refine below_drewN ?_ _) | apply Below.drew | (refine Below.alloc ?_ ?_ _) | (refine Below.setCell ?_ ?_ _) | omega | (simp; omega) | simp))⟩)

def shB (xt : Bool) (xn xl xh xa xp xs : Int) (by_ : Int) : Bool := wayB xt xn xl xh xa xp xs && (inR by_ (-8000) 8000 && inR (xa + by_) (-4000) 8000)



set_option maxRecDepth 100000 in
set_option maxHeartbeats 2000000 in
theorem implShiftM (xt : Bool) (xn xl xh xa xp xs : Int) (by_ : Int) (w : World) :
    Calls Tryd.prog 10 #[.agg #[.bool xt, .int .i64 xn, .int .i64 xl, .int .i64 xh, .int .i64 xa, .int .i64 xp, .int .i64 xs], .int .i64 by_] w fun e w' => e = .returned (.tuple #[.agg #[.bool (shB xt xn xl xh xa xp xs by_), .int .i64 0, .int .i64 (sel (shB xt xn xl xh xa xp xs by_) xl), .int .i64 (sel (shB xt xn xl xh xa xp xs by_) xh), .int .i64 (sel (shB xt xn xl xh xa xp xs by_) (xa + by_)), .int .i64 (sel (shB xt xn xl xh xa xp xs by_) xp), .int .i64 0], .bool (shB xt xn xl xh xa xp xs by_)]) ∧ Below w.heap.size w w' := by
  have H := isWayM xt xn xl xh xa xp xs
  cases hd : wayB xt xn xl xh xa xp xs
  · have hz : shB xt xn xl xh xa xp xs by_ = false := by rw [shB, hd]; rfl
    rw [hz]
    rw [hd] at H
    clear hd hz
    go_enter Tryd.func10, Tryd.ntmps10
    go_wp2_with fail
    refine (H _).mono ?_
    rintro e w1 ⟨rfl, o1, rfl⟩
    go_wp2_with fail
    refine bodyPost_ret (v := .tuple #[.agg #[.bool false, .int .i64 0, .int .i64 0, .int .i64 0, .int .i64 0, .int .i64 0, .int .i64 0], .bool false]) (by simp [results, Tryd.results10, go_sem]) rfl ⟨rfl, (by repeat (first | exact Below.refl _ _ | assumption | (refine below_drewN ?_ _) | apply Below.drew | (refine Below.alloc ?_ ?_ _) | (refine Below.setCell ?_ ?_ _) | omega | (simp; omega) | simp))⟩
  · rw [hd] at H
    obtain ⟨rfl, rfl, rfl, hp⟩ := way_parts xt xn xl xh xa xp xs hd
    obtain ⟨_, _, _, _, h5, h6⟩ := hp
    cases hi1 : inR by_ (-8000) 8000
    · have hz : shB true 0 xl xh xa xp 0 by_ = false := by rw [shB, hd, hi1]; rfl
      rw [hz]
      clear hd hz
      go_enter Tryd.func10, Tryd.ntmps10
      go_wp2_with fail
      refine (H _).mono ?_
      rintro e w1 ⟨rfl, o1, rfl⟩
      go_wp2_with fail
      refine (inRangeM _ _ _ _).mono ?_
      rintro e w2 ⟨rfl, rfl⟩
      rw [hi1]
      go_wp2_with fail
      refine bodyPost_ret (v := .tuple #[.agg #[.bool false, .int .i64 0, .int .i64 0, .int .i64 0, .int .i64 0, .int .i64 0, .int .i64 0], .bool false]) (by simp [results, Tryd.results10, go_sem]) rfl ⟨rfl, (by repeat (first | exact Below.refl _ _ | assumption | (refine below_drewN ?_ _) | apply Below.drew | (refine Below.alloc ?_ ?_ _) | (refine Below.setCell ?_ ?_ _) | omega | (simp; omega) | simp))⟩
    · have hby : -8000 ≤ by_ ∧ by_ ≤ 8000 := by simpa [inR] using hi1
      cases hi2 : inR (xa + by_) (-4000) 8000
      · have hz : shB true 0 xl xh xa xp 0 by_ = false := by rw [shB, hd, hi1, hi2]; rfl
        rw [hz]
        clear hd hz
        go_enter Tryd.func10, Tryd.ntmps10
        go_wp2_with fail
        refine (H _).mono ?_
        rintro e w1 ⟨rfl, o1, rfl⟩
        go_wp2_with fail
        refine (inRangeM _ _ _ _).mono ?_
        rintro e w2 ⟨rfl, rfl⟩
        rw [hi1]
        go_wp2_with fail
        refine (inRangeM _ _ _ _).mono ?_
        rintro e w3 ⟨rfl, rfl⟩
        rw [hi2]
        go_wp2_with fail
        refine bodyPost_ret (v := .tuple #[.agg #[.bool false, .int .i64 0, .int .i64 0, .int .i64 0, .int .i64 0, .int .i64 0, .int .i64 0], .bool false]) (by simp [results, Tryd.results10, go_sem]) rfl ⟨rfl, (by repeat (first | exact Below.refl _ _ | assumption | (refine below_drewN ?_ _) | apply Below.drew | (refine Below.alloc ?_ ?_ _) | (refine Below.setCell ?_ ?_ _) | omega | (simp; omega) | simp))⟩
      · have hz : shB true 0 xl xh xa xp 0 by_ = true := by rw [shB, hd, hi1, hi2]; rfl
        rw [hz]
        clear hd hz
        have hw6 : wrap64 (xa + by_) = xa + by_ := by unfold wrap64; omega
        go_enter Tryd.func10, Tryd.ntmps10
        go_wp2_with fail
        refine (H _).mono ?_
        rintro e w1 ⟨rfl, o1, rfl⟩
        go_wp2_with fail
        refine (inRangeM _ _ _ _).mono ?_
        rintro e w2 ⟨rfl, rfl⟩
        rw [hi1]
        go_wp2_with fail
        refine (inRangeM _ _ _ _).mono ?_
        rintro e w3 ⟨rfl, rfl⟩
        rw [hi2]
        go_wp2_with fail
        refine (shiftedM _ _ _ _ _ _ _ _ _).mono ?_
        rintro e w4 ⟨rfl, o2, o3, rfl⟩
        rw [hw6]
        go_wp2_with fail
        refine bodyPost_ret (v := .tuple #[.agg #[.bool true, .int .i64 0, .int .i64 xl, .int .i64 xh, .int .i64 (xa + by_), .int .i64 xp, .int .i64 0], .bool true]) (by simp [results, Tryd.results10, go_sem]) rfl ⟨rfl, (by repeat (first | exact Below.refl _ _ | assumption | (refine below_drewN ?_ _) | apply Below.drew | (refine Below.alloc ?_ ?_ _) | (refine Below.setCell ?_ ?_ _) | omega | (simp; omega) | simp))⟩

end Go.Proofs.YtchchigiafacbaaDoor
