/- Words as values: narrowed and shifted: the program and the specification tell the same. -/
import Derived.Test.YtahfnenogeidpaaWords3
namespace Go.Proofs.Ytahfnenogeidpaa
open Go.RowKit
set_option linter.unusedVariables false
set_option linter.unusedSimpArgs false

theorem drewN_alloc1 (w : World) (a b : Obj) (d : Nat) : ((w.alloc a).alloc b).drewN d = ((w.drewN d).alloc a).alloc b := rfl
theorem drewN_alloc3 (w : World) (a b c : Obj) (d : Nat) : (((w.alloc a).alloc b).alloc c).drewN d = (((w.drewN d).alloc a).alloc b).alloc c := rfl

def nar0 (xt : Bool) (xl xh xs lo hi : Int) : Bool := (xt && (xs == 0)) && (decide (xl ≤ lo) && (decide (hi ≤ xh) && decide (lo ≤ hi)))
def narB (xt : Bool) (xn xl xh xa xp xs : Int) (lo hi : Int) : Bool := wayB xt xn xl xh xa xp xs && (decide (xl ≤ lo) && (decide (hi ≤ xh) && decide (lo ≤ hi)))

theorem nar_iff (xt : Bool) (xn xl xh xa xp xs : Int) (lo hi : Int) : (okB xt xn xl xh xa xp xs && nar0 xt xl xh xs lo hi) = narB xt xn xl xh xa xp xs lo hi := by rw [narB, ← way_iff, nar0]; simp only [Bool.and_assoc]

set_option maxRecDepth 100000 in
set_option maxHeartbeats 2000000 in
theorem l2narrowM (xt : Bool) (xn xl xh xa xp xs : Int) (lo hi p : Int) (w : World) :
    Calls Try.prog 38 #[.agg #[.bool xt, .int .i64 xn, .int .i64 xl, .int .i64 xh, .int .i64 xa, .int .i64 xp, .int .i64 xs], .int .i64 lo, .int .i64 hi, .int .i64 p] w fun e w' => e = .returned (.tuple #[.agg #[.bool (nar0 xt xl xh xs lo hi), .int .i64 0, .int .i64 (sel (nar0 xt xl xh xs lo hi) lo), .int .i64 (sel (nar0 xt xl xh xs lo hi) hi), .int .i64 (sel (nar0 xt xl xh xs lo hi) lo), .int .i64 (sel (nar0 xt xl xh xs lo hi) (bits .and .i64 xp p)), .int .i64 0], .bool (nar0 xt xl xh xs lo hi)]) ∧ ∃ o1 o2 o3, w' = ((w.alloc o1).alloc o2).alloc o3 := by
  have H := dataM xt xn xl xh xa xp xs
  by_cases hn : nar0 xt xl xh xs lo hi = true
  · rw [hn]
    obtain ⟨hd, h1, h2, h3⟩ : (xt && (xs == 0)) = true ∧ xl ≤ lo ∧ hi ≤ xh ∧ lo ≤ hi := by simpa [nar0] using hn
    rw [hd] at H
    clear hn hd
    go_enter Try.func38, Try.ntmps38
    go_wp2_with fail
    refine (H _).mono ?_
    rintro e w1 ⟨rfl, rfl⟩
    go_wp2_with fail
    refine bodyPost_ret (v := .tuple #[.agg #[.bool true, .int .i64 0, .int .i64 lo, .int .i64 hi, .int .i64 lo, .int .i64 (bits .and .i64 xp p), .int .i64 0], .bool true]) (by simp [results, Try.results38, go_sem]) rfl ⟨rfl, _, _, _, rfl⟩
  · rw [Bool.not_eq_true] at hn
    rw [hn]
    cases hd : (xt && (xs == 0))
    · rw [hd] at H
      clear hd hn
      go_enter Try.func38, Try.ntmps38
      go_wp2_with fail
      refine (H _).mono ?_
      rintro e w1 ⟨rfl, rfl⟩
      go_wp2_with fail
      refine bodyPost_ret (v := .tuple #[.agg #[.bool false, .int .i64 0, .int .i64 0, .int .i64 0, .int .i64 0, .int .i64 0, .int .i64 0], .bool false]) (by simp [results, Try.results38, go_sem]) rfl ⟨rfl, _, _, _, rfl⟩
    · rw [hd] at H
      have hnn : ¬ (xl ≤ lo ∧ hi ≤ xh ∧ lo ≤ hi) := by
        intro h; rw [nar0, hd] at hn; simp [h.1, h.2.1, h.2.2] at hn
      clear hd hn
      go_enter Try.func38, Try.ntmps38
      go_wp2_with fail
      refine (H _).mono ?_
      rintro e w1 ⟨rfl, rfl⟩
      go_wp2_with fail
      all_goals first | (exfalso; omega) | (refine bodyPost_ret (v := .tuple #[.agg #[.bool false, .int .i64 0, .int .i64 0, .int .i64 0, .int .i64 0, .int .i64 0, .int .i64 0], .bool false]) (by simp [results, Try.results38, go_sem]) rfl ⟨rfl, _, _, _, rfl⟩)

set_option maxRecDepth 100000 in
set_option maxHeartbeats 2000000 in
theorem specNarrowM (xt : Bool) (xn xl xh xa xp xs : Int) (lo hi p : Int) (w : World) :
    Calls Try.prog 18 #[.agg #[.bool xt, .int .i64 xn, .int .i64 xl, .int .i64 xh, .int .i64 xa, .int .i64 xp, .int .i64 xs], .int .i64 lo, .int .i64 hi, .int .i64 p] w fun e w' => e = .returned (.tuple #[.agg #[.bool (narB xt xn xl xh xa xp xs lo hi), .int .i64 0, .int .i64 (sel (narB xt xn xl xh xa xp xs lo hi) lo), .int .i64 (sel (narB xt xn xl xh xa xp xs lo hi) hi), .int .i64 (sel (narB xt xn xl xh xa xp xs lo hi) lo), .int .i64 (sel (narB xt xn xl xh xa xp xs lo hi) (bits .and .i64 xp p)), .int .i64 0], .bool (narB xt xn xl xh xa xp xs lo hi)]) ∧ Below w.heap.size w w' := by
  rw [← nar_iff]
  have H := specOkM xt xn xl xh xa xp xs
  have H2 := l2narrowM xt xn xl xh xa xp xs lo hi p
  generalize okB xt xn xl xh xa xp xs = b1 at *
  generalize nar0 xt xl xh xs lo hi = b2 at *
  cases b1
  · rw [Bool.false_and]
    go_enter Try.func18, Try.ntmps18
    go_wp2_with fail
    refine (H _).mono ?_
    rintro e w1 ⟨rfl, o1, d1, rfl⟩
    rw [drewN_alloc3]
    go_wp2_with fail
    refine bodyPost_ret (v := .tuple #[.agg #[.bool false, .int .i64 0, .int .i64 0, .int .i64 0, .int .i64 0, .int .i64 0, .int .i64 0], .bool false]) (by simp [results, Try.results18, go_sem]) rfl ⟨rfl, (by repeat (first | exact Below.refl _ _ | assumption | (refine below_drewN ?_ _) | apply Below.drew | (refine Below.alloc ?_ ?_ _) | (refine Below.setCell ?_ ?_ _) | omega | (simp; omega) | simp))⟩
  · rw [Bool.true_and]
    go_enter Try.func18, Try.ntmps18
    go_wp2_with fail
    refine (H _).mono ?_
    rintro e w1 ⟨rfl, o1, d1, rfl⟩
    rw [drewN_alloc3]
    have hsz : w.heap.size = (w.drewN d1).heap.size := rfl
    have hbz : Below w.heap.size w (w.drewN d1) := below_drewN (Below.refl _ _) _
    rw [hsz]
    generalize w.drewN d1 = w0 at *
    go_wp2_with fail
    refine (H2 _).mono ?_
    rintro e w2 ⟨rfl, o3, o4, o5, rfl⟩
    go_wp2_with fail
    refine bodyPost_ret (v := .tuple #[.agg #[.bool (b2), .int .i64 0, .int .i64 (sel (b2) lo), .int .i64 (sel (b2) hi), .int .i64 (sel (b2) lo), .int .i64 (sel (b2) (bits .and .i64 xp p)), .int .i64 0], .bool b2]) (by simp [results, Try.results18, go_sem]) rfl ⟨rfl, (by repeat (first | exact Below.refl _ _ | assumption | (refine below_drewN ?_ _) | apply Below.drew | (refine Below.alloc ?_ ?_ _) | (refine Below.setCell ?_ ?_ _) | omega | (simp; omega) | simp))⟩

set_option maxRecDepth 100000 in
set_option maxHeartbeats 2000000 in
theorem implNarrowM (xt : Bool) (xn xl xh xa xp xs : Int) (lo hi p : Int) (w : World) :
    Calls Try.prog 10 #[.agg #[.bool xt, .int .i64 xn, .int .i64 xl, .int .i64 xh, .int .i64 xa, .int .i64 xp, .int .i64 xs], .int .i64 lo, .int .i64 hi, .int .i64 p] w fun e w' => e = .returned (.tuple #[.agg #[.bool (narB xt xn xl xh xa xp xs lo hi), .int .i64 0, .int .i64 (sel (narB xt xn xl xh xa xp xs lo hi) lo), .int .i64 (sel (narB xt xn xl xh xa xp xs lo hi) hi), .int .i64 (sel (narB xt xn xl xh xa xp xs lo hi) lo), .int .i64 (sel (narB xt xn xl xh xa xp xs lo hi) (bits .and .i64 xp p)), .int .i64 0], .bool (narB xt xn xl xh xa xp xs lo hi)]) ∧ Below w.heap.size w w' := by
  have H := isWayM xt xn xl xh xa xp xs
  by_cases hn : narB xt xn xl xh xa xp xs lo hi = true
  · rw [hn]
    obtain ⟨hd, h1, h2, h3⟩ : wayB xt xn xl xh xa xp xs = true ∧ xl ≤ lo ∧ hi ≤ xh ∧ lo ≤ hi := by simpa [narB] using hn
    rw [hd] at H
    obtain ⟨rfl, rfl, rfl, _⟩ := way_parts xt xn xl xh xa xp xs hd
    clear hn hd
    have hx := andnot_xor xp p
    go_enter Try.func10, Try.ntmps10
    go_wp2_with fail
    refine (H _).mono ?_
    rintro e w1 ⟨rfl, o1, rfl⟩
    go_wp2_with fail
    refine (narrowedM _ _ _ _ _ _ _ _ _ _ _).mono ?_
    rintro e w2 ⟨rfl, o2, o3, o4, o5, rfl⟩
    rw [hx]
    go_wp2_with fail
    refine bodyPost_ret (v := .tuple #[.agg #[.bool true, .int .i64 0, .int .i64 lo, .int .i64 hi, .int .i64 lo, .int .i64 (bits .and .i64 xp p), .int .i64 0], .bool true]) (by simp [results, Try.results10, go_sem]) rfl ⟨rfl, (by repeat (first | exact Below.refl _ _ | assumption | (refine below_drewN ?_ _) | apply Below.drew | (refine Below.alloc ?_ ?_ _) | (refine Below.setCell ?_ ?_ _) | omega | (simp; omega) | simp))⟩
  · rw [Bool.not_eq_true] at hn
    rw [hn]
    cases hd : wayB xt xn xl xh xa xp xs
    · rw [hd] at H
      clear hd hn
      go_enter Try.func10, Try.ntmps10
      go_wp2_with fail
      refine (H _).mono ?_
      rintro e w1 ⟨rfl, o1, rfl⟩
      go_wp2_with fail
      refine bodyPost_ret (v := .tuple #[.agg #[.bool false, .int .i64 0, .int .i64 0, .int .i64 0, .int .i64 0, .int .i64 0, .int .i64 0], .bool false]) (by simp [results, Try.results10, go_sem]) rfl ⟨rfl, (by repeat (first | exact Below.refl _ _ | assumption | (refine below_drewN ?_ _) | apply Below.drew | (refine Below.alloc ?_ ?_ _) | (refine Below.setCell ?_ ?_ _) | omega | (simp; omega) | simp))⟩
    · rw [hd] at H
      have hnn : ¬ (xl ≤ lo ∧ hi ≤ xh ∧ lo ≤ hi) := by
        intro h; rw [narB, hd] at hn; simp [h.1, h.2.1, h.2.2] at hn
      clear hd hn
      go_enter Try.func10, Try.ntmps10
      go_wp2_with fail
      refine (H _).mono ?_
      rintro e w1 ⟨rfl, o1, rfl⟩
      go_wp2_with fail
      all_goals first | (exfalso; omega) | (refine bodyPost_ret (v := .tuple #[.agg #[.bool false, .int .i64 0, .int .i64 0, .int .i64 0, .int .i64 0, .int .i64 0, .int .i64 0], .bool false]) (by simp [results, Try.results10, go_sem]) rfl ⟨rfl, (by repeat (first | exact Below.refl _ _ | assumption | (refine below_drewN ?_ _) | apply Below.drew | (refine Below.alloc ?_ ?_ _) | (refine Below.setCell ?_ ?_ _) | omega | (simp; omega) | simp))⟩)

def shB (xt : Bool) (xn xl xh xa xp xs : Int) (by_ : Int) : Bool := wayB xt xn xl xh xa xp xs && (inR by_ (-8000) 8000 && inR (xa + by_) (-4000) 8000)

set_option maxRecDepth 100000 in
set_option maxHeartbeats 2000000 in
theorem l2shiftM (xt : Bool) (xn xl xh xa xp xs : Int) (by_ : Int) (hok : okB xt xn xl xh xa xp xs = true) (w : World) :
    Calls Try.prog 39 #[.agg #[.bool xt, .int .i64 xn, .int .i64 xl, .int .i64 xh, .int .i64 xa, .int .i64 xp, .int .i64 xs], .int .i64 by_] w fun e w' => e = .returned (.tuple #[.agg #[.bool (shB xt xn xl xh xa xp xs by_), .int .i64 0, .int .i64 (sel (shB xt xn xl xh xa xp xs by_) xl), .int .i64 (sel (shB xt xn xl xh xa xp xs by_) xh), .int .i64 (sel (shB xt xn xl xh xa xp xs by_) (xa + by_)), .int .i64 (sel (shB xt xn xl xh xa xp xs by_) xp), .int .i64 0], .bool (shB xt xn xl xh xa xp xs by_)]) ∧ ∃ o1 o2 o3, w' = ((w.alloc o1).alloc o2).alloc o3 := by
  have H := dataM xt xn xl xh xa xp xs
  have hw := way_iff xt xn xl xh xa xp xs
  rw [hok, Bool.true_and] at hw
  by_cases hn : shB xt xn xl xh xa xp xs by_ = true
  · rw [hn]
    obtain ⟨hd, ⟨h1, h2⟩, h3, h4⟩ : wayB xt xn xl xh xa xp xs = true ∧ (-8000 ≤ by_ ∧ by_ ≤ 8000) ∧ -4000 ≤ xa + by_ ∧ xa + by_ ≤ 8000 := by simpa [shB, inR] using hn
    obtain ⟨rfl, rfl, rfl, hp⟩ := way_parts xt xn xl xh xa xp xs hd
    rw [hw, hd] at H
    clear hn hd hw hok
    obtain ⟨_, _, _, _, h5, h6⟩ := hp
    go_enter Try.func39, Try.ntmps39
    go_wp2_with fail
    refine (H _).mono ?_
    rintro e w1 ⟨rfl, rfl⟩
    go_wp2_with fail
    refine bodyPost_ret (v := .tuple #[.agg #[.bool true, .int .i64 0, .int .i64 xl, .int .i64 xh, .int .i64 (xa + by_), .int .i64 xp, .int .i64 0], .bool true]) (by simp [results, Try.results39, go_sem]) rfl ⟨rfl, _, _, _, rfl⟩
  · rw [Bool.not_eq_true] at hn
    rw [hn]
    cases hd : wayB xt xn xl xh xa xp xs
    · rw [hw, hd] at H
      clear hd hn hw
      go_enter Try.func39, Try.ntmps39
      go_wp2_with fail
      refine (H _).mono ?_
      rintro e w1 ⟨rfl, rfl⟩
      go_wp2_with fail
      refine bodyPost_ret (v := .tuple #[.agg #[.bool false, .int .i64 0, .int .i64 0, .int .i64 0, .int .i64 0, .int .i64 0, .int .i64 0], .bool false]) (by simp [results, Try.results39, go_sem]) rfl ⟨rfl, _, _, _, rfl⟩
    · have hnn : ¬ ((-8000 ≤ by_ ∧ by_ ≤ 8000) ∧ -4000 ≤ xa + by_ ∧ xa + by_ ≤ 8000) := by
        intro h; rw [shB, hd] at hn; simp [inR, h.1.1, h.1.2, h.2.1, h.2.2] at hn
      obtain ⟨rfl, rfl, rfl, hp⟩ := way_parts xt xn xl xh xa xp xs hd
      obtain ⟨_, _, _, _, h5, h6⟩ := hp
      rw [hw, hd] at H
      clear hd hn hw hok
      go_enter Try.func39, Try.ntmps39
      go_wp2_with fail
      refine (H _).mono ?_
      rintro e w1 ⟨rfl, rfl⟩
      go_wp2_with fail
      all_goals first | (exfalso; omega) | (refine bodyPost_ret (v := .tuple #[.agg #[.bool false, .int .i64 0, .int .i64 0, .int .i64 0, .int .i64 0, .int .i64 0, .int .i64 0], .bool false]) (by simp [results, Try.results39, go_sem]) rfl ⟨rfl, _, _, _, rfl⟩)

set_option maxRecDepth 100000 in
set_option maxHeartbeats 2000000 in
theorem specShiftM (xt : Bool) (xn xl xh xa xp xs : Int) (by_ : Int) (w : World) :
    Calls Try.prog 20 #[.agg #[.bool xt, .int .i64 xn, .int .i64 xl, .int .i64 xh, .int .i64 xa, .int .i64 xp, .int .i64 xs], .int .i64 by_] w fun e w' => e = .returned (.tuple #[.agg #[.bool (shB xt xn xl xh xa xp xs by_), .int .i64 0, .int .i64 (sel (shB xt xn xl xh xa xp xs by_) xl), .int .i64 (sel (shB xt xn xl xh xa xp xs by_) xh), .int .i64 (sel (shB xt xn xl xh xa xp xs by_) (xa + by_)), .int .i64 (sel (shB xt xn xl xh xa xp xs by_) xp), .int .i64 0], .bool (shB xt xn xl xh xa xp xs by_)]) ∧ Below w.heap.size w w' := by
  have H := specOkM xt xn xl xh xa xp xs
  by_cases hok : okB xt xn xl xh xa xp xs = true
  · have H2 := l2shiftM xt xn xl xh xa xp xs by_ hok
    rw [hok] at H
    clear hok
    generalize shB xt xn xl xh xa xp xs by_ = b2 at *
    go_enter Try.func20, Try.ntmps20
    go_wp2_with fail
    refine (H _).mono ?_
    rintro e w1 ⟨rfl, o1, d1, rfl⟩
    rw [drewN_alloc3]
    have hsz : w.heap.size = (w.drewN d1).heap.size := rfl
    have hbz : Below w.heap.size w (w.drewN d1) := below_drewN (Below.refl _ _) _
    rw [hsz]
    generalize w.drewN d1 = w0 at *
    go_wp2_with fail
    refine (H2 _).mono ?_
    rintro e w2 ⟨rfl, o3, o4, o5, rfl⟩
    go_wp2_with fail
    refine bodyPost_ret (v := .tuple #[.agg #[.bool (b2), .int .i64 0, .int .i64 (sel (b2) xl), .int .i64 (sel (b2) xh), .int .i64 (sel (b2) (xa + by_)), .int .i64 (sel (b2) xp), .int .i64 0], .bool b2]) (by simp [results, Try.results20, go_sem]) rfl ⟨rfl, (by repeat (first | exact Below.refl _ _ | assumption | (refine below_drewN ?_ _) | apply Below.drew | (refine Below.alloc ?_ ?_ _) | (refine Below.setCell ?_ ?_ _) | omega | (simp; omega) | simp))⟩
  · rw [Bool.not_eq_true] at hok
    have hz : shB xt xn xl xh xa xp xs by_ = false := by rw [shB, ← way_iff, hok]; rfl
    rw [hz]
    rw [hok] at H
    go_enter Try.func20, Try.ntmps20
    go_wp2_with fail
    refine (H _).mono ?_
    rintro e w1 ⟨rfl, o1, d1, rfl⟩
    rw [drewN_alloc3]
    go_wp2_with fail
    refine bodyPost_ret (v := .tuple #[.agg #[.bool false, .int .i64 0, .int .i64 0, .int .i64 0, .int .i64 0, .int .i64 0, .int .i64 0], .bool false]) (by simp [results, Try.results20, go_sem]) rfl ⟨rfl, (by repeat (first | exact Below.refl _ _ | assumption | (refine below_drewN ?_ _) | apply Below.drew | (refine Below.alloc ?_ ?_ _) | (refine Below.setCell ?_ ?_ _) | omega | (simp; omega) | simp))⟩

set_option maxRecDepth 100000 in
set_option maxHeartbeats 2000000 in
theorem implShiftM (xt : Bool) (xn xl xh xa xp xs : Int) (by_ : Int) (w : World) :
    Calls Try.prog 13 #[.agg #[.bool xt, .int .i64 xn, .int .i64 xl, .int .i64 xh, .int .i64 xa, .int .i64 xp, .int .i64 xs], .int .i64 by_] w fun e w' => e = .returned (.tuple #[.agg #[.bool (shB xt xn xl xh xa xp xs by_), .int .i64 0, .int .i64 (sel (shB xt xn xl xh xa xp xs by_) xl), .int .i64 (sel (shB xt xn xl xh xa xp xs by_) xh), .int .i64 (sel (shB xt xn xl xh xa xp xs by_) (xa + by_)), .int .i64 (sel (shB xt xn xl xh xa xp xs by_) xp), .int .i64 0], .bool (shB xt xn xl xh xa xp xs by_)]) ∧ Below w.heap.size w w' := by
  have H := isWayM xt xn xl xh xa xp xs
  cases hd : wayB xt xn xl xh xa xp xs
  · have hz : shB xt xn xl xh xa xp xs by_ = false := by rw [shB, hd]; rfl
    rw [hz]
    rw [hd] at H
    clear hd hz
    go_enter Try.func13, Try.ntmps13
    go_wp2_with fail
    refine (H _).mono ?_
    rintro e w1 ⟨rfl, o1, rfl⟩
    go_wp2_with fail
    refine bodyPost_ret (v := .tuple #[.agg #[.bool false, .int .i64 0, .int .i64 0, .int .i64 0, .int .i64 0, .int .i64 0, .int .i64 0], .bool false]) (by simp [results, Try.results13, go_sem]) rfl ⟨rfl, (by repeat (first | exact Below.refl _ _ | assumption | (refine below_drewN ?_ _) | apply Below.drew | (refine Below.alloc ?_ ?_ _) | (refine Below.setCell ?_ ?_ _) | omega | (simp; omega) | simp))⟩
  · rw [hd] at H
    obtain ⟨rfl, rfl, rfl, hp⟩ := way_parts xt xn xl xh xa xp xs hd
    obtain ⟨_, _, _, _, h5, h6⟩ := hp
    cases hi1 : inR by_ (-8000) 8000
    · have hz : shB true 0 xl xh xa xp 0 by_ = false := by rw [shB, hd, hi1]; rfl
      rw [hz]
      clear hd hz
      go_enter Try.func13, Try.ntmps13
      go_wp2_with fail
      refine (H _).mono ?_
      rintro e w1 ⟨rfl, o1, rfl⟩
      go_wp2_with fail
      refine (inRangeM _ _ _ _).mono ?_
      rintro e w2 ⟨rfl, rfl⟩
      rw [hi1]
      go_wp2_with fail
      refine bodyPost_ret (v := .tuple #[.agg #[.bool false, .int .i64 0, .int .i64 0, .int .i64 0, .int .i64 0, .int .i64 0, .int .i64 0], .bool false]) (by simp [results, Try.results13, go_sem]) rfl ⟨rfl, (by repeat (first | exact Below.refl _ _ | assumption | (refine below_drewN ?_ _) | apply Below.drew | (refine Below.alloc ?_ ?_ _) | (refine Below.setCell ?_ ?_ _) | omega | (simp; omega) | simp))⟩
    · have hby : -8000 ≤ by_ ∧ by_ ≤ 8000 := by simpa [inR] using hi1
      cases hi2 : inR (xa + by_) (-4000) 8000
      · have hz : shB true 0 xl xh xa xp 0 by_ = false := by rw [shB, hd, hi1, hi2]; rfl
        rw [hz]
        clear hd hz
        go_enter Try.func13, Try.ntmps13
        go_wp2_with fail
        refine (H _).mono ?_
        rintro e w1 ⟨rfl, o1, rfl⟩
        go_wp2_with fail
        refine (inRangeM _ _ _ _).mono ?_
        rintro e w2 ⟨rfl, rfl⟩
        rw [hi1]
        go_wp2_with fail
        refine (inRangeM _ _ _ _).mono ?_
        rintro e w3 ⟨rfl, rfl⟩
        rw [hi2]
        go_wp2_with fail
        refine bodyPost_ret (v := .tuple #[.agg #[.bool false, .int .i64 0, .int .i64 0, .int .i64 0, .int .i64 0, .int .i64 0, .int .i64 0], .bool false]) (by simp [results, Try.results13, go_sem]) rfl ⟨rfl, (by repeat (first | exact Below.refl _ _ | assumption | (refine below_drewN ?_ _) | apply Below.drew | (refine Below.alloc ?_ ?_ _) | (refine Below.setCell ?_ ?_ _) | omega | (simp; omega) | simp))⟩
      · have hz : shB true 0 xl xh xa xp 0 by_ = true := by rw [shB, hd, hi1, hi2]; rfl
        rw [hz]
        clear hd hz
        have hw6 : wrap64 (xa + by_) = xa + by_ := by unfold wrap64; omega
        go_enter Try.func13, Try.ntmps13
        go_wp2_with fail
        refine (H _).mono ?_
        rintro e w1 ⟨rfl, o1, rfl⟩
        go_wp2_with fail
        refine (inRangeM _ _ _ _).mono ?_
        rintro e w2 ⟨rfl, rfl⟩
        rw [hi1]
        go_wp2_with fail
        refine (inRangeM _ _ _ _).mono ?_
        rintro e w3 ⟨rfl, rfl⟩
        rw [hi2]
        go_wp2_with fail
        refine (shiftedM _ _ _ _ _ _ _ _ _).mono ?_
        rintro e w4 ⟨rfl, o2, o3, rfl⟩
        rw [hw6]
        go_wp2_with fail
        refine bodyPost_ret (v := .tuple #[.agg #[.bool true, .int .i64 0, .int .i64 xl, .int .i64 xh, .int .i64 (xa + by_), .int .i64 xp, .int .i64 0], .bool true]) (by simp [results, Try.results13, go_sem]) rfl ⟨rfl, (by repeat (first | exact Below.refl _ _ | assumption | (refine below_drewN ?_ _) | apply Below.drew | (refine Below.alloc ?_ ?_ _) | (refine Below.setCell ?_ ?_ _) | omega | (simp; omega) | simp))⟩
end Go.Proofs.Ytahfnenogeidpaa
