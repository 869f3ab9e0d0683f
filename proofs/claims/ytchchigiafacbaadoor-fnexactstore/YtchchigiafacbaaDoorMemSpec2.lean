/- Where a word leads, by the specification; what is loaded there. -/
import Derived.Test.YtchchigiafacbaaDoorMemSpec
namespace Go.Proofs.YtchchigiafacbaaDoor
open Go.RowKit
set_option linter.unusedVariables false
set_option linter.unusedSimpArgs false

/-- Does the way lead to a place of n words? -/
def hitB (n : Nat) (l h a by_ : Int) : Bool := inR by_ (-16000) 16000 && (decide (l ≤ a + by_) && (decide (a + by_ < h) && decide (a + by_ < (n : Int))))

/-- The trap, or 0. -/
def trapV (n : Nat) (xt : Bool) (xn xl xh xa xp xs : Int) (by_ perm : Int) : Int :=
  bif (xt && (xs == 0)) then (bif bits .and .i64 xp perm == perm then (bif hitB n xl xh xa by_ then 0 else 2) else 3) else 1

def placeV (n : Nat) (xt : Bool) (xn xl xh xa xp xs : Int) (by_ perm : Int) : Int := bif trapV n xt xn xl xh xa xp xs by_ perm == 0 then xa + by_ else 0

set_option maxRecDepth 100000 in
set_option maxHeartbeats 4000000 in
theorem placeM (a : Option Addr) (n c : Nat) (xt : Bool) (xn xl xh xa xp xs : Int) (by_ perm : Int) (w : World) (hx : (xt && (xs == 0)) = true → -4000 ≤ xa ∧ xa ≤ 8000) (hn : n ≤ 1048576) :
    Calls Tryd.prog 62 #[.slice a n c, .agg #[.bool xt, .int .i64 xn, .int .i64 xl, .int .i64 xh, .int .i64 xa, .int .i64 xp, .int .i64 xs], .int .i64 by_, .int .i64 perm] w fun e w' => e = .returned (.tuple #[.int .i64 (placeV n xt xn xl xh xa xp xs by_ perm), .int .i64 (trapV n xt xn xl xh xa xp xs by_ perm)]) ∧ ∃ o1 o2, w' = (w.alloc o1).alloc o2 := by
  have H := dataM xt xn xl xh xa xp xs
  cases hd : (xt && (xs == 0))
  · have e1 : trapV n xt xn xl xh xa xp xs by_ perm = 1 := by rw [trapV, hd]; rfl
    have e2 : placeV n xt xn xl xh xa xp xs by_ perm = 0 := by rw [placeV, e1]; rfl
    rw [e1, e2]
    rw [hd] at H
    clear e1 e2 hx hd
    go_enter Tryd.func62, Tryd.ntmps62
    go_wp2_with fail
    refine (H _).mono ?_
    rintro e w1 ⟨rfl, rfl⟩
    go_wp2_with fail
    go_ret2
    exact ⟨rfl, _, _, rfl⟩
  · obtain ⟨ha0, ha1⟩ := hx hd
    rw [hd] at H
    cases hp : (bits .and .i64 xp perm == perm)
    · have e1 : trapV n xt xn xl xh xa xp xs by_ perm = 3 := by rw [trapV, hd, hp]; rfl
      have e2 : placeV n xt xn xl xh xa xp xs by_ perm = 0 := by rw [placeV, e1]; rfl
      rw [e1, e2]
      have hp' : (bits .and .i64 xp perm != perm) = true := by simpa using hp
      clear e1 e2 hx hd
      go_enter Tryd.func62, Tryd.ntmps62
      go_wp2_with fail
      refine (H _).mono ?_
      rintro e w1 ⟨rfl, rfl⟩
      go_wp2_with fail
      go_ret2
      exact ⟨rfl, _, _, rfl⟩
    · have hp' : (bits .and .i64 xp perm != perm) = false := by simpa using hp
      cases hh : hitB n xl xh xa by_
      · have e1 : trapV n xt xn xl xh xa xp xs by_ perm = 2 := by rw [trapV, hd, hp, hh]; rfl
        have e2 : placeV n xt xn xl xh xa xp xs by_ perm = 0 := by rw [placeV, e1]; rfl
        rw [e1, e2]
        have hno : ¬ ((-16000 ≤ by_ ∧ by_ ≤ 16000) ∧ xl ≤ xa + by_ ∧ xa + by_ < xh ∧ xa + by_ < (n : Int)) := by
          intro h
          rw [hitB] at hh
          simp [inR, h.1.1, h.1.2, h.2.1, h.2.2.1, h.2.2.2] at hh
        clear e1 e2 hx hd hh
        go_enter Tryd.func62, Tryd.ntmps62
        go_wp2_with fail
        refine (H _).mono ?_
        rintro e w1 ⟨rfl, rfl⟩
        go_wp2_with fail
        all_goals first | (exfalso; omega) | go_ret2
        all_goals exact ⟨rfl, _, _, rfl⟩
      · have e1 : trapV n xt xn xl xh xa xp xs by_ perm = 0 := by rw [trapV, hd, hp, hh]; rfl
        have e2 : placeV n xt xn xl xh xa xp xs by_ perm = xa + by_ := by rw [placeV, e1]; rfl
        rw [e1, e2]
        obtain ⟨⟨h1, h2⟩, h3, h4, h5⟩ : (-16000 ≤ by_ ∧ by_ ≤ 16000) ∧ xl ≤ xa + by_ ∧ xa + by_ < xh ∧ xa + by_ < (n : Int) := by simpa [hitB, inR] using hh
        clear e1 e2 hx hd hh
        go_enter Tryd.func62, Tryd.ntmps62
        go_wp2_with fail
        refine (H _).mono ?_
        rintro e w1 ⟨rfl, rfl⟩
        go_wp2_with fail
        go_ret2
        exact ⟨rfl, _, _, rfl⟩
end Go.Proofs.YtchchigiafacbaaDoor
