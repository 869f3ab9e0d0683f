/- What the tables tell of a kind, in plain words. No function is walked here. -/
import Derived.Test.YtajnfknldofjlaaGreatDoorFormEx2
namespace Go.Proofs.YtajnfknldofjlaaGreatDoor
open Go.RowKit
set_option linter.unusedVariables false
set_option linter.unusedSimpArgs false

theorem eight {k : Int} (h : inB k 0 7 = true) : k = 0 ∨ k = 1 ∨ k = 2 ∨ k = 3 ∨ k = 4 ∨ k = 5 ∨ k = 6 ∨ k = 7 := by
  simp [inB] at h; omega

theorem exT_eq (k n : Int) (mod name : List Int) (ks : List Ex) : exT k n mod name ks = (exLoc k n mod name ks.length && (decide (k = 6) || !ks.any isArr)) := by
  unfold exT exLoc
  cases h : inB k 0 7
  · rfl
  have e : (ks.any fun x => decide (x.kind = 7)) = ks.any isArr := rfl
  rw [e]
  rcases eight h with rfl | rfl | rfl | rfl | rfl | rfl | rfl | rfl
  · show (fTakes (exF 0) n name ks.length && (decide (mod.length = 0) || hasW (exF 0) wMod && nameOk mod true) && _) = _
    unfold fTakes; rw [exHasName0, exHasMod0]; simp [exLow, exHigh, exLeast, exMost, exNamed, exF]
  · show (fTakes (exF 1) n name ks.length && (decide (mod.length = 0) || hasW (exF 1) wMod && nameOk mod true) && _) = _
    unfold fTakes; rw [exHasName1, exHasMod1]; simp [exLow, exHigh, exLeast, exMost, exNamed, exF]
  · show (fTakes (exF 2) n name ks.length && (decide (mod.length = 0) || hasW (exF 2) wMod && nameOk mod true) && _) = _
    unfold fTakes; rw [exHasName2, exHasMod2]; simp [exLow, exHigh, exLeast, exMost, exNamed, exF]
  · show (fTakes (exF 3) n name ks.length && (decide (mod.length = 0) || hasW (exF 3) wMod && nameOk mod true) && _) = _
    unfold fTakes; rw [exHasName3, exHasMod3]; simp [exLow, exHigh, exLeast, exMost, exNamed, exF]
  · show (fTakes (exF 4) n name ks.length && (decide (mod.length = 0) || hasW (exF 4) wMod && nameOk mod true) && _) = _
    unfold fTakes; rw [exHasName4, exHasMod4]; simp [exLow, exHigh, exLeast, exMost, exNamed, exF]
  · show (fTakes (exF 5) n name ks.length && (decide (mod.length = 0) || hasW (exF 5) wMod && nameOk mod true) && _) = _
    unfold fTakes; rw [exHasName5, exHasMod5]; simp [exLow, exHigh, exLeast, exMost, exNamed, exF]
  · show (fTakes (exF 6) n name ks.length && (decide (mod.length = 0) || hasW (exF 6) wMod && nameOk mod true) && _) = _
    unfold fTakes; rw [exHasName6, exHasMod6]; simp [exLow, exHigh, exLeast, exMost, exNamed, exF]
  · show (fTakes (exF 7) n name ks.length && (decide (mod.length = 0) || hasW (exF 7) wMod && nameOk mod true) && _) = _
    unfold fTakes; rw [exHasName7, exHasMod7]; simp [exLow, exHigh, exLeast, exMost, exNamed, exF]

theorem stT_eq (k n : Int) (name : List Int) (ks : List Ex) (nb ne : Nat) : stT k n name ks nb ne = stLoc k n name ks nb ne := by
  unfold stT stLoc
  cases h : inB k 0 7
  · rfl
  have e : (ks.any fun x => decide (x.kind = 7)) = ks.any isArr := rfl
  have e' : (ks.any fun x => decide (x.kind = 6)) = ks.any isCall := rfl
  rw [e, e']
  rcases eight h with rfl | rfl | rfl | rfl | rfl | rfl | rfl | rfl
  · show (fTakes (stF 0) n name ks.length && (decide (nb = 0) || hasW (stF 0) wBody) && (decide (ne = 0) || hasW (stF 0) wElse) && _ && (!hasW (stF 0) wCall || _)) = _
    unfold fTakes; rw [stHasName0, stHasBody0, stHasElse0, stHasCall0]; simp [stHigh, stLeast, stNamed, stBody, stF, Bool.and_assoc]
  · show (fTakes (stF 1) n name ks.length && (decide (nb = 0) || hasW (stF 1) wBody) && (decide (ne = 0) || hasW (stF 1) wElse) && _ && (!hasW (stF 1) wCall || _)) = _
    unfold fTakes; rw [stHasName1, stHasBody1, stHasElse1, stHasCall1]; simp [stHigh, stLeast, stNamed, stBody, stF, Bool.and_assoc]
  · show (fTakes (stF 2) n name ks.length && (decide (nb = 0) || hasW (stF 2) wBody) && (decide (ne = 0) || hasW (stF 2) wElse) && _ && (!hasW (stF 2) wCall || _)) = _
    unfold fTakes; rw [stHasName2, stHasBody2, stHasElse2, stHasCall2]; simp [stHigh, stLeast, stNamed, stBody, stF, Bool.and_assoc]
  · show (fTakes (stF 3) n name ks.length && (decide (nb = 0) || hasW (stF 3) wBody) && (decide (ne = 0) || hasW (stF 3) wElse) && _ && (!hasW (stF 3) wCall || _)) = _
    unfold fTakes; rw [stHasName3, stHasBody3, stHasElse3, stHasCall3]; simp [stHigh, stLeast, stNamed, stBody, stF, Bool.and_assoc]
  · show (fTakes (stF 4) n name ks.length && (decide (nb = 0) || hasW (stF 4) wBody) && (decide (ne = 0) || hasW (stF 4) wElse) && _ && (!hasW (stF 4) wCall || _)) = _
    unfold fTakes; rw [stHasName4, stHasBody4, stHasElse4, stHasCall4]; simp [stHigh, stLeast, stNamed, stBody, stF, Bool.and_assoc]
  · show (fTakes (stF 5) n name ks.length && (decide (nb = 0) || hasW (stF 5) wBody) && (decide (ne = 0) || hasW (stF 5) wElse) && _ && (!hasW (stF 5) wCall || _)) = _
    unfold fTakes; rw [stHasName5, stHasBody5, stHasElse5, stHasCall5]; simp [stHigh, stLeast, stNamed, stBody, stF, Bool.and_assoc]
  · show (fTakes (stF 6) n name ks.length && (decide (nb = 0) || hasW (stF 6) wBody) && (decide (ne = 0) || hasW (stF 6) wElse) && _ && (!hasW (stF 6) wCall || _)) = _
    unfold fTakes; rw [stHasName6, stHasBody6, stHasElse6, stHasCall6]; simp [stHigh, stLeast, stNamed, stBody, stF, Bool.and_assoc]
  · show (fTakes (stF 7) n name ks.length && (decide (nb = 0) || hasW (stF 7) wBody) && (decide (ne = 0) || hasW (stF 7) wElse) && _ && (!hasW (stF 7) wCall || _)) = _
    unfold fTakes; rw [stHasName7, stHasBody7, stHasElse7, stHasCall7]; simp [stHigh, stLeast, stNamed, stBody, stF, Bool.and_assoc]
end Go.Proofs.YtajnfknldofjlaaGreatDoor
