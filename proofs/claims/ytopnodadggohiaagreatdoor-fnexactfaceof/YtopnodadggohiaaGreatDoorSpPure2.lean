/- What the specification asks of statements, in the program's words. No function is walked here. -/
import Derived.Test.YtopnodadggohiaaGreatDoorPackE
namespace Go.Proofs.YtopnodadggohiaaGreatDoor
open Go.RowKit
set_option linter.unusedVariables false
set_option linter.unusedSimpArgs false

/-- All that is asked of a statement's own fields, but for which kinds its Kids are. -/
def stLoc0 (k n : Int) (name : List Int) (nk nb ne : Nat) : Bool :=
 inB k 0 7 && (inB n 0 (stHigh k) && inB nk (stLeast k) (stLeast k) && (if stNamed k then nameOk name false else decide (name.length = 0))) && (decide (nb = 0) || stBody k) && (decide (ne = 0) || decide (k = 2))

theorem stLoc_eq (k n : Int) (name : List Int) (ks : List Ex) (nb ne : Nat) : stLoc k n name ks nb ne = (stLoc0 k n name ks.length nb ne && !ks.any isArr && (!decide (k = 7) || ks.any isCall)) := rfl

theorem loc0_no {k n : Int} {name : List Int} {nk nb ne : Nat} (h : inB k 0 7 = false ∨ ¬ (nk : Int) = stLeast k ∨ inB n 0 (stHigh k) = false ∨ (stNamed k = true ∧ nameOk name false = false) ∨ (stNamed k = false ∧ ¬ name.length = 0) ∨ (¬ nb = 0 ∧ stBody k = false) ∨ (¬ ne = 0 ∧ ¬ k = 2)) : stLoc0 k n name nk nb ne = false := by
 unfold stLoc0
 rcases h with h | h | h | ⟨h1, h2⟩ | ⟨h1, h2⟩ | ⟨h1, h2⟩ | ⟨h1, h2⟩
 ·
  rw [h]; rfl
 ·
  have : inB (nk : Int) (stLeast k) (stLeast k) = false := by simp [inB]; omega
  rw [this]; simp
 ·
  rw [h]; simp
 ·
  rw [h1, if_pos rfl, h2]; simp
 ·
  rw [h1, decide_eq_false h2]; simp
 ·
  rw [decide_eq_false h1, h2]; simp
 ·
  rw [decide_eq_false h1, decide_eq_false h2]; simp
theorem loc0_yes {k n : Int} {name : List Int} {nk nb ne : Nat} (h1 : inB k 0 7 = true) (h2 : (nk : Int) = stLeast k) (h3 : inB n 0 (stHigh k) = true) (h4 : (if stNamed k then nameOk name false else decide (name.length = 0)) = true) (h5 : (decide (nb = 0) || stBody k) = true) (h6 : (decide (ne = 0) || decide (k = 2)) = true) : stLoc0 k n name nk nb ne = true := by
 have : inB (nk : Int) (stLeast k) (stLeast k) = true := by simp [inB]; omega
 unfold stLoc0; rw [h1, this, h3, h4, h5, h6]; rfl

def spIn (ks : List Ex) (bs es : List St) (d left : Int) : Bool := spExs ks d false left && fitSts bs d (left - (ndExs ks : Int)) && fitSts es d (left - (ndExs ks : Int) - (ndSts bs : Int))

theorem fitSt_loc0 {k n : Int} {name : List Int} {ks : List Ex} {bs es : List St} {d left : Int} (h : stLoc0 k n name ks.length bs.length es.length = false) : fitSt (.mk k n name ks bs es) d left = false := by
 refine fitSt_form ?_
 rw [stT_eq, stLoc_eq, h]; rfl
theorem fitSt_call {n : Int} {name : List Int} {x : Ex} {bs es : List St} {d left : Int} (h : ¬ x.kind = 6) : fitSt (.mk 7 n name [x] bs es) d left = false := by
 refine fitSt_form ?_
 rw [stT_eq, stLoc_eq]
 simp [isCall, h]
theorem fitSt_sp {k n : Int} {name : List Int} {ks : List Ex} {bs es : List St} {d left : Int} (h : stLoc0 k n name ks.length bs.length es.length = true) (hc : (!decide (k = 7) || ks.any isCall) = true) (hl : 1 ≤ left) (hd : d ≤ 16) : fitSt (.mk k n name ks bs es) d left = spIn ks bs es (d + 1) (left - 1) := by
 unfold spIn spExs
 cases ha : ks.any isArr
 ·
  simp only [Bool.not_false, Bool.or_true, Bool.true_and]
  exact fitSt_rest (by rw [stT_eq, stLoc_eq, h, ha, hc]; rfl) hl hd
 ·
  simp only [Bool.not_true, Bool.or_self, Bool.false_and]
  refine fitSt_form ?_
  rw [stT_eq, stLoc_eq, ha]; simp
theorem spExs_le {l : List Ex} {d left : Int} {arg : Bool} (h : spExs l d arg left = true) : (ndExs l : Int) ≤ left := by
 unfold spExs at h; rw [Bool.and_eq_true] at h; exact fitExs_le h.2
end Go.Proofs.YtopnodadggohiaaGreatDoor
