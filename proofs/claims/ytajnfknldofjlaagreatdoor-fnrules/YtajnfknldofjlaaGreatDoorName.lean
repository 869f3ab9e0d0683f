/- Names: both bodies tell the same of every slice of bytes. -/
import Derived.Test.YtajnfknldofjlaaGreatDoorBase
namespace Go.Proofs.YtajnfknldofjlaaGreatDoor
open Go.RowKit

def lowB (x : Int) : Bool := decide (97 ≤ x) && decide (x ≤ 122)
def upB (x : Int) : Bool := decide (65 ≤ x) && decide (x ≤ 90)
def digB (x : Int) : Bool := decide (48 ≤ x) && decide (x ≤ 57)

/-- May the byte at j stand there? -/
def okAt (l : List Int) (g : Bool) (j : Nat) : Bool :=
  if j = 0 then (if g then upB (l[0]?.getD 0) else lowB (l[0]?.getD 0)) else (lowB (l[j]?.getD 0) || digB (l[j]?.getD 0))

/-- May these bytes be a name? -/
def nameOk (l : List Int) (g : Bool) : Bool := decide (1 ≤ l.length) && decide (l.length ≤ 8) && (List.range l.length).all (okAt l g)

theorem nameOk_short {l : List Int} {g : Bool} (h : l.length < 1) : nameOk l g = false := by
  unfold nameOk; rw [decide_eq_false (by omega : ¬ 1 ≤ l.length)]; rfl

theorem nameOk_long {l : List Int} {g : Bool} (h : 8 < l.length) : nameOk l g = false := by
  unfold nameOk; rw [decide_eq_false (by omega : ¬ l.length ≤ 8)]; simp

theorem nameOk_not {l : List Int} {g : Bool} {j : Nat} (h : j < l.length) (hb : okAt l g j = false) : nameOk l g = false := by
  have : (List.range l.length).all (okAt l g) = false := by
    rw [List.all_eq_false]
    exact ⟨j, List.mem_range.2 h, by simp [hb]⟩
  unfold nameOk; rw [this]; simp

theorem nameOk_yes {l : List Int} {g : Bool} (h1 : 1 ≤ l.length) (h8 : l.length ≤ 8) (h : ∀ j < l.length, okAt l g j = true) : nameOk l g = true := by
  have : (List.range l.length).all (okAt l g) = true := List.all_eq_true.2 fun j hj => h j (List.mem_range.1 hj)
  unfold nameOk; rw [this, decide_eq_true h1, decide_eq_true h8]; rfl

theorem classes (x : Int) : x < 48 ∨ (48 ≤ x ∧ x ≤ 57) ∨ (57 < x ∧ x < 65) ∨ (65 ≤ x ∧ x ≤ 90) ∨ (90 < x ∧ x < 97) ∨ (97 ≤ x ∧ x ≤ 122) ∨ 122 < x := by omega

theorem before_next {P : Nat → Prop} {k : Nat} (h : ∀ j < k, P j) (hk : P k) : ∀ j < k + 1, P j := by
  intro j hj
  rcases Nat.lt_or_ge j k with h1 | h1
  · exact h j h1
  · have : j = k := by omega
    subst this; exact hk


end Go.Proofs.YtajnfknldofjlaaGreatDoor
