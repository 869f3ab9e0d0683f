/- The law of Encode returns true at every slice of instructions, and writes nothing that was there. -/
import Derived.Test.YtcidckmocmdijaaDoorEncImpl
import Derived.Deep.Slices
import Derived.WideShapes
import Derived.ChangeArms
namespace Go.Proofs.YtcidckmocmdijaaDoor
open Go.RowKit Go.WideShapes Go.ChangeShapes
set_option linter.unusedVariables false
set_option linter.unusedSimpArgs false
set_option maxRecDepth 100000

def FitsI (x : In6) : Prop := Fits6 x.o x.a x.b x.c x.n x.m
instance : Inhabited In6 := ⟨zeroI⟩


theorem flatI_cells (X : Nat → In6) (n j : Nat) (v : Value) (h : (flatI ((List.range n).map X))[j]? = some v) : j / 6 < n ∧ (X (j / 6)).vals[j % 6]? = some v := by
  have hj : j < n * 6 := by
    have := (List.getElem?_eq_some_iff.1 h).1
    rw [flatI_len] at this; simpa using this
  have hk : ((List.range n).map X)[j / 6]? = some (X (j / 6)) := by simp; exact ⟨j / 6, by rw [List.getElem?_range (by omega)], rfl⟩
  have e : j = (j / 6) * 6 + j % 6 := by omega
  refine ⟨by omega, ?_⟩
  rw [← flatI_at _ _ _ (Nat.mod_lt _ (by omega)) _ hk, ← e]
  exact h

theorem implEncT (a : Option Addr) (n c : Nat) (l : List In6) (w : World) (h : IRow w a n l) (hn : n ≤ 1048576) (hO : Ops w) :
    Calls Tryd.prog 4 #[.slice a n c] w fun e w' => ∃ a' c', e = .returned (.tuple #[.slice a' (encR l n).length c', .bool (encOk l n)]) ∧ Made w w' a' (encR l n).length c' (encR l n) := by
  refine (implEncodeM a n c l w h hn hO).mono ?_
  rintro e w' ⟨v, rfl, ho, hb⟩
  obtain ⟨a', c', rfl, hm⟩ := ho.made hb
  exact ⟨a', c', rfl, hm⟩

theorem But.grows {w w' : World} {g : Nat} (h : But w w' g) (hs : w.heap.size ≤ w'.heap.size) : w.grownBy w' (some g) :=
  ⟨h.below.os, h.below.tape, h.below.output, hs, fun b hb hne => h.rest b hb (fun e => hne (by rw [e]))⟩
theorem But.size {w w' : World} {g : Nat} (h : But w w' g) (hg : g < w.heap.size) : w.heap.size ≤ w'.heap.size := h.below.size

theorem encR_len (l : List In6) (n : Nat) (hl : l.length = n) : (encR l n).length ≤ 48000 := by
  unfold encR
  cases h : encOk l n
  · simp
  · have h4 : n ≤ 4000 := by simp [encOk] at h; exact h.1
    simp only [cond_true]
    rw [encL_len, hl]
    omega

end Go.Proofs.YtcidckmocmdijaaDoor
