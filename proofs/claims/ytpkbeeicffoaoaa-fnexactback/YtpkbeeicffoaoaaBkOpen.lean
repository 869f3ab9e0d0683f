/- A slice of bools that came in as an argument: what reads there. -/
import Derived.Test.YtpkbeeicffoaoaaTreeOpen
namespace Go.Proofs.Ytpkbeeicffoaoaa
open Go.RowKit Go.WideShapes Go.ChangeShapes
set_option linter.unusedVariables false
set_option linter.unusedSimpArgs false
set_option maxRecDepth 100000

theorem open_BoolS {H : Type} {enc : TypeId × Value → H} {w : World} {base b0 : Nat} {spare : Nat → Bool} {held : Bool} {v : Value} {d : DataW H} {ps : List MemPlace}
    (hv : Value.okWide Try.prog w .any b0 27 v) (h : DataW.Trod enc Try.prog w base spare held 27 v d ps) :
    ∃ l : List Bool, (Fl.l 1 (tfs l)).Rd w v := by
  have ht : Try.prog.underlying 27 = some (.slice 4) := by kernel_rfl
  simp only [Value.okWide, ht] at hv
  obtain ⟨fuel, h⟩ := h
  obtain ⟨v', l, e, hr⟩ := tr_l (K := 1) (fun x : Bool => [Fl.t x]) ht (by kernel_rfl) (by omega) (fun x => rfl) (fun n hn cs y h => by obtain ⟨u, b, e, hb⟩ := tr_t h; exact ⟨b, by rw [e]; exact ⟨u, [], rfl, hb, rfl⟩⟩) h
  have hvv : v = v' := by
    cases v <;> first
      | (simp only [Value.cells, List.cons.injEq, and_true] at e; exact e)
      | (exfalso; simp [Cell.okWide, Cell.ok, ht] at hv; done)
      | skip
  subst hvv
  exact ⟨l, hr⟩
end Go.Proofs.Ytpkbeeicffoaoaa
