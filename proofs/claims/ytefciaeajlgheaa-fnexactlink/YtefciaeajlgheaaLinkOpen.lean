/- A slice of objects that came in as an argument: what reads there. -/
import Derived.Test.YtefciaeajlgheaaTreeOpen
namespace Go.Proofs.Ytefciaeajlgheaa
open Go.RowKit Go.WideShapes Go.ChangeShapes
set_option linter.unusedVariables false
set_option linter.unusedSimpArgs false
set_option maxRecDepth 100000

theorem open_ObjectS {H : Type} {enc : TypeId × Value → H} {w : World} {base b0 : Nat} {spare : Nat → Bool} {held : Bool} {v : Value} {d : DataW H} {ps : List MemPlace}
    (hv : Value.okWide Try.prog w .any b0 22 v) (h : DataW.Trod enc Try.prog w base spare held 22 v d ps) :
    ∃ l : List Oj, (Fl.l 5 (l.map Oj.fl)).Rd w v := by
  have ht : Try.prog.underlying 22 = some (.slice 42) := by kernel_rfl
  simp only [Value.okWide, ht] at hv
  obtain ⟨fuel, h⟩ := h
  obtain ⟨v', l, e, hr⟩ := tr_l (K := 5) Oj.fl ht (by kernel_rfl) (by omega) (fun x => rfl) (fun n hn cs y h => tr_Object n cs y h) h
  have hvv : v = v' := by
    cases v <;> first
      | (simp only [Value.cells, List.cons.injEq, and_true] at e; exact e)
      | (exfalso; simp [Cell.okWide, Cell.ok, ht] at hv; done)
      | skip
  subst hvv
  exact ⟨l, hr⟩
end Go.Proofs.Ytefciaeajlgheaa
