/- Contracts of the laws' own helpers over slices of words. -/
import Derived.Test.YtjojildjnafgiaaMem
import Derived.Test.YtjojildjnafgiaaWords
import Derived.Deep.RegionHeld3
namespace Go.Proofs.Ytjojildjnafgiaa
open Go.RowKit
set_option linter.unusedVariables false

/-- The walk's seven facts of an element. -/
theorem WRow.el {w : World} {b off n : Nat} {l : List Wd} (h : WRow w (some ⟨b, off, none⟩) n l) {k : Nat} (hk : k < n) : ∃ x, l[k]? = some x ∧ w.cell? ⟨b, off + k * 7, none⟩ = some (.bool x.t) ∧ w.cell? ⟨b, off + k * 7 + 1, none⟩ = some (.int .i64 x.n) ∧ w.cell? ⟨b, off + k * 7 + 2, none⟩ = some (.int .i64 x.l) ∧ w.cell? ⟨b, off + k * 7 + 3, none⟩ = some (.int .i64 x.h) ∧ w.cell? ⟨b, off + k * 7 + 4, none⟩ = some (.int .i64 x.a) ∧ w.cell? ⟨b, off + k * 7 + 5, none⟩ = some (.int .i64 x.p) ∧ w.cell? ⟨b, off + k * 7 + 6, none⟩ = some (.int .i64 x.s) := by
  obtain ⟨b', off', e, hc⟩ := h.2 (by omega)
  simp only [Option.some.injEq, Addr.mk.injEq, and_true] at e
  obtain ⟨rfl, rfl⟩ := e
  exact ⟨_, List.getElem?_eq_getElem (by rw [h.1]; exact hk), row_word hc (List.getElem?_eq_getElem (by rw [h.1]; exact hk))⟩

end Go.Proofs.Ytjojildjnafgiaa
