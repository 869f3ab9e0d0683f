/- A part of a row of bytes. No function is walked here. -/
import Derived.Test.YtnhebknckgffoaaBase
namespace Go.Proofs.Ytnhebknckgffoaa
open Go.RowKit
set_option linter.unusedVariables false

/-- A part of a row reads as that part. -/
theorem BRow.part {w : World} {b off n lo m : Nat} {l : List Int} (h : BRow w (some ⟨b, off, none⟩) n l) (hm : lo + m ≤ n) : BRow w (some ⟨b, off + lo, none⟩) m ((l.drop lo).take m) := by
  refine ⟨by simp [h.1]; omega, fun x hx => h.2.1 x (List.mem_of_mem_drop (List.mem_of_mem_take hx)), fun h0 => ⟨b, off + lo, rfl, fun i hi => ?_⟩⟩
  obtain ⟨b', off', e, hc⟩ := h.2.2 (by omega)
  simp only [Option.some.injEq, Addr.mk.injEq, and_true] at e
  obtain ⟨rfl, rfl⟩ := e
  rw [Nat.add_assoc, hc (lo + i) (by omega)]
  simp [hi]

theorem BRow.empty {w : World} (a : Option Addr) : BRow w a 0 [] := ⟨rfl, by simp, by omega⟩
end Go.Proofs.Ytnhebknckgffoaa
