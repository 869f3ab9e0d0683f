/-
  DERIVED. GIVEN WITH THE SEED: THE CARDS: each row of YtjhbpfnfolcdeaaGreatDoorRows.lean that lists a variable, with what it lists TIED to the program's text (the seventh form; the later family's looks); each row that meets fmt, with fmt's text TOLD by the authors' own Lean function (tested against real Go, not proved from fmt's source: count such statements apart). THE CARD IS WHAT COUNTS. Prove the row's statement (the work); the ties are given (YtjhbpfnfolcdeaaGreatDoorTie.lean); close each card by the builder's one call (the guide's Derived/Test/ToyasCard.lean, 'card_holds'). Laid BY PROGRAM, IN A SANDBOX (cutbox-door.mjs). By AI agents, Wed Nov 11 2026. No macro, syntax, notation, axiom, sorry.
-/
import Derived.Test.YtjhbpfnfolcdeaaGreatDoorRows
import GoSem.ClaimSeven
namespace Go.Proofs.YtjhbpfnfolcdeaaGreatDoor
namespace Rows

/-- THE TIED CARD OF 'laws.FnExactModuleOk'. -/
def fnExactModuleOkCard : Claim7 := { stood := { row := fnExactModuleOkRow, standIns := [], harness := (true, "9b32c1e1ed0d053533e2772a2bfbb9fcb3514e66053f89efc70179c28b2f107b"), looks := false }, kinds := [], alts := [], laidByText := true, laidKinds := [.data, .data, .data, .listed, .data, .wider, .wider], laidTests := true, laidLooks := .later }
def FnExactModuleOkCardSaid : Prop := Claim7.holds Tryz.pinned (.plain (OpenSpec.ofChange fnExactModuleOkSpec)) fnExactModuleOkCard

/-- THE SECOND FORM's CARD OF 'laws.FnExactModuleOk'. -/
def fnExactModuleOkUptoCard : Claim7 := { stood := { row := fnExactModuleOkUptoRow, standIns := [], harness := (true, "9b32c1e1ed0d053533e2772a2bfbb9fcb3514e66053f89efc70179c28b2f107b"), looks := false }, kinds := [], alts := [], laidByText := true, laidKinds := [.data, .data, .data, .listed, .data, .wider, .wider], laidTests := true, laidLooks := .later }
def FnExactModuleOkUptoCardSaid : Prop := Claim7.holds Tryz.pinned (.plain (OpenSpec.upto fnExactModuleOkSpec)) fnExactModuleOkUptoCard
end Rows
end Go.Proofs.YtjhbpfnfolcdeaaGreatDoor
