/-
  DERIVED. GIVEN WITH THE SEED: THE CARDS: each row of YtcbhdhmhidpdgaaGreatDoorRows.lean that lists a variable, with what it lists TIED to the program's text (the seventh form; the later family's looks); each row that meets fmt, with fmt's text TOLD by the authors' own Lean function (tested against real Go, not proved from fmt's source: count such statements apart). THE CARD IS WHAT COUNTS. Prove the row's statement (the work); the ties are given (YtcbhdhmhidpdgaaGreatDoorTie.lean); close each card by the builder's one call (the guide's Derived/Test/ToyasCard.lean, 'card_holds'). Laid BY PROGRAM, IN A SANDBOX (cutbox-door.mjs). By AI agents, Wed Nov 11 2026. No macro, syntax, notation, axiom, sorry.
-/
import Derived.Test.YtcbhdhmhidpdgaaGreatDoorRows
import GoSem.ClaimSeven
namespace Go.Proofs.YtcbhdhmhidpdgaaGreatDoor
namespace Rows

/-- THE TIED CARD OF 'laws.FnMismatch'. -/
def fnMismatchCard : Claim7 := { stood := { row := fnMismatchRow, standIns := [], harness := (true, "143fdc6c63f9b1decb6e6fcb40863581bc02f1229e8b6dd72c2df750ff351d15"), looks := true }, kinds := [], alts := [], laidByText := true, laidKinds := [.sentinel, .sentinel, .sentinel, .data], laidTests := true, laidLooks := .later }
def FnMismatchCardSaid : Prop := Claim7.holds Tryz.pinned (.plain (OpenSpec.ofChange fnMismatchSpec)) fnMismatchCard

/-- THE SECOND FORM's CARD OF 'laws.FnMismatch'. -/
def fnMismatchUptoCard : Claim7 := { stood := { row := fnMismatchUptoRow, standIns := [], harness := (true, "143fdc6c63f9b1decb6e6fcb40863581bc02f1229e8b6dd72c2df750ff351d15"), looks := true }, kinds := [], alts := [], laidByText := true, laidKinds := [.sentinel, .sentinel, .sentinel, .data], laidTests := true, laidLooks := .later }
def FnMismatchUptoCardSaid : Prop := Claim7.holds Tryz.pinned (.plain (OpenSpec.upto fnMismatchSpec)) fnMismatchUptoCard
end Rows
end Go.Proofs.YtcbhdhmhidpdgaaGreatDoor
