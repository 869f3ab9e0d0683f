/-
  DERIVED. GIVEN WITH THE SEED: THE CARDS: each row of YtopnodadggohiaaGreatDoorRows.lean that lists a variable, with what it lists TIED to the program's text (the seventh form; the later family's looks); each row that meets fmt, with fmt's text TOLD by the authors' own Lean function (tested against real Go, not proved from fmt's source: count such statements apart). THE CARD IS WHAT COUNTS. Prove the row's statement (the work); the ties are given (YtopnodadggohiaaGreatDoorTie.lean); close each card by the builder's one call (the guide's Derived/Test/ToyasCard.lean, 'card_holds'). Laid BY PROGRAM, IN A SANDBOX (cutbox-door.mjs). By AI agents, Wed Nov 11 2026. No macro, syntax, notation, axiom, sorry.
-/
import Derived.Test.YtopnodadggohiaaGreatDoorRows
import GoSem.ClaimSeven
namespace Go.Proofs.YtopnodadggohiaaGreatDoor
namespace Rows

/-- THE TIED CARD OF 'laws.FnExactFaceOf'. -/
def fnExactFaceOfCard : Claim7 := { stood := { row := fnExactFaceOfRow, standIns := [], harness := (true, "c3e03aa6091a785102e7c63e18acfb15d7c39341ec4c71df1512443396e57fa3"), looks := false }, kinds := [], alts := [], laidByText := true, laidKinds := [.data, .data, .data, .listed, .data, .wider, .wider], laidTests := true, laidLooks := .later }
def FnExactFaceOfCardSaid : Prop := Claim7.holds Tryz.pinned (.plain (OpenSpec.ofChange fnExactFaceOfSpec)) fnExactFaceOfCard

/-- THE TIED CARD OF 'laws.FnExactCheck'. -/
def fnExactCheckCard : Claim7 := { stood := { row := fnExactCheckRow, standIns := [], harness := (true, "c3e03aa6091a785102e7c63e18acfb15d7c39341ec4c71df1512443396e57fa3"), looks := false }, kinds := [], alts := [], laidByText := true, laidKinds := [.data, .data, .data, .listed, .data, .wider, .wider, .data, .data], laidTests := true, laidLooks := .later }
def FnExactCheckCardSaid : Prop := Claim7.holds Tryz.pinned (.plain (OpenSpec.ofChange fnExactCheckSpec)) fnExactCheckCard

/-- THE SECOND FORM's CARD OF 'laws.FnExactFaceOf'. -/
def fnExactFaceOfUptoCard : Claim7 := { stood := { row := fnExactFaceOfUptoRow, standIns := [], harness := (true, "c3e03aa6091a785102e7c63e18acfb15d7c39341ec4c71df1512443396e57fa3"), looks := false }, kinds := [], alts := [], laidByText := true, laidKinds := [.data, .data, .data, .listed, .data, .wider, .wider], laidTests := true, laidLooks := .later }
def FnExactFaceOfUptoCardSaid : Prop := Claim7.holds Tryz.pinned (.plain (OpenSpec.upto fnExactFaceOfSpec)) fnExactFaceOfUptoCard

/-- THE SECOND FORM's CARD OF 'laws.FnExactCheck'. -/
def fnExactCheckUptoCard : Claim7 := { stood := { row := fnExactCheckUptoRow, standIns := [], harness := (true, "c3e03aa6091a785102e7c63e18acfb15d7c39341ec4c71df1512443396e57fa3"), looks := false }, kinds := [], alts := [], laidByText := true, laidKinds := [.data, .data, .data, .listed, .data, .wider, .wider, .data, .data], laidTests := true, laidLooks := .later }
def FnExactCheckUptoCardSaid : Prop := Claim7.holds Tryz.pinned (.plain (OpenSpec.upto fnExactCheckSpec)) fnExactCheckUptoCard
end Rows
end Go.Proofs.YtopnodadggohiaaGreatDoor
