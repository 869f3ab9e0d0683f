/-
  DERIVED. GIVEN WITH THE SEED: THE CARDS: each row of YtchchigiafacbaaDoorRows.lean that lists a variable, with what it lists TIED to the program's text (the seventh form; the later family's looks); each row that meets fmt, with fmt's text TOLD by the authors' own Lean function (tested against real Go, not proved from fmt's source: count such statements apart). THE CARD IS WHAT COUNTS. Prove the row's statement (the work); the ties are given (YtchchigiafacbaaDoorTie.lean); close each card by the builder's one call (the guide's Derived/Test/ToyasCard.lean, 'card_holds'). Laid BY PROGRAM, IN A SANDBOX (cutbox-door.mjs). By AI agents, Wed Nov 11 2026. No macro, syntax, notation, axiom, sorry.
-/
import Derived.Test.YtchchigiafacbaaDoorRows
import GoSem.ClaimSeven
namespace Go.Proofs.YtchchigiafacbaaDoor
namespace Rows

/-- THE TIED CARD OF 'laws.FnSealed'. -/
def fnSealedCard : Claim7 := { stood := { row := fnSealedRow, standIns := [], harness := (true, "13d4b8919f71ebb436a28541c2a31bef7488b7453942294dcab3fb9df4b972db"), looks := true }, kinds := [], alts := [], laidByText := true, laidKinds := [.sentinel, .sentinel, .sentinel], laidTests := true, laidLooks := .later }
def FnSealedCardSaid : Prop := Claim7.holds Tryd.pinned (.plain (OpenSpec.ofChange fnSealedSpec)) fnSealedCard

/-- THE TIED CARD OF 'laws.FnStored'. -/
def fnStoredCard : Claim7 := { stood := { row := fnStoredRow, standIns := [], harness := (true, "13d4b8919f71ebb436a28541c2a31bef7488b7453942294dcab3fb9df4b972db"), looks := true }, kinds := [], alts := [], laidByText := true, laidKinds := [.sentinel, .sentinel, .sentinel], laidTests := true, laidLooks := .later }
def FnStoredCardSaid : Prop := Claim7.holds Tryd.pinned (.plain (OpenSpec.ofChange fnStoredSpec)) fnStoredCard

/-- THE TIED CARD OF 'laws.FnExactLoad'. -/
def fnExactLoadCard : Claim7 := { stood := { row := fnExactLoadRow, standIns := [], harness := (true, "13d4b8919f71ebb436a28541c2a31bef7488b7453942294dcab3fb9df4b972db"), looks := true }, kinds := [], alts := [], laidByText := true, laidKinds := [.sentinel, .sentinel, .sentinel], laidTests := true, laidLooks := .later }
def FnExactLoadCardSaid : Prop := Claim7.holds Tryd.pinned (.plain (OpenSpec.ofChange fnExactLoadSpec)) fnExactLoadCard

/-- THE TIED CARD OF 'laws.FnExactStore'. -/
def fnExactStoreCard : Claim7 := { stood := { row := fnExactStoreRow, standIns := [], harness := (true, "13d4b8919f71ebb436a28541c2a31bef7488b7453942294dcab3fb9df4b972db"), looks := true }, kinds := [], alts := [], laidByText := true, laidKinds := [.sentinel, .sentinel, .sentinel], laidTests := true, laidLooks := .later }
def FnExactStoreCardSaid : Prop := Claim7.holds Tryd.pinned (.plain (OpenSpec.ofChange fnExactStoreSpec)) fnExactStoreCard

/-- THE SECOND FORM's CARD OF 'laws.FnSealed'. -/
def fnSealedUptoCard : Claim7 := { stood := { row := fnSealedUptoRow, standIns := [], harness := (true, "13d4b8919f71ebb436a28541c2a31bef7488b7453942294dcab3fb9df4b972db"), looks := true }, kinds := [], alts := [], laidByText := true, laidKinds := [.sentinel, .sentinel, .sentinel], laidTests := true, laidLooks := .later }
def FnSealedUptoCardSaid : Prop := Claim7.holds Tryd.pinned (.plain (OpenSpec.upto fnSealedSpec)) fnSealedUptoCard

/-- THE SECOND FORM's CARD OF 'laws.FnStored'. -/
def fnStoredUptoCard : Claim7 := { stood := { row := fnStoredUptoRow, standIns := [], harness := (true, "13d4b8919f71ebb436a28541c2a31bef7488b7453942294dcab3fb9df4b972db"), looks := true }, kinds := [], alts := [], laidByText := true, laidKinds := [.sentinel, .sentinel, .sentinel], laidTests := true, laidLooks := .later }
def FnStoredUptoCardSaid : Prop := Claim7.holds Tryd.pinned (.plain (OpenSpec.upto fnStoredSpec)) fnStoredUptoCard

/-- THE SECOND FORM's CARD OF 'laws.FnExactLoad'. -/
def fnExactLoadUptoCard : Claim7 := { stood := { row := fnExactLoadUptoRow, standIns := [], harness := (true, "13d4b8919f71ebb436a28541c2a31bef7488b7453942294dcab3fb9df4b972db"), looks := true }, kinds := [], alts := [], laidByText := true, laidKinds := [.sentinel, .sentinel, .sentinel], laidTests := true, laidLooks := .later }
def FnExactLoadUptoCardSaid : Prop := Claim7.holds Tryd.pinned (.plain (OpenSpec.upto fnExactLoadSpec)) fnExactLoadUptoCard

/-- THE SECOND FORM's CARD OF 'laws.FnExactStore'. -/
def fnExactStoreUptoCard : Claim7 := { stood := { row := fnExactStoreUptoRow, standIns := [], harness := (true, "13d4b8919f71ebb436a28541c2a31bef7488b7453942294dcab3fb9df4b972db"), looks := true }, kinds := [], alts := [], laidByText := true, laidKinds := [.sentinel, .sentinel, .sentinel], laidTests := true, laidLooks := .later }
def FnExactStoreUptoCardSaid : Prop := Claim7.holds Tryd.pinned (.plain (OpenSpec.upto fnExactStoreSpec)) fnExactStoreUptoCard
end Rows
end Go.Proofs.YtchchigiafacbaaDoor
