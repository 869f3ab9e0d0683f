/-
  DERIVED. GIVEN WITH THE SEED: THE CARDS: each row of YtcidckmocmdijaaDoorRows.lean that lists a variable, with what it lists TIED to the program's text (the seventh form; the later family's looks); each row that meets fmt, with fmt's text TOLD by the authors' own Lean function (tested against real Go, not proved from fmt's source: count such statements apart). THE CARD IS WHAT COUNTS. Prove the row's statement (the work); the ties are given (YtcidckmocmdijaaDoorTie.lean); close each card by the builder's one call (the guide's Derived/Test/ToyasCard.lean, 'card_holds'). Laid BY PROGRAM, IN A SANDBOX (cutbox-door.mjs). By AI agents, Wed Nov 11 2026. No macro, syntax, notation, axiom, sorry.
-/
import Derived.Test.YtcidckmocmdijaaDoorRows
import GoSem.ClaimSeven
namespace Go.Proofs.YtcidckmocmdijaaDoor
namespace Rows

/-- THE TIED CARD OF 'laws.FnDecodes'. -/
def fnDecodesCard : Claim7 := { stood := { row := fnDecodesRow, standIns := [], harness := (true, "aed1f795ef2885124d2bbed222f042d4b2f8db40b815c61be79e51ae3e925db3"), looks := false }, kinds := [], alts := [], laidByText := true, laidKinds := [.data], laidTests := true, laidLooks := .later }
def FnDecodesCardSaid : Prop := Claim7.holds Tryd.pinned (.plain (OpenSpec.ofChange fnDecodesSpec)) fnDecodesCard

/-- THE SECOND FORM's CARD OF 'laws.FnDecodes'. -/
def fnDecodesUptoCard : Claim7 := { stood := { row := fnDecodesUptoRow, standIns := [], harness := (true, "aed1f795ef2885124d2bbed222f042d4b2f8db40b815c61be79e51ae3e925db3"), looks := false }, kinds := [], alts := [], laidByText := true, laidKinds := [.data], laidTests := true, laidLooks := .later }
def FnDecodesUptoCardSaid : Prop := Claim7.holds Tryd.pinned (.plain (OpenSpec.upto fnDecodesSpec)) fnDecodesUptoCard
end Rows
end Go.Proofs.YtcidckmocmdijaaDoor
