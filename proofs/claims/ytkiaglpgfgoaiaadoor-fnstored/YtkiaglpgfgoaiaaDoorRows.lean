/-
  NARROWER THAN 'FOR EVERY INPUT', by the rows' own cells (each row's printed sentence says how): FnStored: ifaces, laid.
  DERIVED. THE GIVEN ROWS OF THIS SEAT. 1 by the template 'for every input the law returns true; each argument reads behind the call as it read before'; 0 by the template 'total and deterministic' (their statements: YtkiaglpgfgoaiaaDoorTotals.lean).
  GIVEN WITH THE SEED: the statements are not yours to turn. If you find one false, say at which input.
  Laid BY PROGRAM, IN A SANDBOX (cutbox-rows.mjs): the forced cells as the released guide's own fill.sh prints them over the translation 73f48789568f6e27… (all of the seat's roots in one cut). By AI agents, Wed Nov 11 2026. No macro, syntax, notation, axiom, sorry.
-/
import Derived.Test.YtkiaglpgfgoaiaaDoorChecked
import GoSem.Claim
import GoSem.ClaimJoined
import GoSem.ClaimMapViews
import Derived.JoinedTies
import Derived.KernelRfl
namespace Go.Proofs.YtkiaglpgfgoaiaaDoor
/- THE CELL 'sum', in the pinned program and in every row, IS THE sha256 OF THE DUMP (.gsa) THAT YtkiaglpgfgoaiaaDoorProg.lean LOADS. Nothing in Lean hashes anything: it is a label: what it is worth is what the hold of that sum in a sandbox is worth. -/
noncomputable def Tryd.pinned : Pinned := { name := "ytkiaglpgfgoaiaadoor", sum := "73f48789568f6e27b4690fad49376a3499e4b2854ae03b995cd1c82d3d5253b9", checked := Tryd.checked }
namespace Rows
def none {H : Type} : Left H := { results := [], args := [] }

/- WHAT THE LISTED PACKAGE-LEVEL VARIABLES READ AS WHEN THE CALL BEGINS. Each datum BY PROGRAM (the guide's laid-datum.mjs) off the statement by which the dump's own 'gosem.cut.vars' lays the variable. In a bare row this is a premise. The card (YtkiaglpgfgoaiaaDoorCards.lean) ties it to the program's text. -/
def laid_loop_example_g00335_impl_errTag {H : Type} : DataW H := .iface "*errors.errorString" (.ptr (.agg [.lit (.string [116, 104, 101, 32, 119, 111, 114, 100, 32, 105, 115, 32, 110, 111, 32, 119, 97, 121])]))
def laid_loop_example_g00335_impl_errBound {H : Type} : DataW H := .iface "*errors.errorString" (.ptr (.agg [.lit (.string [116, 104, 101, 32, 119, 97, 121, 32, 100, 111, 101, 115, 32, 110, 111, 116, 32, 108, 101, 97, 100, 32, 116, 111, 32, 97, 32, 119, 111, 114, 100, 32, 116, 104, 101, 114, 101])]))
def laid_loop_example_g00335_impl_errPerm {H : Type} : DataW H := .iface "*errors.errorString" (.ptr (.agg [.lit (.string [116, 104, 101, 32, 119, 97, 121, 32, 108, 97, 99, 107, 115, 32, 116, 104, 101, 32, 112, 101, 114, 109, 105, 115, 115, 105, 111, 110])]))

/-- 'laws.FnStored': WHATEVER THE INPUT: true; the input reads as it did. -/
def fnStoredSpec : ChangeSpec := { name := "fnStored", vars := ["loop.example/g00335/impl.errPerm", "loop.example/g00335/impl.errTag", "loop.example/g00335/impl.errBound"], fn := fun _ => fun
  | [d, g1, g2, g3] => { results := [.lit (.bool true)], args := [d], vars := [g1, g2, g3] }
  | _ => none }
def fnStoredRow : OpenClaim := { program := "ytkiaglpgfgoaiaadoor", sum := "73f48789568f6e27b4690fad49376a3499e4b2854ae03b995cd1c82d3d5253b9", func := "loop.example/g00335/laws.FnStored", spec := "fnStored", inPlace := ["internal/reflectlite.TypeOf"], unfollowed := true, recurses := true, named := ["loop.example/g00335/impl.errPerm", "loop.example/g00335/impl.errTag", "loop.example/g00335/impl.errBound"], ifaces := true, apart := false, laid := [("loop.example/g00335/impl.errTag", laid_loop_example_g00335_impl_errTag), ("loop.example/g00335/impl.errBound", laid_loop_example_g00335_impl_errBound), ("loop.example/g00335/impl.errPerm", laid_loop_example_g00335_impl_errPerm)] }
def FnStoredSaid : Prop := fnStoredRow.holds Tryd.pinned (OpenSpec.ofChange fnStoredSpec)

/-- ITS FALSE NEIGHBOUR: 'it returns false'. Refute it at one input. -/
def fnStoredWrong : ChangeSpec := { name := "fnStored", vars := ["loop.example/g00335/impl.errPerm", "loop.example/g00335/impl.errTag", "loop.example/g00335/impl.errBound"], fn := fun _ => fun
  | [d, g1, g2, g3] => { results := [.lit (.bool false)], args := [d], vars := [g1, g2, g3] }
  | _ => none }
def FnStoredWrongFalsely : Prop := fnStoredRow.holds Tryd.pinned (OpenSpec.ofChange fnStoredWrong)

/- THE SECOND FORM. 'bulk': how many values and letters a reading holds, each counted each time it is reached (what is shared counts as often as it is met; a slice's spare places count too). A statement '..UptoSaid' is the law's where the arguments, and the package variables that the reading takes, are together of bulk at most 1048576: NARROWER than '..Said'. Prove '..Said' where nothing that the law and all that it calls make is longer than what came in: it says more and counts as full. Else prove '..UptoSaid'. A law counts once. -/
mutual
def uptoBulk {H : Type} : DataW H → Nat
  | .lit (.string bytes) => bytes.length + 1
  | .lit _ => 1
  | .nil => 1
  | .ptr d => uptoBulk d + 1
  | .slice elems spare => uptoBulkAll elems + uptoBulkAll spare + 1
  | .agg parts => uptoBulkAll parts + 1
  | .iface _ d => uptoBulk d + 1
  | .map entries => uptoBulkEntries entries + 1
  | .held _ => 1
def uptoBulkAll {H : Type} : List (DataW H) → Nat
  | [] => 0
  | d :: r => uptoBulk d + uptoBulkAll r
def uptoBulkEntries {H : Type} : List (Lit × DataW H) → Nat
  | [] => 0
  | x :: r => uptoBulkEntry x + uptoBulkEntries r
def uptoBulkEntry {H : Type} : Lit × DataW H → Nat
  | (.string bytes, d) => bytes.length + uptoBulk d + 1
  | (_, d) => uptoBulk d + 1
 end
def uptoSmall : (H : Type) → List (DataW H) → Bool := fun _ ds => decide (uptoBulkAll ds ≤ 1048576)
def OpenSpec.upto (s : _root_.Go.ChangeSpec) : _root_.Go.OpenSpec := { _root_.Go.OpenSpec.ofChange s with cond := some uptoSmall }

/-- 'laws.FnStored', WHERE WHAT IT READS IS OF BULK AT MOST 1048576: true; the input reads as it did. -/
def fnStoredUptoRow : OpenClaim := { program := "ytkiaglpgfgoaiaadoor", sum := "73f48789568f6e27b4690fad49376a3499e4b2854ae03b995cd1c82d3d5253b9", func := "loop.example/g00335/laws.FnStored", spec := "fnStored", inPlace := ["internal/reflectlite.TypeOf"], unfollowed := true, recurses := true, named := ["loop.example/g00335/impl.errPerm", "loop.example/g00335/impl.errTag", "loop.example/g00335/impl.errBound"], ifaces := true, apart := false, laid := [("loop.example/g00335/impl.errTag", laid_loop_example_g00335_impl_errTag), ("loop.example/g00335/impl.errBound", laid_loop_example_g00335_impl_errBound), ("loop.example/g00335/impl.errPerm", laid_loop_example_g00335_impl_errPerm)], narrowed := true }
def FnStoredUptoSaid : Prop := fnStoredUptoRow.holds Tryd.pinned (OpenSpec.upto fnStoredSpec)

end Rows
end Go.Proofs.YtkiaglpgfgoaiaaDoor
