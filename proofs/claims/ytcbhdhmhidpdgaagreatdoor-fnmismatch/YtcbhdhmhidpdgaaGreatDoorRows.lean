/-
  NARROWER THAN 'FOR EVERY INPUT', by the rows' own cells (each row's printed sentence says how): FnMismatch: ifaces, laid.
  DERIVED. THE GIVEN ROWS OF THIS SEAT. 1 by the template 'for every input the law returns true; each argument reads behind the call as it read before'; 0 by the template 'total and deterministic' (their statements: YtcbhdhmhidpdgaaGreatDoorTotals.lean).
  GIVEN WITH THE SEED: the statements are not yours to turn. If you find one false, say at which input.
  Laid BY PROGRAM, IN A SANDBOX (cutbox-rows.mjs): the forced cells as the released guide's own fill.sh prints them over the translation 1e29e5f311e99d34… (all of the seat's roots in one cut). By AI agents, Wed Nov 11 2026. No macro, syntax, notation, axiom, sorry.
-/
import Derived.Test.YtcbhdhmhidpdgaaGreatDoorChecked
import GoSem.Claim
import GoSem.ClaimJoined
import GoSem.ClaimMapViews
import Derived.JoinedTies
import Derived.KernelRfl
namespace Go.Proofs.YtcbhdhmhidpdgaaGreatDoor
/- THE CELL 'sum', in the pinned program and in every row, IS THE sha256 OF THE DUMP (.gsa) THAT YtcbhdhmhidpdgaaGreatDoorProg.lean LOADS. Nothing in Lean hashes anything: it is a label: what it is worth is what the hold of that sum in a sandbox is worth. -/
noncomputable def Tryz.pinned : Pinned := { name := "ytcbhdhmhidpdgaagreatdoor", sum := "1e29e5f311e99d34fcd1a8a9ff837ed4050a5e096dfaef10fd0673624f408d26", checked := Tryz.checked }
namespace Rows
def none {H : Type} : Left H := { results := [], args := [] }

/- WHAT THE LISTED PACKAGE-LEVEL VARIABLES READ AS WHEN THE CALL BEGINS. Each datum BY PROGRAM (the guide's laid-datum.mjs) off the statement by which the dump's own 'gosem.cut.vars' lays the variable. In a bare row this is a premise. The card (YtcbhdhmhidpdgaaGreatDoorCards.lean) ties it to the program's text. -/
def laid_loop_example_g00335_impl_errTag {H : Type} : DataW H := .iface "*errors.errorString" (.ptr (.agg [.lit (.string [116, 104, 101, 32, 119, 111, 114, 100, 32, 105, 115, 32, 110, 111, 32, 119, 97, 121])]))
def laid_loop_example_g00335_impl_errBound {H : Type} : DataW H := .iface "*errors.errorString" (.ptr (.agg [.lit (.string [116, 104, 101, 32, 119, 97, 121, 32, 100, 111, 101, 115, 32, 110, 111, 116, 32, 108, 101, 97, 100, 32, 116, 111, 32, 97, 32, 119, 111, 114, 100, 32, 116, 104, 101, 114, 101])]))
def laid_loop_example_g00335_impl_errPerm {H : Type} : DataW H := .iface "*errors.errorString" (.ptr (.agg [.lit (.string [116, 104, 101, 32, 119, 97, 121, 32, 108, 97, 99, 107, 115, 32, 116, 104, 101, 32, 112, 101, 114, 109, 105, 115, 115, 105, 111, 110])]))
def laid_loop_example_g00335_impl_opRows {H : Type} : DataW H := .agg [.agg [.lit (.bool false), .lit (.bool false), .lit (.bool false), .lit (.bool false)], .agg [.lit (.bool true), .lit (.bool true), .lit (.bool false), .lit (.bool false)], .agg [.lit (.bool true), .lit (.bool true), .lit (.bool true), .lit (.bool false)], .agg [.lit (.bool true), .lit (.bool true), .lit (.bool true), .lit (.bool true)], .agg [.lit (.bool true), .lit (.bool true), .lit (.bool true), .lit (.bool false)], .agg [.lit (.bool true), .lit (.bool true), .lit (.bool true), .lit (.bool false)], .agg [.lit (.bool true), .lit (.bool true), .lit (.bool true), .lit (.bool true)], .agg [.lit (.bool true), .lit (.bool true), .lit (.bool true), .lit (.bool true)], .agg [.lit (.bool true), .lit (.bool true), .lit (.bool true), .lit (.bool false)], .agg [.lit (.bool true), .lit (.bool true), .lit (.bool true), .lit (.bool false)], .agg [.lit (.bool true), .lit (.bool true), .lit (.bool true), .lit (.bool false)], .agg [.lit (.bool true), .lit (.bool true), .lit (.bool true), .lit (.bool true)], .agg [.lit (.bool true), .lit (.bool true), .lit (.bool false), .lit (.bool false)], .agg [.lit (.bool true), .lit (.bool false), .lit (.bool false), .lit (.bool false)], .agg [.lit (.bool true), .lit (.bool true), .lit (.bool false), .lit (.bool false)], .agg [.lit (.bool true), .lit (.bool true), .lit (.bool false), .lit (.bool false)], .agg [.lit (.bool true), .lit (.bool true), .lit (.bool false), .lit (.bool false)], .agg [.lit (.bool true), .lit (.bool true), .lit (.bool false), .lit (.bool false)], .agg [.lit (.bool true), .lit (.bool false), .lit (.bool false), .lit (.bool false)], .agg [.lit (.bool true), .lit (.bool true), .lit (.bool false), .lit (.bool false)], .agg [.lit (.bool true), .lit (.bool false), .lit (.bool false), .lit (.bool false)], .agg [.lit (.bool true), .lit (.bool true), .lit (.bool false), .lit (.bool false)], .agg [.lit (.bool true), .lit (.bool true), .lit (.bool false), .lit (.bool false)]]

/-- 'laws.FnMismatch': WHATEVER THE INPUT: true; the input reads as it did. -/
def fnMismatchSpec : ChangeSpec := { name := "fnMismatch", vars := ["loop.example/g00335/impl.errPerm", "loop.example/g00335/impl.errTag", "loop.example/g00335/impl.errBound", "loop.example/g00335/impl.opRows"], fn := fun _ => fun
  | [d, g1, g2, g3, g4] => { results := [.lit (.bool true)], args := [d], vars := [g1, g2, g3, g4] }
  | _ => none }
def fnMismatchRow : OpenClaim := { program := "ytcbhdhmhidpdgaagreatdoor", sum := "1e29e5f311e99d34fcd1a8a9ff837ed4050a5e096dfaef10fd0673624f408d26", func := "loop.example/g00335/laws.FnMismatch", spec := "fnMismatch", inPlace := ["internal/reflectlite.TypeOf"], unfollowed := true, recurses := true, named := ["loop.example/g00335/impl.errPerm", "loop.example/g00335/impl.errTag", "loop.example/g00335/impl.errBound", "loop.example/g00335/impl.opRows"], ifaces := true, apart := false, laid := [("loop.example/g00335/impl.errTag", laid_loop_example_g00335_impl_errTag), ("loop.example/g00335/impl.errBound", laid_loop_example_g00335_impl_errBound), ("loop.example/g00335/impl.errPerm", laid_loop_example_g00335_impl_errPerm), ("loop.example/g00335/impl.opRows", laid_loop_example_g00335_impl_opRows)] }
def FnMismatchSaid : Prop := fnMismatchRow.holds Tryz.pinned (OpenSpec.ofChange fnMismatchSpec)

/-- ITS FALSE NEIGHBOUR: 'it returns false'. Refute it at one input. -/
def fnMismatchWrong : ChangeSpec := { name := "fnMismatch", vars := ["loop.example/g00335/impl.errPerm", "loop.example/g00335/impl.errTag", "loop.example/g00335/impl.errBound", "loop.example/g00335/impl.opRows"], fn := fun _ => fun
  | [d, g1, g2, g3, g4] => { results := [.lit (.bool false)], args := [d], vars := [g1, g2, g3, g4] }
  | _ => none }
def FnMismatchWrongFalsely : Prop := fnMismatchRow.holds Tryz.pinned (OpenSpec.ofChange fnMismatchWrong)

/- THE SECOND FORM. 'bulk': how many values and letters a reading holds, each counted each time it is reached (what is shared counts as often as it is met; a slice's spare places count too). A statement '..UptoSaid' is the law's where the arguments, and the package variables that the reading takes, are together of bulk at most 1048576: NARROWER than '..Said'. Prove '..Said' where nothing that the law and all that it calls make is longer than what came in: it says more and counts as full. Else prove '..UptoSaid'. A law counts once. -/
mutual
def uptoBulk {H : Type} : DataW H → Nat
  | .lit (.string bytes) => bytes.length + 1
  | .lit _ => 1
  | .nil => 1
  | .ptr d => uptoBulk d + 1
  | .slice elems spare => uptoBulkAll elems + uptoBulkAll spare + 1
  | .agg parts => uptoBulkAll parts + 1
  | .iface _ d => uptoBulk d + 1
  | .map entries => uptoBulkEntries entries + 1
  | .held _ => 1
def uptoBulkAll {H : Type} : List (DataW H) → Nat
  | [] => 0
  | d :: r => uptoBulk d + uptoBulkAll r
def uptoBulkEntries {H : Type} : List (Lit × DataW H) → Nat
  | [] => 0
  | x :: r => uptoBulkEntry x + uptoBulkEntries r
def uptoBulkEntry {H : Type} : Lit × DataW H → Nat
  | (.string bytes, d) => bytes.length + uptoBulk d + 1
  | (_, d) => uptoBulk d + 1
 end
def uptoSmall : (H : Type) → List (DataW H) → Bool := fun _ ds => decide (uptoBulkAll ds ≤ 1048576)
def OpenSpec.upto (s : _root_.Go.ChangeSpec) : _root_.Go.OpenSpec := { _root_.Go.OpenSpec.ofChange s with cond := some uptoSmall }

/-- 'laws.FnMismatch', WHERE WHAT IT READS IS OF BULK AT MOST 1048576: true; the input reads as it did. -/
def fnMismatchUptoRow : OpenClaim := { program := "ytcbhdhmhidpdgaagreatdoor", sum := "1e29e5f311e99d34fcd1a8a9ff837ed4050a5e096dfaef10fd0673624f408d26", func := "loop.example/g00335/laws.FnMismatch", spec := "fnMismatch", inPlace := ["internal/reflectlite.TypeOf"], unfollowed := true, recurses := true, named := ["loop.example/g00335/impl.errPerm", "loop.example/g00335/impl.errTag", "loop.example/g00335/impl.errBound", "loop.example/g00335/impl.opRows"], ifaces := true, apart := false, laid := [("loop.example/g00335/impl.errTag", laid_loop_example_g00335_impl_errTag), ("loop.example/g00335/impl.errBound", laid_loop_example_g00335_impl_errBound), ("loop.example/g00335/impl.errPerm", laid_loop_example_g00335_impl_errPerm), ("loop.example/g00335/impl.opRows", laid_loop_example_g00335_impl_opRows)], narrowed := true }
def FnMismatchUptoSaid : Prop := fnMismatchUptoRow.holds Tryz.pinned (OpenSpec.upto fnMismatchSpec)

end Rows
end Go.Proofs.YtcbhdhmhidpdgaaGreatDoor
