/-
  DERIVED. GIVEN WITH THE SEED: THE PROGRAM's TIES (one call each: nine closed facts by the kernel) AND EACH ROW's TIE, after the 31st guide's Derived/Test/Toyas{Tie, Card}.lean. No idea stands in it: it is a product of the set-up. Laid BY PROGRAM, IN A SANDBOX (cutbox-door.mjs). By AI agents, Wed Nov 11 2026. No macro, syntax, notation, axiom, sorry.
-/
import Derived.Test.YtcbhdhmhidpdgaaGreatDoorRows
import Derived.LaidByTextLater
import Derived.SevenTiedAt
import Derived.LaidSub
import Derived.LaidOnce
namespace Go.Proofs.YtcbhdhmhidpdgaaGreatDoor
open Go
set_option maxRecDepth 100000
theorem seatTie1 : Tryz.prog.laidByTextLater [("loop.example/g00335/impl.errTag", Rows.laid_loop_example_g00335_impl_errTag), ("loop.example/g00335/impl.errBound", Rows.laid_loop_example_g00335_impl_errBound), ("loop.example/g00335/impl.errPerm", Rows.laid_loop_example_g00335_impl_errPerm), ("loop.example/g00335/impl.opRows", Rows.laid_loop_example_g00335_impl_opRows)] [.sentinel, .sentinel, .sentinel, .data] true :=
  Program.laidByTextLater_by_one 93 8 93 (by kernel_rfl) (by kernel_rfl) (by kernel_rfl) (by kernel_rfl) (by kernel_rfl) (by kernel_rfl) (fun _ _ => by kernel_rfl)
theorem noOwnUnsafe : Tryz.pinned.checked.prog.headLifts.contains "ownunsafe" = false := by kernel_rfl
theorem tie : Tryz.prog.laidByTextLater [("loop.example/g00335/impl.errTag", Rows.laid_loop_example_g00335_impl_errTag), ("loop.example/g00335/impl.errBound", Rows.laid_loop_example_g00335_impl_errBound), ("loop.example/g00335/impl.errPerm", Rows.laid_loop_example_g00335_impl_errPerm), ("loop.example/g00335/impl.opRows", Rows.laid_loop_example_g00335_impl_opRows)] [.sentinel, .sentinel, .sentinel, .data] true :=
  Program.laidByTextLater.sub seatTie1 ["loop.example/g00335/impl.errTag", "loop.example/g00335/impl.errBound", "loop.example/g00335/impl.errPerm", "loop.example/g00335/impl.opRows"] (by kernel_rfl) (by kernel_rfl)
theorem fnMismatch_row_tie : Rows.fnMismatchRow.laidByTextAt .later Tryz.pinned [.sentinel, .sentinel, .sentinel, .data] true :=
  OpenClaim.laidByTextAt_later rfl rfl tie noOwnUnsafe
theorem fnMismatchUpto_row_tie : Rows.fnMismatchUptoRow.laidByTextAt .later Tryz.pinned [.sentinel, .sentinel, .sentinel, .data] true :=
  OpenClaim.laidByTextAt_later rfl rfl tie noOwnUnsafe
end Go.Proofs.YtcbhdhmhidpdgaaGreatDoor
