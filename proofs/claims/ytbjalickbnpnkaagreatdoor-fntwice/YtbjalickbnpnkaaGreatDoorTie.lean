/-
  DERIVED. GIVEN WITH THE SEED: THE PROGRAM's TIES (one call each: nine closed facts by the kernel) AND EACH ROW's TIE, after the 31st guide's Derived/Test/Toyas{Tie, Card}.lean. No idea stands in it: it is a product of the set-up. Laid BY PROGRAM, IN A SANDBOX (cutbox-door.mjs). By AI agents, Wed Nov 11 2026. No macro, syntax, notation, axiom, sorry.
-/
import Derived.Test.YtbjalickbnpnkaaGreatDoorRows
import Derived.LaidByTextLater
import Derived.SevenTiedAt
import Derived.LaidSub
import Derived.LaidOnce
namespace Go.Proofs.YtbjalickbnpnkaaGreatDoor
open Go
set_option maxRecDepth 100000
theorem seatTie1 : Tryz.prog.laidByTextLater [("errors.errorType", Rows.laid_errors_errorType), ("loop.example/g00319/impl.errNoElement", Rows.laid_loop_example_g00319_impl_errNoElement), ("loop.example/g00319/impl.errLength", Rows.laid_loop_example_g00319_impl_errLength), ("loop.example/g00319/impl.errLong", Rows.laid_loop_example_g00319_impl_errLong), ("loop.example/g00319/impl.errEnd", Rows.laid_loop_example_g00319_impl_errEnd), ("loop.example/g00319/impl.errRule", Rows.laid_loop_example_g00319_impl_errRule)] [.handle, .sentinel, .sentinel, .sentinel, .sentinel, .sentinel] true :=
  Program.laidByTextLater_by_one 111 8 2 (by kernel_rfl) (by kernel_rfl) (by kernel_rfl) (by kernel_rfl) (by kernel_rfl) (by kernel_rfl) (fun _ _ => by kernel_rfl)
theorem noOwnUnsafe : Tryz.pinned.checked.prog.headLifts.contains "ownunsafe" = false := by kernel_rfl
theorem tie : Tryz.prog.laidByTextLater [("errors.errorType", Rows.laid_errors_errorType), ("loop.example/g00319/impl.errNoElement", Rows.laid_loop_example_g00319_impl_errNoElement), ("loop.example/g00319/impl.errLength", Rows.laid_loop_example_g00319_impl_errLength), ("loop.example/g00319/impl.errLong", Rows.laid_loop_example_g00319_impl_errLong), ("loop.example/g00319/impl.errEnd", Rows.laid_loop_example_g00319_impl_errEnd), ("loop.example/g00319/impl.errRule", Rows.laid_loop_example_g00319_impl_errRule)] [.handle, .sentinel, .sentinel, .sentinel, .sentinel, .sentinel] true :=
  Program.laidByTextLater.sub seatTie1 ["errors.errorType", "loop.example/g00319/impl.errNoElement", "loop.example/g00319/impl.errLength", "loop.example/g00319/impl.errLong", "loop.example/g00319/impl.errEnd", "loop.example/g00319/impl.errRule"] (by kernel_rfl) (by kernel_rfl)
theorem fnTwice_row_tie : Rows.fnTwiceRow.laidByTextAt .later Tryz.pinned [.handle, .sentinel, .sentinel, .sentinel, .sentinel, .sentinel] true :=
  OpenClaim.laidByTextAt_later rfl rfl tie noOwnUnsafe
theorem fnTwiceUpto_row_tie : Rows.fnTwiceUptoRow.laidByTextAt .later Tryz.pinned [.handle, .sentinel, .sentinel, .sentinel, .sentinel, .sentinel] true :=
  OpenClaim.laidByTextAt_later rfl rfl tie noOwnUnsafe
end Go.Proofs.YtbjalickbnpnkaaGreatDoor
