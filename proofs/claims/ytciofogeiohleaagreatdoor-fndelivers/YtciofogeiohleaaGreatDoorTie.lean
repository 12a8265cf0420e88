/-
  DERIVED. GIVEN WITH THE SEED: THE PROGRAM's TIES (one call each: nine closed facts by the kernel) AND EACH ROW's TIE, after the 31st guide's Derived/Test/Toyas{Tie, Card}.lean. No idea stands in it: it is a product of the set-up. Laid BY PROGRAM, IN A SANDBOX (cutbox-door.mjs). By AI agents, Wed Nov 11 2026. No macro, syntax, notation, axiom, sorry.
-/
import Derived.Test.YtciofogeiohleaaGreatDoorRows
import Derived.LaidByTextLater
import Derived.SevenTiedAt
import Derived.LaidSub
import Derived.LaidOnce
namespace Go.Proofs.YtciofogeiohleaaGreatDoor
open Go
set_option maxRecDepth 100000
theorem seatTie1 : Tryz.prog.laidByTextLater [("errors.errorType", Rows.laid_errors_errorType), ("loop.example/g00631/impl.rules", Rows.laid_loop_example_g00631_impl_rules), ("loop.example/g00631/impl.openRow", Rows.laid_loop_example_g00631_impl_openRow)] [.handle, .wider, .data] true :=
  Program.laidByTextLater_by_one 36 8 36 (by kernel_rfl) (by kernel_rfl) (by kernel_rfl) (by kernel_rfl) (by kernel_rfl) (by kernel_rfl) (fun _ _ => by kernel_rfl)
theorem noOwnUnsafe : Tryz.pinned.checked.prog.headLifts.contains "ownunsafe" = false := by kernel_rfl
theorem tie : Tryz.prog.laidByTextLater [("loop.example/g00631/impl.rules", Rows.laid_loop_example_g00631_impl_rules), ("loop.example/g00631/impl.openRow", Rows.laid_loop_example_g00631_impl_openRow)] [.wider, .data] true :=
  Program.laidByTextLater.sub seatTie1 ["loop.example/g00631/impl.rules", "loop.example/g00631/impl.openRow"] (by kernel_rfl) (by kernel_rfl)
theorem fnOrders_row_tie : Rows.fnOrdersRow.laidByTextAt .later Tryz.pinned [.wider, .data] true :=
  OpenClaim.laidByTextAt_later rfl rfl tie noOwnUnsafe
theorem tie2 : Tryz.prog.laidByTextLater [("loop.example/g00631/impl.rules", Rows.laid_loop_example_g00631_impl_rules)] [.wider] true :=
  Program.laidByTextLater.sub seatTie1 ["loop.example/g00631/impl.rules"] (by kernel_rfl) (by kernel_rfl)
theorem fnChanges_row_tie : Rows.fnChangesRow.laidByTextAt .later Tryz.pinned [.wider] true :=
  OpenClaim.laidByTextAt_later rfl rfl tie2 noOwnUnsafe
theorem tie3 : Tryz.prog.laidByTextLater [("errors.errorType", Rows.laid_errors_errorType)] [.handle] true :=
  Program.laidByTextLater.sub seatTie1 ["errors.errorType"] (by kernel_rfl) (by kernel_rfl)
theorem fnDelivers_row_tie : Rows.fnDeliversRow.laidByTextAt .later Tryz.pinned [.handle] true :=
  OpenClaim.laidByTextAt_later rfl rfl tie3 noOwnUnsafe
theorem fnOrdersUpto_row_tie : Rows.fnOrdersUptoRow.laidByTextAt .later Tryz.pinned [.wider, .data] true :=
  OpenClaim.laidByTextAt_later rfl rfl tie noOwnUnsafe
theorem fnChangesUpto_row_tie : Rows.fnChangesUptoRow.laidByTextAt .later Tryz.pinned [.wider] true :=
  OpenClaim.laidByTextAt_later rfl rfl tie2 noOwnUnsafe
theorem fnDeliversUpto_row_tie : Rows.fnDeliversUptoRow.laidByTextAt .later Tryz.pinned [.handle] true :=
  OpenClaim.laidByTextAt_later rfl rfl tie3 noOwnUnsafe
end Go.Proofs.YtciofogeiohleaaGreatDoor
