/-
  DERIVED. GIVEN WITH THE SEED: THE PROGRAM's TIES (one call each: nine closed facts by the kernel) AND EACH ROW's TIE, after the 31st guide's Derived/Test/Toyas{Tie, Card}.lean. No idea stands in it: it is a product of the set-up. Laid BY PROGRAM, IN A SANDBOX (cutbox-door.mjs). By AI agents, Wed Nov 11 2026. No macro, syntax, notation, axiom, sorry.
-/
import Derived.Test.YtljbililjlafcaaGreatDoorRows
import Derived.LaidByTextLater
import Derived.SevenTiedAt
import Derived.LaidSub
import Derived.LaidOnce
namespace Go.Proofs.YtljbililjlafcaaGreatDoor
open Go
set_option maxRecDepth 100000
theorem seatTie1 : Tryz.prog.laidByTextLater [("errors.errorType", Rows.laid_errors_errorType), ("loop.example/g00631/impl.rules", Rows.laid_loop_example_g00631_impl_rules)] [.handle, .wider] true :=
  Program.laidByTextLater_by_one 31 8 36 (by kernel_rfl) (by kernel_rfl) (by kernel_rfl) (by kernel_rfl) (by kernel_rfl) (by kernel_rfl) (fun _ _ => by kernel_rfl)
theorem noOwnUnsafe : Tryz.pinned.checked.prog.headLifts.contains "ownunsafe" = false := by kernel_rfl
theorem tie : Tryz.prog.laidByTextLater [("errors.errorType", Rows.laid_errors_errorType), ("loop.example/g00631/impl.rules", Rows.laid_loop_example_g00631_impl_rules)] [.handle, .wider] true :=
  Program.laidByTextLater.sub seatTie1 ["errors.errorType", "loop.example/g00631/impl.rules"] (by kernel_rfl) (by kernel_rfl)
theorem fnExactIsLater_row_tie : Rows.fnExactIsLaterRow.laidByTextAt .later Tryz.pinned [.handle, .wider] true :=
  OpenClaim.laidByTextAt_later rfl rfl tie noOwnUnsafe
theorem fnExactIsLaterUpto_row_tie : Rows.fnExactIsLaterUptoRow.laidByTextAt .later Tryz.pinned [.handle, .wider] true :=
  OpenClaim.laidByTextAt_later rfl rfl tie noOwnUnsafe
end Go.Proofs.YtljbililjlafcaaGreatDoor
