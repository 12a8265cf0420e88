/-
  DERIVED. GIVEN WITH THE SEED: THE CARDS: each row of YtljbililjlafcaaGreatDoorRows.lean that lists a variable, with what it lists TIED to the program's text (the seventh form; the later family's looks); each row that meets fmt, with fmt's text TOLD by the authors' own Lean function (tested against real Go, not proved from fmt's source: count such statements apart). THE CARD IS WHAT COUNTS. Prove the row's statement (the work); the ties are given (YtljbililjlafcaaGreatDoorTie.lean); close each card by the builder's one call (the guide's Derived/Test/ToyasCard.lean, 'card_holds'). Laid BY PROGRAM, IN A SANDBOX (cutbox-door.mjs). By AI agents, Wed Nov 11 2026. No macro, syntax, notation, axiom, sorry.
-/
import Derived.Test.YtljbililjlafcaaGreatDoorRows
import GoSem.ClaimSeven
namespace Go.Proofs.YtljbililjlafcaaGreatDoor
namespace Rows

/-- THE TIED CARD OF 'laws.FnExactIsLater'. -/
def fnExactIsLaterCard : Claim7 := { stood := { row := fnExactIsLaterRow, standIns := [], harness := (true, "0ff2d6ca60c82efcdae7d72c73af43be0f19bbf581b7d4018f4b8b1fb0f31bcc"), looks := true }, kinds := [], alts := [], laidByText := true, laidKinds := [.handle, .wider], laidTests := true, laidLooks := .later }
def FnExactIsLaterCardSaid : Prop := Claim7.holds Tryz.pinned (.plain (OpenSpec.ofChange fnExactIsLaterSpec)) fnExactIsLaterCard

/-- THE SECOND FORM's CARD OF 'laws.FnExactIsLater'. -/
def fnExactIsLaterUptoCard : Claim7 := { stood := { row := fnExactIsLaterUptoRow, standIns := [], harness := (true, "0ff2d6ca60c82efcdae7d72c73af43be0f19bbf581b7d4018f4b8b1fb0f31bcc"), looks := true }, kinds := [], alts := [], laidByText := true, laidKinds := [.handle, .wider], laidTests := true, laidLooks := .later }
def FnExactIsLaterUptoCardSaid : Prop := Claim7.holds Tryz.pinned (.plain (OpenSpec.upto fnExactIsLaterSpec)) fnExactIsLaterUptoCard
end Rows
end Go.Proofs.YtljbililjlafcaaGreatDoor
