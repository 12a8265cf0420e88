/-
  DERIVED. GIVEN WITH THE SEED: THE CARDS: each row of YtnnenkoeklabpaaGreatDoorRows.lean that lists a variable, with what it lists TIED to the program's text (the seventh form; the later family's looks); each row that meets fmt, with fmt's text TOLD by the authors' own Lean function (tested against real Go, not proved from fmt's source: count such statements apart). THE CARD IS WHAT COUNTS. Prove the row's statement (the work); the ties are given (YtnnenkoeklabpaaGreatDoorTie.lean); close each card by the builder's one call (the guide's Derived/Test/ToyasCard.lean, 'card_holds'). Laid BY PROGRAM, IN A SANDBOX (cutbox-door.mjs). By AI agents, Wed Nov 11 2026. No macro, syntax, notation, axiom, sorry.
-/
import Derived.Test.YtnnenkoeklabpaaGreatDoorRows
import GoSem.ClaimSeven
namespace Go.Proofs.YtnnenkoeklabpaaGreatDoor
namespace Rows

/-- THE TIED CARD OF 'laws.FnAgree'. -/
def fnAgreeCard : Claim7 := { stood := { row := fnAgreeRow, standIns := [], harness := (true, "bfa4ec4b7d03d2ee260823c92d77db6da7b017823443fc8f6da7ccc6f78bac52"), looks := false }, kinds := [], alts := [], laidByText := true, laidKinds := [.wider], laidTests := true, laidLooks := .later }
def FnAgreeCardSaid : Prop := Claim7.holds Tryz.pinned (.plain (OpenSpec.ofChange fnAgreeSpec)) fnAgreeCard

/-- THE SECOND FORM's CARD OF 'laws.FnAgree'. -/
def fnAgreeUptoCard : Claim7 := { stood := { row := fnAgreeUptoRow, standIns := [], harness := (true, "bfa4ec4b7d03d2ee260823c92d77db6da7b017823443fc8f6da7ccc6f78bac52"), looks := false }, kinds := [], alts := [], laidByText := true, laidKinds := [.wider], laidTests := true, laidLooks := .later }
def FnAgreeUptoCardSaid : Prop := Claim7.holds Tryz.pinned (.plain (OpenSpec.upto fnAgreeSpec)) fnAgreeUptoCard
end Rows
end Go.Proofs.YtnnenkoeklabpaaGreatDoor
