/-
  DERIVED. GIVEN WITH THE SEED: THE CARDS: each row of YthmcgflmejofbaaGreatDoorRows.lean that lists a variable, with what it lists TIED to the program's text (the seventh form; the later family's looks); each row that meets fmt, with fmt's text TOLD by the authors' own Lean function (tested against real Go, not proved from fmt's source: count such statements apart). THE CARD IS WHAT COUNTS. Prove the row's statement (the work); the ties are given (YthmcgflmejofbaaGreatDoorTie.lean); close each card by the builder's one call (the guide's Derived/Test/ToyasCard.lean, 'card_holds'). Laid BY PROGRAM, IN A SANDBOX (cutbox-door.mjs). By AI agents, Wed Nov 11 2026. No macro, syntax, notation, axiom, sorry.
-/
import Derived.Test.YthmcgflmejofbaaGreatDoorRows
import GoSem.ClaimSeven
namespace Go.Proofs.YthmcgflmejofbaaGreatDoor
namespace Rows

/-- THE TIED CARD OF 'laws.FnOpts'. -/
def fnOptsCard : Claim7 := { stood := { row := fnOptsRow, standIns := [], harness := (true, "28222ac9bfcc10810685782b87c9ab95a8973414062f773e2ad0c9c5e5153777"), looks := true }, kinds := [], alts := [], laidByText := true, laidKinds := [.handle], laidTests := true, laidLooks := .later }
def FnOptsCardSaid : Prop := Claim7.holds Tryz.pinned (.plain (OpenSpec.ofChange fnOptsSpec)) fnOptsCard

/-- THE TIED CARD OF 'laws.FnDelivers'. -/
def fnDeliversCard : Claim7 := { stood := { row := fnDeliversRow, standIns := [], harness := (true, "28222ac9bfcc10810685782b87c9ab95a8973414062f773e2ad0c9c5e5153777"), looks := true }, kinds := [], alts := [], laidByText := true, laidKinds := [.handle], laidTests := true, laidLooks := .later }
def FnDeliversCardSaid : Prop := Claim7.holds Tryz.pinned (.plain (OpenSpec.ofChange fnDeliversSpec)) fnDeliversCard

/-- THE TIED CARD OF 'laws.FnReplies'. -/
def fnRepliesCard : Claim7 := { stood := { row := fnRepliesRow, standIns := [], harness := (true, "28222ac9bfcc10810685782b87c9ab95a8973414062f773e2ad0c9c5e5153777"), looks := true }, kinds := [], alts := [], laidByText := true, laidKinds := [.handle], laidTests := true, laidLooks := .later }
def FnRepliesCardSaid : Prop := Claim7.holds Tryz.pinned (.plain (OpenSpec.ofChange fnRepliesSpec)) fnRepliesCard

/-- THE TIED CARD OF 'laws.FnExactReplicaFault'. -/
def fnExactReplicaFaultCard : Claim7 := { stood := { row := fnExactReplicaFaultRow, standIns := [], harness := (true, "28222ac9bfcc10810685782b87c9ab95a8973414062f773e2ad0c9c5e5153777"), looks := true }, kinds := [], alts := [], laidByText := true, laidKinds := [.handle], laidTests := true, laidLooks := .later }
def FnExactReplicaFaultCardSaid : Prop := Claim7.holds Tryz.pinned (.plain (OpenSpec.ofChange fnExactReplicaFaultSpec)) fnExactReplicaFaultCard

/-- THE TIED CARD OF 'laws.FnExactOptDeliver'. -/
def fnExactOptDeliverCard : Claim7 := { stood := { row := fnExactOptDeliverRow, standIns := [], harness := (true, "28222ac9bfcc10810685782b87c9ab95a8973414062f773e2ad0c9c5e5153777"), looks := true }, kinds := [], alts := [], laidByText := true, laidKinds := [.handle], laidTests := true, laidLooks := .later }
def FnExactOptDeliverCardSaid : Prop := Claim7.holds Tryz.pinned (.plain (OpenSpec.ofChange fnExactOptDeliverSpec)) fnExactOptDeliverCard

/-- THE TIED CARD OF 'laws.FnExactDeliver'. -/
def fnExactDeliverCard : Claim7 := { stood := { row := fnExactDeliverRow, standIns := [], harness := (true, "28222ac9bfcc10810685782b87c9ab95a8973414062f773e2ad0c9c5e5153777"), looks := true }, kinds := [], alts := [], laidByText := true, laidKinds := [.handle], laidTests := true, laidLooks := .later }
def FnExactDeliverCardSaid : Prop := Claim7.holds Tryz.pinned (.plain (OpenSpec.ofChange fnExactDeliverSpec)) fnExactDeliverCard

/-- THE TIED CARD OF 'laws.FnExactFinalOf'. -/
def fnExactFinalOfCard : Claim7 := { stood := { row := fnExactFinalOfRow, standIns := [], harness := (true, "28222ac9bfcc10810685782b87c9ab95a8973414062f773e2ad0c9c5e5153777"), looks := true }, kinds := [], alts := [], laidByText := true, laidKinds := [.handle], laidTests := true, laidLooks := .later }
def FnExactFinalOfCardSaid : Prop := Claim7.holds Tryz.pinned (.plain (OpenSpec.ofChange fnExactFinalOfSpec)) fnExactFinalOfCard

/-- THE TIED CARD OF 'laws.FnExactTentOf'. -/
def fnExactTentOfCard : Claim7 := { stood := { row := fnExactTentOfRow, standIns := [], harness := (true, "28222ac9bfcc10810685782b87c9ab95a8973414062f773e2ad0c9c5e5153777"), looks := true }, kinds := [], alts := [], laidByText := true, laidKinds := [.handle], laidTests := true, laidLooks := .later }
def FnExactTentOfCardSaid : Prop := Claim7.holds Tryz.pinned (.plain (OpenSpec.ofChange fnExactTentOfSpec)) fnExactTentOfCard

/-- THE TIED CARD OF 'laws.FnExactDropTent'. -/
def fnExactDropTentCard : Claim7 := { stood := { row := fnExactDropTentRow, standIns := [], harness := (true, "28222ac9bfcc10810685782b87c9ab95a8973414062f773e2ad0c9c5e5153777"), looks := true }, kinds := [], alts := [], laidByText := true, laidKinds := [.handle], laidTests := true, laidLooks := .later }
def FnExactDropTentCardSaid : Prop := Claim7.holds Tryz.pinned (.plain (OpenSpec.ofChange fnExactDropTentSpec)) fnExactDropTentCard

/-- THE SECOND FORM's CARD OF 'laws.FnOpts'. -/
def fnOptsUptoCard : Claim7 := { stood := { row := fnOptsUptoRow, standIns := [], harness := (true, "28222ac9bfcc10810685782b87c9ab95a8973414062f773e2ad0c9c5e5153777"), looks := true }, kinds := [], alts := [], laidByText := true, laidKinds := [.handle], laidTests := true, laidLooks := .later }
def FnOptsUptoCardSaid : Prop := Claim7.holds Tryz.pinned (.plain (OpenSpec.upto fnOptsSpec)) fnOptsUptoCard

/-- THE SECOND FORM's CARD OF 'laws.FnDelivers'. -/
def fnDeliversUptoCard : Claim7 := { stood := { row := fnDeliversUptoRow, standIns := [], harness := (true, "28222ac9bfcc10810685782b87c9ab95a8973414062f773e2ad0c9c5e5153777"), looks := true }, kinds := [], alts := [], laidByText := true, laidKinds := [.handle], laidTests := true, laidLooks := .later }
def FnDeliversUptoCardSaid : Prop := Claim7.holds Tryz.pinned (.plain (OpenSpec.upto fnDeliversSpec)) fnDeliversUptoCard

/-- THE SECOND FORM's CARD OF 'laws.FnReplies'. -/
def fnRepliesUptoCard : Claim7 := { stood := { row := fnRepliesUptoRow, standIns := [], harness := (true, "28222ac9bfcc10810685782b87c9ab95a8973414062f773e2ad0c9c5e5153777"), looks := true }, kinds := [], alts := [], laidByText := true, laidKinds := [.handle], laidTests := true, laidLooks := .later }
def FnRepliesUptoCardSaid : Prop := Claim7.holds Tryz.pinned (.plain (OpenSpec.upto fnRepliesSpec)) fnRepliesUptoCard

/-- THE SECOND FORM's CARD OF 'laws.FnExactReplicaFault'. -/
def fnExactReplicaFaultUptoCard : Claim7 := { stood := { row := fnExactReplicaFaultUptoRow, standIns := [], harness := (true, "28222ac9bfcc10810685782b87c9ab95a8973414062f773e2ad0c9c5e5153777"), looks := true }, kinds := [], alts := [], laidByText := true, laidKinds := [.handle], laidTests := true, laidLooks := .later }
def FnExactReplicaFaultUptoCardSaid : Prop := Claim7.holds Tryz.pinned (.plain (OpenSpec.upto fnExactReplicaFaultSpec)) fnExactReplicaFaultUptoCard

/-- THE SECOND FORM's CARD OF 'laws.FnExactOptDeliver'. -/
def fnExactOptDeliverUptoCard : Claim7 := { stood := { row := fnExactOptDeliverUptoRow, standIns := [], harness := (true, "28222ac9bfcc10810685782b87c9ab95a8973414062f773e2ad0c9c5e5153777"), looks := true }, kinds := [], alts := [], laidByText := true, laidKinds := [.handle], laidTests := true, laidLooks := .later }
def FnExactOptDeliverUptoCardSaid : Prop := Claim7.holds Tryz.pinned (.plain (OpenSpec.upto fnExactOptDeliverSpec)) fnExactOptDeliverUptoCard

/-- THE SECOND FORM's CARD OF 'laws.FnExactDeliver'. -/
def fnExactDeliverUptoCard : Claim7 := { stood := { row := fnExactDeliverUptoRow, standIns := [], harness := (true, "28222ac9bfcc10810685782b87c9ab95a8973414062f773e2ad0c9c5e5153777"), looks := true }, kinds := [], alts := [], laidByText := true, laidKinds := [.handle], laidTests := true, laidLooks := .later }
def FnExactDeliverUptoCardSaid : Prop := Claim7.holds Tryz.pinned (.plain (OpenSpec.upto fnExactDeliverSpec)) fnExactDeliverUptoCard

/-- THE SECOND FORM's CARD OF 'laws.FnExactFinalOf'. -/
def fnExactFinalOfUptoCard : Claim7 := { stood := { row := fnExactFinalOfUptoRow, standIns := [], harness := (true, "28222ac9bfcc10810685782b87c9ab95a8973414062f773e2ad0c9c5e5153777"), looks := true }, kinds := [], alts := [], laidByText := true, laidKinds := [.handle], laidTests := true, laidLooks := .later }
def FnExactFinalOfUptoCardSaid : Prop := Claim7.holds Tryz.pinned (.plain (OpenSpec.upto fnExactFinalOfSpec)) fnExactFinalOfUptoCard

/-- THE SECOND FORM's CARD OF 'laws.FnExactTentOf'. -/
def fnExactTentOfUptoCard : Claim7 := { stood := { row := fnExactTentOfUptoRow, standIns := [], harness := (true, "28222ac9bfcc10810685782b87c9ab95a8973414062f773e2ad0c9c5e5153777"), looks := true }, kinds := [], alts := [], laidByText := true, laidKinds := [.handle], laidTests := true, laidLooks := .later }
def FnExactTentOfUptoCardSaid : Prop := Claim7.holds Tryz.pinned (.plain (OpenSpec.upto fnExactTentOfSpec)) fnExactTentOfUptoCard

/-- THE SECOND FORM's CARD OF 'laws.FnExactDropTent'. -/
def fnExactDropTentUptoCard : Claim7 := { stood := { row := fnExactDropTentUptoRow, standIns := [], harness := (true, "28222ac9bfcc10810685782b87c9ab95a8973414062f773e2ad0c9c5e5153777"), looks := true }, kinds := [], alts := [], laidByText := true, laidKinds := [.handle], laidTests := true, laidLooks := .later }
def FnExactDropTentUptoCardSaid : Prop := Claim7.holds Tryz.pinned (.plain (OpenSpec.upto fnExactDropTentSpec)) fnExactDropTentUptoCard
end Rows
end Go.Proofs.YthmcgflmejofbaaGreatDoor
