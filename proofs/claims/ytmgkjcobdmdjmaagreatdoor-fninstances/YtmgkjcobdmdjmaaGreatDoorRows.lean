/-
  NARROWER THAN 'FOR EVERY INPUT', by the rows' own cells (each row's printed sentence says how): FnInstances: laid · FnChanges: laid · FnExactOrderFault: laid · FnExactDecidedIn: laid · FnExactDefiniteOf: laid · FnExactNextInstance: laid · FnExactChangeLast: laid.
  DERIVED. THE GIVEN ROWS OF THIS SEAT. 7 by the template 'for every input the law returns true; each argument reads behind the call as it read before'; 0 by the template 'total and deterministic' (their statements: YtmgkjcobdmdjmaaGreatDoorTotals.lean).
  GIVEN WITH THE SEED: the statements are not yours to turn. If you find one false, say at which input.
  Laid BY PROGRAM, IN A SANDBOX (cutbox-rows.mjs): the forced cells as the released guide's own fill.sh prints them over the translation 9b45b1ab936213c3… (all of the seat's roots in one cut). By AI agents, Wed Nov 11 2026. No macro, syntax, notation, axiom, sorry.
-/
import Derived.Test.YtmgkjcobdmdjmaaGreatDoorChecked
import GoSem.Claim
import GoSem.ClaimJoined
import GoSem.ClaimMapViews
import Derived.JoinedTies
import Derived.KernelRfl
namespace Go.Proofs.YtmgkjcobdmdjmaaGreatDoor
/- THE CELL 'sum', in the pinned program and in every row, IS THE sha256 OF THE DUMP (.gsa) THAT YtmgkjcobdmdjmaaGreatDoorProg.lean LOADS. Nothing in Lean hashes anything: it is a label: what it is worth is what the hold of that sum in a sandbox is worth. -/
noncomputable def Tryz.pinned : Pinned := { name := "ytmgkjcobdmdjmaagreatdoor", sum := "9b45b1ab936213c32c53109969e49145ad255684d8fc29ac14767fd67a437a4f", checked := Tryz.checked }
namespace Rows
def none {H : Type} : Left H := { results := [], args := [] }

/- WHAT THE LISTED PACKAGE-LEVEL VARIABLES READ AS WHEN THE CALL BEGINS. Each datum BY PROGRAM (the guide's laid-datum.mjs) off the statement by which the dump's own 'gosem.cut.vars' lays the variable. In a bare row this is a premise. The card (YtmgkjcobdmdjmaaGreatDoorCards.lean) ties it to the program's text. -/
def laid_loop_example_g00631_impl_rules {H : Type} : DataW H := .agg [.agg [.lit (.int .i64 2), .lit (.int .i64 0), .lit (.int .i64 0), .agg [.lit (.int .i64 0), .lit (.bool true), .lit (.bool false), .lit (.int .i64 0)]], .agg [.lit (.int .i64 0), .lit (.int .i64 2), .lit (.int .i64 1), .agg [.lit (.int .i64 0), .lit (.bool true), .lit (.bool false), .lit (.int .i64 1)]], .agg [.lit (.int .i64 1), .lit (.int .i64 0), .lit (.int .i64 2), .agg [.lit (.int .i64 0), .lit (.bool false), .lit (.bool false), .lit (.int .i64 0)]], .agg [.lit (.int .i64 0), .lit (.int .i64 1), .lit (.int .i64 2), .agg [.lit (.int .i64 0), .lit (.bool false), .lit (.bool false), .lit (.int .i64 1)]], .agg [.lit (.int .i64 0), .lit (.int .i64 0), .lit (.int .i64 2), .agg [.lit (.int .i64 0), .lit (.bool false), .lit (.bool true), .lit (.int .i64 0)]]]
def laid_loop_example_g00631_impl_openRow {H : Type} : DataW H := .agg [.lit (.int .i64 3), .lit (.int .i64 3), .lit (.int .i64 3)]

/-- 'laws.FnInstances': WHATEVER THE INPUT: true; the input reads as it did. -/
def fnInstancesSpec : ChangeSpec := { name := "fnInstances", vars := ["loop.example/g00631/impl.rules", "loop.example/g00631/impl.openRow"], fn := fun _ => fun
  | [d, g1, g2] => { results := [.lit (.bool true)], args := [d], vars := [g1, g2] }
  | _ => none }
def fnInstancesRow : OpenClaim := { program := "ytmgkjcobdmdjmaagreatdoor", sum := "9b45b1ab936213c32c53109969e49145ad255684d8fc29ac14767fd67a437a4f", func := "loop.example/g00631/laws.FnInstances", spec := "fnInstances", unfollowed := true, recurses := true, named := ["loop.example/g00631/impl.rules", "loop.example/g00631/impl.openRow"], plainKeys := false, apart := false, laid := [("loop.example/g00631/impl.rules", laid_loop_example_g00631_impl_rules), ("loop.example/g00631/impl.openRow", laid_loop_example_g00631_impl_openRow)] }
def FnInstancesSaid : Prop := fnInstancesRow.holds Tryz.pinned (OpenSpec.ofChange fnInstancesSpec)

/-- ITS FALSE NEIGHBOUR: 'it returns false'. Refute it at one input. -/
def fnInstancesWrong : ChangeSpec := { name := "fnInstances", vars := ["loop.example/g00631/impl.rules", "loop.example/g00631/impl.openRow"], fn := fun _ => fun
  | [d, g1, g2] => { results := [.lit (.bool false)], args := [d], vars := [g1, g2] }
  | _ => none }
def FnInstancesWrongFalsely : Prop := fnInstancesRow.holds Tryz.pinned (OpenSpec.ofChange fnInstancesWrong)

/-- 'laws.FnChanges': WHATEVER THE INPUT: true; the input reads as it did. -/
def fnChangesSpec : ChangeSpec := { name := "fnChanges", vars := ["loop.example/g00631/impl.rules"], fn := fun _ => fun
  | [d, g1] => { results := [.lit (.bool true)], args := [d], vars := [g1] }
  | _ => none }
def fnChangesRow : OpenClaim := { program := "ytmgkjcobdmdjmaagreatdoor", sum := "9b45b1ab936213c32c53109969e49145ad255684d8fc29ac14767fd67a437a4f", func := "loop.example/g00631/laws.FnChanges", spec := "fnChanges", unfollowed := true, recurses := true, named := ["loop.example/g00631/impl.rules"], plainKeys := false, apart := false, laid := [("loop.example/g00631/impl.rules", laid_loop_example_g00631_impl_rules)] }
def FnChangesSaid : Prop := fnChangesRow.holds Tryz.pinned (OpenSpec.ofChange fnChangesSpec)

/-- ITS FALSE NEIGHBOUR: 'it returns false'. Refute it at one input. -/
def fnChangesWrong : ChangeSpec := { name := "fnChanges", vars := ["loop.example/g00631/impl.rules"], fn := fun _ => fun
  | [d, g1] => { results := [.lit (.bool false)], args := [d], vars := [g1] }
  | _ => none }
def FnChangesWrongFalsely : Prop := fnChangesRow.holds Tryz.pinned (OpenSpec.ofChange fnChangesWrong)

/-- 'laws.FnExactOrderFault': WHATEVER THE INPUT: true; the input reads as it did. -/
def fnExactOrderFaultSpec : ChangeSpec := { name := "fnExactOrderFault", vars := ["loop.example/g00631/impl.rules"], fn := fun _ => fun
  | [d, g1] => { results := [.lit (.bool true)], args := [d], vars := [g1] }
  | _ => none }
def fnExactOrderFaultRow : OpenClaim := { program := "ytmgkjcobdmdjmaagreatdoor", sum := "9b45b1ab936213c32c53109969e49145ad255684d8fc29ac14767fd67a437a4f", func := "loop.example/g00631/laws.FnExactOrderFault", spec := "fnExactOrderFault", recurses := true, named := ["loop.example/g00631/impl.rules"], plainKeys := false, apart := false, laid := [("loop.example/g00631/impl.rules", laid_loop_example_g00631_impl_rules)] }
def FnExactOrderFaultSaid : Prop := fnExactOrderFaultRow.holds Tryz.pinned (OpenSpec.ofChange fnExactOrderFaultSpec)

/-- ITS FALSE NEIGHBOUR: 'it returns false'. Refute it at one input. -/
def fnExactOrderFaultWrong : ChangeSpec := { name := "fnExactOrderFault", vars := ["loop.example/g00631/impl.rules"], fn := fun _ => fun
  | [d, g1] => { results := [.lit (.bool false)], args := [d], vars := [g1] }
  | _ => none }
def FnExactOrderFaultWrongFalsely : Prop := fnExactOrderFaultRow.holds Tryz.pinned (OpenSpec.ofChange fnExactOrderFaultWrong)

/-- 'laws.FnExactDecidedIn': WHATEVER THE INPUT: true; the input reads as it did. -/
def fnExactDecidedInSpec : ChangeSpec := { name := "fnExactDecidedIn", vars := ["loop.example/g00631/impl.rules"], fn := fun _ => fun
  | [d, g1] => { results := [.lit (.bool true)], args := [d], vars := [g1] }
  | _ => none }
def fnExactDecidedInRow : OpenClaim := { program := "ytmgkjcobdmdjmaagreatdoor", sum := "9b45b1ab936213c32c53109969e49145ad255684d8fc29ac14767fd67a437a4f", func := "loop.example/g00631/laws.FnExactDecidedIn", spec := "fnExactDecidedIn", recurses := true, named := ["loop.example/g00631/impl.rules"], plainKeys := false, apart := false, laid := [("loop.example/g00631/impl.rules", laid_loop_example_g00631_impl_rules)] }
def FnExactDecidedInSaid : Prop := fnExactDecidedInRow.holds Tryz.pinned (OpenSpec.ofChange fnExactDecidedInSpec)

/-- ITS FALSE NEIGHBOUR: 'it returns false'. Refute it at one input. -/
def fnExactDecidedInWrong : ChangeSpec := { name := "fnExactDecidedIn", vars := ["loop.example/g00631/impl.rules"], fn := fun _ => fun
  | [d, g1] => { results := [.lit (.bool false)], args := [d], vars := [g1] }
  | _ => none }
def FnExactDecidedInWrongFalsely : Prop := fnExactDecidedInRow.holds Tryz.pinned (OpenSpec.ofChange fnExactDecidedInWrong)

/-- 'laws.FnExactDefiniteOf': WHATEVER THE INPUT: true; the input reads as it did. -/
def fnExactDefiniteOfSpec : ChangeSpec := { name := "fnExactDefiniteOf", vars := ["loop.example/g00631/impl.rules"], fn := fun _ => fun
  | [d1, d2, g1] => { results := [.lit (.bool true)], args := [d1, d2], vars := [g1] }
  | _ => none }
def fnExactDefiniteOfRow : OpenClaim := { program := "ytmgkjcobdmdjmaagreatdoor", sum := "9b45b1ab936213c32c53109969e49145ad255684d8fc29ac14767fd67a437a4f", func := "loop.example/g00631/laws.FnExactDefiniteOf", spec := "fnExactDefiniteOf", recurses := true, named := ["loop.example/g00631/impl.rules"], plainKeys := false, apart := false, laid := [("loop.example/g00631/impl.rules", laid_loop_example_g00631_impl_rules)] }
def FnExactDefiniteOfSaid : Prop := fnExactDefiniteOfRow.holds Tryz.pinned (OpenSpec.ofChange fnExactDefiniteOfSpec)

/-- ITS FALSE NEIGHBOUR: 'it returns false'. Refute it at one input. -/
def fnExactDefiniteOfWrong : ChangeSpec := { name := "fnExactDefiniteOf", vars := ["loop.example/g00631/impl.rules"], fn := fun _ => fun
  | [d1, d2, g1] => { results := [.lit (.bool false)], args := [d1, d2], vars := [g1] }
  | _ => none }
def FnExactDefiniteOfWrongFalsely : Prop := fnExactDefiniteOfRow.holds Tryz.pinned (OpenSpec.ofChange fnExactDefiniteOfWrong)

/-- 'laws.FnExactNextInstance': WHATEVER THE INPUT: true; the input reads as it did. -/
def fnExactNextInstanceSpec : ChangeSpec := { name := "fnExactNextInstance", vars := ["loop.example/g00631/impl.rules", "loop.example/g00631/impl.openRow"], fn := fun _ => fun
  | [d, g1, g2] => { results := [.lit (.bool true)], args := [d], vars := [g1, g2] }
  | _ => none }
def fnExactNextInstanceRow : OpenClaim := { program := "ytmgkjcobdmdjmaagreatdoor", sum := "9b45b1ab936213c32c53109969e49145ad255684d8fc29ac14767fd67a437a4f", func := "loop.example/g00631/laws.FnExactNextInstance", spec := "fnExactNextInstance", recurses := true, named := ["loop.example/g00631/impl.rules", "loop.example/g00631/impl.openRow"], plainKeys := false, apart := false, laid := [("loop.example/g00631/impl.rules", laid_loop_example_g00631_impl_rules), ("loop.example/g00631/impl.openRow", laid_loop_example_g00631_impl_openRow)] }
def FnExactNextInstanceSaid : Prop := fnExactNextInstanceRow.holds Tryz.pinned (OpenSpec.ofChange fnExactNextInstanceSpec)

/-- ITS FALSE NEIGHBOUR: 'it returns false'. Refute it at one input. -/
def fnExactNextInstanceWrong : ChangeSpec := { name := "fnExactNextInstance", vars := ["loop.example/g00631/impl.rules", "loop.example/g00631/impl.openRow"], fn := fun _ => fun
  | [d, g1, g2] => { results := [.lit (.bool false)], args := [d], vars := [g1, g2] }
  | _ => none }
def FnExactNextInstanceWrongFalsely : Prop := fnExactNextInstanceRow.holds Tryz.pinned (OpenSpec.ofChange fnExactNextInstanceWrong)

/-- 'laws.FnExactChangeLast': WHATEVER THE INPUT: true; the input reads as it did. -/
def fnExactChangeLastSpec : ChangeSpec := { name := "fnExactChangeLast", vars := ["loop.example/g00631/impl.rules"], fn := fun _ => fun
  | [d1, d2, g1] => { results := [.lit (.bool true)], args := [d1, d2], vars := [g1] }
  | _ => none }
def fnExactChangeLastRow : OpenClaim := { program := "ytmgkjcobdmdjmaagreatdoor", sum := "9b45b1ab936213c32c53109969e49145ad255684d8fc29ac14767fd67a437a4f", func := "loop.example/g00631/laws.FnExactChangeLast", spec := "fnExactChangeLast", unfollowed := true, recurses := true, named := ["loop.example/g00631/impl.rules"], plainKeys := false, apart := false, laid := [("loop.example/g00631/impl.rules", laid_loop_example_g00631_impl_rules)] }
def FnExactChangeLastSaid : Prop := fnExactChangeLastRow.holds Tryz.pinned (OpenSpec.ofChange fnExactChangeLastSpec)

/-- ITS FALSE NEIGHBOUR: 'it returns false'. Refute it at one input. -/
def fnExactChangeLastWrong : ChangeSpec := { name := "fnExactChangeLast", vars := ["loop.example/g00631/impl.rules"], fn := fun _ => fun
  | [d1, d2, g1] => { results := [.lit (.bool false)], args := [d1, d2], vars := [g1] }
  | _ => none }
def FnExactChangeLastWrongFalsely : Prop := fnExactChangeLastRow.holds Tryz.pinned (OpenSpec.ofChange fnExactChangeLastWrong)

/- THE SECOND FORM. 'bulk': how many values and letters a reading holds, each counted each time it is reached (what is shared counts as often as it is met; a slice's spare places count too). A statement '..UptoSaid' is the law's where the arguments, and the package variables that the reading takes, are together of bulk at most 1048576: NARROWER than '..Said'. Prove '..Said' where nothing that the law and all that it calls make is longer than what came in: it says more and counts as full. Else prove '..UptoSaid'. A law counts once. -/
mutual
def uptoBulk {H : Type} : DataW H → Nat
  | .lit (.string bytes) => bytes.length + 1
  | .lit _ => 1
  | .nil => 1
  | .ptr d => uptoBulk d + 1
  | .slice elems spare => uptoBulkAll elems + uptoBulkAll spare + 1
  | .agg parts => uptoBulkAll parts + 1
  | .iface _ d => uptoBulk d + 1
  | .map entries => uptoBulkEntries entries + 1
  | .held _ => 1
def uptoBulkAll {H : Type} : List (DataW H) → Nat
  | [] => 0
  | d :: r => uptoBulk d + uptoBulkAll r
def uptoBulkEntries {H : Type} : List (Lit × DataW H) → Nat
  | [] => 0
  | x :: r => uptoBulkEntry x + uptoBulkEntries r
def uptoBulkEntry {H : Type} : Lit × DataW H → Nat
  | (.string bytes, d) => bytes.length + uptoBulk d + 1
  | (_, d) => uptoBulk d + 1
 end
def uptoSmall : (H : Type) → List (DataW H) → Bool := fun _ ds => decide (uptoBulkAll ds ≤ 1048576)
def OpenSpec.upto (s : _root_.Go.ChangeSpec) : _root_.Go.OpenSpec := { _root_.Go.OpenSpec.ofChange s with cond := some uptoSmall }

/-- 'laws.FnInstances', WHERE WHAT IT READS IS OF BULK AT MOST 1048576: true; the input reads as it did. -/
def fnInstancesUptoRow : OpenClaim := { program := "ytmgkjcobdmdjmaagreatdoor", sum := "9b45b1ab936213c32c53109969e49145ad255684d8fc29ac14767fd67a437a4f", func := "loop.example/g00631/laws.FnInstances", spec := "fnInstances", unfollowed := true, recurses := true, named := ["loop.example/g00631/impl.rules", "loop.example/g00631/impl.openRow"], plainKeys := false, apart := false, laid := [("loop.example/g00631/impl.rules", laid_loop_example_g00631_impl_rules), ("loop.example/g00631/impl.openRow", laid_loop_example_g00631_impl_openRow)], narrowed := true }
def FnInstancesUptoSaid : Prop := fnInstancesUptoRow.holds Tryz.pinned (OpenSpec.upto fnInstancesSpec)

/-- 'laws.FnChanges', WHERE WHAT IT READS IS OF BULK AT MOST 1048576: true; the input reads as it did. -/
def fnChangesUptoRow : OpenClaim := { program := "ytmgkjcobdmdjmaagreatdoor", sum := "9b45b1ab936213c32c53109969e49145ad255684d8fc29ac14767fd67a437a4f", func := "loop.example/g00631/laws.FnChanges", spec := "fnChanges", unfollowed := true, recurses := true, named := ["loop.example/g00631/impl.rules"], plainKeys := false, apart := false, laid := [("loop.example/g00631/impl.rules", laid_loop_example_g00631_impl_rules)], narrowed := true }
def FnChangesUptoSaid : Prop := fnChangesUptoRow.holds Tryz.pinned (OpenSpec.upto fnChangesSpec)

/-- 'laws.FnExactOrderFault', WHERE WHAT IT READS IS OF BULK AT MOST 1048576: true; the input reads as it did. -/
def fnExactOrderFaultUptoRow : OpenClaim := { program := "ytmgkjcobdmdjmaagreatdoor", sum := "9b45b1ab936213c32c53109969e49145ad255684d8fc29ac14767fd67a437a4f", func := "loop.example/g00631/laws.FnExactOrderFault", spec := "fnExactOrderFault", recurses := true, named := ["loop.example/g00631/impl.rules"], plainKeys := false, apart := false, laid := [("loop.example/g00631/impl.rules", laid_loop_example_g00631_impl_rules)], narrowed := true }
def FnExactOrderFaultUptoSaid : Prop := fnExactOrderFaultUptoRow.holds Tryz.pinned (OpenSpec.upto fnExactOrderFaultSpec)

/-- 'laws.FnExactDecidedIn', WHERE WHAT IT READS IS OF BULK AT MOST 1048576: true; the input reads as it did. -/
def fnExactDecidedInUptoRow : OpenClaim := { program := "ytmgkjcobdmdjmaagreatdoor", sum := "9b45b1ab936213c32c53109969e49145ad255684d8fc29ac14767fd67a437a4f", func := "loop.example/g00631/laws.FnExactDecidedIn", spec := "fnExactDecidedIn", recurses := true, named := ["loop.example/g00631/impl.rules"], plainKeys := false, apart := false, laid := [("loop.example/g00631/impl.rules", laid_loop_example_g00631_impl_rules)], narrowed := true }
def FnExactDecidedInUptoSaid : Prop := fnExactDecidedInUptoRow.holds Tryz.pinned (OpenSpec.upto fnExactDecidedInSpec)

/-- 'laws.FnExactDefiniteOf', WHERE WHAT IT READS IS OF BULK AT MOST 1048576: true; the input reads as it did. -/
def fnExactDefiniteOfUptoRow : OpenClaim := { program := "ytmgkjcobdmdjmaagreatdoor", sum := "9b45b1ab936213c32c53109969e49145ad255684d8fc29ac14767fd67a437a4f", func := "loop.example/g00631/laws.FnExactDefiniteOf", spec := "fnExactDefiniteOf", recurses := true, named := ["loop.example/g00631/impl.rules"], plainKeys := false, apart := false, laid := [("loop.example/g00631/impl.rules", laid_loop_example_g00631_impl_rules)], narrowed := true }
def FnExactDefiniteOfUptoSaid : Prop := fnExactDefiniteOfUptoRow.holds Tryz.pinned (OpenSpec.upto fnExactDefiniteOfSpec)

/-- 'laws.FnExactNextInstance', WHERE WHAT IT READS IS OF BULK AT MOST 1048576: true; the input reads as it did. -/
def fnExactNextInstanceUptoRow : OpenClaim := { program := "ytmgkjcobdmdjmaagreatdoor", sum := "9b45b1ab936213c32c53109969e49145ad255684d8fc29ac14767fd67a437a4f", func := "loop.example/g00631/laws.FnExactNextInstance", spec := "fnExactNextInstance", recurses := true, named := ["loop.example/g00631/impl.rules", "loop.example/g00631/impl.openRow"], plainKeys := false, apart := false, laid := [("loop.example/g00631/impl.rules", laid_loop_example_g00631_impl_rules), ("loop.example/g00631/impl.openRow", laid_loop_example_g00631_impl_openRow)], narrowed := true }
def FnExactNextInstanceUptoSaid : Prop := fnExactNextInstanceUptoRow.holds Tryz.pinned (OpenSpec.upto fnExactNextInstanceSpec)

/-- 'laws.FnExactChangeLast', WHERE WHAT IT READS IS OF BULK AT MOST 1048576: true; the input reads as it did. -/
def fnExactChangeLastUptoRow : OpenClaim := { program := "ytmgkjcobdmdjmaagreatdoor", sum := "9b45b1ab936213c32c53109969e49145ad255684d8fc29ac14767fd67a437a4f", func := "loop.example/g00631/laws.FnExactChangeLast", spec := "fnExactChangeLast", unfollowed := true, recurses := true, named := ["loop.example/g00631/impl.rules"], plainKeys := false, apart := false, laid := [("loop.example/g00631/impl.rules", laid_loop_example_g00631_impl_rules)], narrowed := true }
def FnExactChangeLastUptoSaid : Prop := fnExactChangeLastUptoRow.holds Tryz.pinned (OpenSpec.upto fnExactChangeLastSpec)

end Rows
end Go.Proofs.YtmgkjcobdmdjmaaGreatDoor
