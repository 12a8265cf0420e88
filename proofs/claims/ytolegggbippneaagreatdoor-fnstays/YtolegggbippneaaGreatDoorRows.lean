/-
  NARROWER THAN 'FOR EVERY INPUT', by the rows' own cells (each row's printed sentence says how): FnInstances: laid · FnStays: laid · FnExactInstanceFault: laid · FnExactSetBatch: laid · FnExactFirstReport: laid · FnExactPropose: laid · FnExactGoOn: laid · FnExactOutcomeOf: laid.
  DERIVED. THE GIVEN ROWS OF THIS SEAT. 8 by the template 'for every input the law returns true; each argument reads behind the call as it read before'; 0 by the template 'total and deterministic' (their statements: YtolegggbippneaaGreatDoorTotals.lean).
  GIVEN WITH THE SEED: the statements are not yours to turn. If you find one false, say at which input.
  Laid BY PROGRAM, IN A SANDBOX (cutbox-rows.mjs): the forced cells as the released guide's own fill.sh prints them over the translation f12883f8933bb942… (all of the seat's roots in one cut). By AI agents, Wed Nov 11 2026. No macro, syntax, notation, axiom, sorry.
-/
import Derived.Test.YtolegggbippneaaGreatDoorChecked
import GoSem.Claim
import GoSem.ClaimJoined
import GoSem.ClaimMapViews
import Derived.JoinedTies
import Derived.KernelRfl
namespace Go.Proofs.YtolegggbippneaaGreatDoor
/- THE CELL 'sum', in the pinned program and in every row, IS THE sha256 OF THE DUMP (.gsa) THAT YtolegggbippneaaGreatDoorProg.lean LOADS. Nothing in Lean hashes anything: it is a label: what it is worth is what the hold of that sum in a sandbox is worth. -/
noncomputable def Tryz.pinned : Pinned := { name := "ytolegggbippneaagreatdoor", sum := "f12883f8933bb942ac0946f8fb514dd59aa7a92a5d661cee3e8ff70b29f8538b", checked := Tryz.checked }
namespace Rows
def none {H : Type} : Left H := { results := [], args := [] }

/- WHAT THE LISTED PACKAGE-LEVEL VARIABLES READ AS WHEN THE CALL BEGINS. Each datum BY PROGRAM (the guide's laid-datum.mjs) off the statement by which the dump's own 'gosem.cut.vars' lays the variable. In a bare row this is a premise. The card (YtolegggbippneaaGreatDoorCards.lean) ties it to the program's text. -/
def laid_loop_example_g00631_impl_rules {H : Type} : DataW H := .agg [.agg [.lit (.int .i64 2), .lit (.int .i64 0), .lit (.int .i64 0), .agg [.lit (.int .i64 0), .lit (.bool true), .lit (.bool false), .lit (.int .i64 0)]], .agg [.lit (.int .i64 0), .lit (.int .i64 2), .lit (.int .i64 1), .agg [.lit (.int .i64 0), .lit (.bool true), .lit (.bool false), .lit (.int .i64 1)]], .agg [.lit (.int .i64 1), .lit (.int .i64 0), .lit (.int .i64 2), .agg [.lit (.int .i64 0), .lit (.bool false), .lit (.bool false), .lit (.int .i64 0)]], .agg [.lit (.int .i64 0), .lit (.int .i64 1), .lit (.int .i64 2), .agg [.lit (.int .i64 0), .lit (.bool false), .lit (.bool false), .lit (.int .i64 1)]], .agg [.lit (.int .i64 0), .lit (.int .i64 0), .lit (.int .i64 2), .agg [.lit (.int .i64 0), .lit (.bool false), .lit (.bool true), .lit (.int .i64 0)]]]
def laid_loop_example_g00631_impl_openRow {H : Type} : DataW H := .agg [.lit (.int .i64 3), .lit (.int .i64 3), .lit (.int .i64 3)]

/-- 'laws.FnInstances': WHATEVER THE INPUT: true; the input reads as it did. -/
def fnInstancesSpec : ChangeSpec := { name := "fnInstances", vars := ["loop.example/g00631/impl.rules", "loop.example/g00631/impl.openRow"], fn := fun _ => fun
  | [d, g1, g2] => { results := [.lit (.bool true)], args := [d], vars := [g1, g2] }
  | _ => none }
def fnInstancesRow : OpenClaim := { program := "ytolegggbippneaagreatdoor", sum := "f12883f8933bb942ac0946f8fb514dd59aa7a92a5d661cee3e8ff70b29f8538b", func := "loop.example/g00631/laws.FnInstances", spec := "fnInstances", unfollowed := true, recurses := true, named := ["loop.example/g00631/impl.rules", "loop.example/g00631/impl.openRow"], apart := false, laid := [("loop.example/g00631/impl.rules", laid_loop_example_g00631_impl_rules), ("loop.example/g00631/impl.openRow", laid_loop_example_g00631_impl_openRow)] }
def FnInstancesSaid : Prop := fnInstancesRow.holds Tryz.pinned (OpenSpec.ofChange fnInstancesSpec)

/-- ITS FALSE NEIGHBOUR: 'it returns false'. Refute it at one input. -/
def fnInstancesWrong : ChangeSpec := { name := "fnInstances", vars := ["loop.example/g00631/impl.rules", "loop.example/g00631/impl.openRow"], fn := fun _ => fun
  | [d, g1, g2] => { results := [.lit (.bool false)], args := [d], vars := [g1, g2] }
  | _ => none }
def FnInstancesWrongFalsely : Prop := fnInstancesRow.holds Tryz.pinned (OpenSpec.ofChange fnInstancesWrong)

/-- 'laws.FnStays': WHATEVER THE INPUT: true; the input reads as it did. -/
def fnStaysSpec : ChangeSpec := { name := "fnStays", vars := ["loop.example/g00631/impl.rules", "loop.example/g00631/impl.openRow"], fn := fun _ => fun
  | [d, g1, g2] => { results := [.lit (.bool true)], args := [d], vars := [g1, g2] }
  | _ => none }
def fnStaysRow : OpenClaim := { program := "ytolegggbippneaagreatdoor", sum := "f12883f8933bb942ac0946f8fb514dd59aa7a92a5d661cee3e8ff70b29f8538b", func := "loop.example/g00631/laws.FnStays", spec := "fnStays", recurses := true, named := ["loop.example/g00631/impl.rules", "loop.example/g00631/impl.openRow"], apart := false, laid := [("loop.example/g00631/impl.rules", laid_loop_example_g00631_impl_rules), ("loop.example/g00631/impl.openRow", laid_loop_example_g00631_impl_openRow)] }
def FnStaysSaid : Prop := fnStaysRow.holds Tryz.pinned (OpenSpec.ofChange fnStaysSpec)

/-- ITS FALSE NEIGHBOUR: 'it returns false'. Refute it at one input. -/
def fnStaysWrong : ChangeSpec := { name := "fnStays", vars := ["loop.example/g00631/impl.rules", "loop.example/g00631/impl.openRow"], fn := fun _ => fun
  | [d, g1, g2] => { results := [.lit (.bool false)], args := [d], vars := [g1, g2] }
  | _ => none }
def FnStaysWrongFalsely : Prop := fnStaysRow.holds Tryz.pinned (OpenSpec.ofChange fnStaysWrong)

/-- 'laws.FnExactInstanceFault': WHATEVER THE INPUT: true; the input reads as it did. -/
def fnExactInstanceFaultSpec : ChangeSpec := { name := "fnExactInstanceFault", vars := ["loop.example/g00631/impl.rules"], fn := fun _ => fun
  | [d, g1] => { results := [.lit (.bool true)], args := [d], vars := [g1] }
  | _ => none }
def fnExactInstanceFaultRow : OpenClaim := { program := "ytolegggbippneaagreatdoor", sum := "f12883f8933bb942ac0946f8fb514dd59aa7a92a5d661cee3e8ff70b29f8538b", func := "loop.example/g00631/laws.FnExactInstanceFault", spec := "fnExactInstanceFault", recurses := true, named := ["loop.example/g00631/impl.rules"], apart := false, laid := [("loop.example/g00631/impl.rules", laid_loop_example_g00631_impl_rules)] }
def FnExactInstanceFaultSaid : Prop := fnExactInstanceFaultRow.holds Tryz.pinned (OpenSpec.ofChange fnExactInstanceFaultSpec)

/-- ITS FALSE NEIGHBOUR: 'it returns false'. Refute it at one input. -/
def fnExactInstanceFaultWrong : ChangeSpec := { name := "fnExactInstanceFault", vars := ["loop.example/g00631/impl.rules"], fn := fun _ => fun
  | [d, g1] => { results := [.lit (.bool false)], args := [d], vars := [g1] }
  | _ => none }
def FnExactInstanceFaultWrongFalsely : Prop := fnExactInstanceFaultRow.holds Tryz.pinned (OpenSpec.ofChange fnExactInstanceFaultWrong)

/-- 'laws.FnExactSetBatch': WHATEVER THE INPUT: true; the input reads as it did. -/
def fnExactSetBatchSpec : ChangeSpec := { name := "fnExactSetBatch", vars := ["loop.example/g00631/impl.rules"], fn := fun _ => fun
  | [d1, d2, g1] => { results := [.lit (.bool true)], args := [d1, d2], vars := [g1] }
  | _ => none }
def fnExactSetBatchRow : OpenClaim := { program := "ytolegggbippneaagreatdoor", sum := "f12883f8933bb942ac0946f8fb514dd59aa7a92a5d661cee3e8ff70b29f8538b", func := "loop.example/g00631/laws.FnExactSetBatch", spec := "fnExactSetBatch", recurses := true, named := ["loop.example/g00631/impl.rules"], apart := false, laid := [("loop.example/g00631/impl.rules", laid_loop_example_g00631_impl_rules)] }
def FnExactSetBatchSaid : Prop := fnExactSetBatchRow.holds Tryz.pinned (OpenSpec.ofChange fnExactSetBatchSpec)

/-- ITS FALSE NEIGHBOUR: 'it returns false'. Refute it at one input. -/
def fnExactSetBatchWrong : ChangeSpec := { name := "fnExactSetBatch", vars := ["loop.example/g00631/impl.rules"], fn := fun _ => fun
  | [d1, d2, g1] => { results := [.lit (.bool false)], args := [d1, d2], vars := [g1] }
  | _ => none }
def FnExactSetBatchWrongFalsely : Prop := fnExactSetBatchRow.holds Tryz.pinned (OpenSpec.ofChange fnExactSetBatchWrong)

/-- 'laws.FnExactFirstReport': WHATEVER THE INPUT: true; the input reads as it did. -/
def fnExactFirstReportSpec : ChangeSpec := { name := "fnExactFirstReport", vars := ["loop.example/g00631/impl.rules", "loop.example/g00631/impl.openRow"], fn := fun _ => fun
  | [d1, d2, d3, g1, g2] => { results := [.lit (.bool true)], args := [d1, d2, d3], vars := [g1, g2] }
  | _ => none }
def fnExactFirstReportRow : OpenClaim := { program := "ytolegggbippneaagreatdoor", sum := "f12883f8933bb942ac0946f8fb514dd59aa7a92a5d661cee3e8ff70b29f8538b", func := "loop.example/g00631/laws.FnExactFirstReport", spec := "fnExactFirstReport", recurses := true, named := ["loop.example/g00631/impl.rules", "loop.example/g00631/impl.openRow"], apart := false, laid := [("loop.example/g00631/impl.rules", laid_loop_example_g00631_impl_rules), ("loop.example/g00631/impl.openRow", laid_loop_example_g00631_impl_openRow)] }
def FnExactFirstReportSaid : Prop := fnExactFirstReportRow.holds Tryz.pinned (OpenSpec.ofChange fnExactFirstReportSpec)

/-- ITS FALSE NEIGHBOUR: 'it returns false'. Refute it at one input. -/
def fnExactFirstReportWrong : ChangeSpec := { name := "fnExactFirstReport", vars := ["loop.example/g00631/impl.rules", "loop.example/g00631/impl.openRow"], fn := fun _ => fun
  | [d1, d2, d3, g1, g2] => { results := [.lit (.bool false)], args := [d1, d2, d3], vars := [g1, g2] }
  | _ => none }
def FnExactFirstReportWrongFalsely : Prop := fnExactFirstReportRow.holds Tryz.pinned (OpenSpec.ofChange fnExactFirstReportWrong)

/-- 'laws.FnExactPropose': WHATEVER THE INPUT: true; the input reads as it did. -/
def fnExactProposeSpec : ChangeSpec := { name := "fnExactPropose", vars := ["loop.example/g00631/impl.rules"], fn := fun _ => fun
  | [d1, d2, d3, d4, g1] => { results := [.lit (.bool true)], args := [d1, d2, d3, d4], vars := [g1] }
  | _ => none }
def fnExactProposeRow : OpenClaim := { program := "ytolegggbippneaagreatdoor", sum := "f12883f8933bb942ac0946f8fb514dd59aa7a92a5d661cee3e8ff70b29f8538b", func := "loop.example/g00631/laws.FnExactPropose", spec := "fnExactPropose", recurses := true, named := ["loop.example/g00631/impl.rules"], apart := false, laid := [("loop.example/g00631/impl.rules", laid_loop_example_g00631_impl_rules)] }
def FnExactProposeSaid : Prop := fnExactProposeRow.holds Tryz.pinned (OpenSpec.ofChange fnExactProposeSpec)

/-- ITS FALSE NEIGHBOUR: 'it returns false'. Refute it at one input. -/
def fnExactProposeWrong : ChangeSpec := { name := "fnExactPropose", vars := ["loop.example/g00631/impl.rules"], fn := fun _ => fun
  | [d1, d2, d3, d4, g1] => { results := [.lit (.bool false)], args := [d1, d2, d3, d4], vars := [g1] }
  | _ => none }
def FnExactProposeWrongFalsely : Prop := fnExactProposeRow.holds Tryz.pinned (OpenSpec.ofChange fnExactProposeWrong)

/-- 'laws.FnExactGoOn': WHATEVER THE INPUT: true; the input reads as it did. -/
def fnExactGoOnSpec : ChangeSpec := { name := "fnExactGoOn", vars := ["loop.example/g00631/impl.rules", "loop.example/g00631/impl.openRow"], fn := fun _ => fun
  | [d1, d2, d3, d4, d5, g1, g2] => { results := [.lit (.bool true)], args := [d1, d2, d3, d4, d5], vars := [g1, g2] }
  | _ => none }
def fnExactGoOnRow : OpenClaim := { program := "ytolegggbippneaagreatdoor", sum := "f12883f8933bb942ac0946f8fb514dd59aa7a92a5d661cee3e8ff70b29f8538b", func := "loop.example/g00631/laws.FnExactGoOn", spec := "fnExactGoOn", recurses := true, named := ["loop.example/g00631/impl.rules", "loop.example/g00631/impl.openRow"], apart := false, laid := [("loop.example/g00631/impl.rules", laid_loop_example_g00631_impl_rules), ("loop.example/g00631/impl.openRow", laid_loop_example_g00631_impl_openRow)] }
def FnExactGoOnSaid : Prop := fnExactGoOnRow.holds Tryz.pinned (OpenSpec.ofChange fnExactGoOnSpec)

/-- ITS FALSE NEIGHBOUR: 'it returns false'. Refute it at one input. -/
def fnExactGoOnWrong : ChangeSpec := { name := "fnExactGoOn", vars := ["loop.example/g00631/impl.rules", "loop.example/g00631/impl.openRow"], fn := fun _ => fun
  | [d1, d2, d3, d4, d5, g1, g2] => { results := [.lit (.bool false)], args := [d1, d2, d3, d4, d5], vars := [g1, g2] }
  | _ => none }
def FnExactGoOnWrongFalsely : Prop := fnExactGoOnRow.holds Tryz.pinned (OpenSpec.ofChange fnExactGoOnWrong)

/-- 'laws.FnExactOutcomeOf': WHATEVER THE INPUT: true; the input reads as it did. -/
def fnExactOutcomeOfSpec : ChangeSpec := { name := "fnExactOutcomeOf", vars := ["loop.example/g00631/impl.rules"], fn := fun _ => fun
  | [d, g1] => { results := [.lit (.bool true)], args := [d], vars := [g1] }
  | _ => none }
def fnExactOutcomeOfRow : OpenClaim := { program := "ytolegggbippneaagreatdoor", sum := "f12883f8933bb942ac0946f8fb514dd59aa7a92a5d661cee3e8ff70b29f8538b", func := "loop.example/g00631/laws.FnExactOutcomeOf", spec := "fnExactOutcomeOf", recurses := true, named := ["loop.example/g00631/impl.rules"], apart := false, laid := [("loop.example/g00631/impl.rules", laid_loop_example_g00631_impl_rules)] }
def FnExactOutcomeOfSaid : Prop := fnExactOutcomeOfRow.holds Tryz.pinned (OpenSpec.ofChange fnExactOutcomeOfSpec)

/-- ITS FALSE NEIGHBOUR: 'it returns false'. Refute it at one input. -/
def fnExactOutcomeOfWrong : ChangeSpec := { name := "fnExactOutcomeOf", vars := ["loop.example/g00631/impl.rules"], fn := fun _ => fun
  | [d, g1] => { results := [.lit (.bool false)], args := [d], vars := [g1] }
  | _ => none }
def FnExactOutcomeOfWrongFalsely : Prop := fnExactOutcomeOfRow.holds Tryz.pinned (OpenSpec.ofChange fnExactOutcomeOfWrong)

/- THE SECOND FORM. 'bulk': how many values and letters a reading holds, each counted each time it is reached (what is shared counts as often as it is met; a slice's spare places count too). A statement '..UptoSaid' is the law's where the arguments, and the package variables that the reading takes, are together of bulk at most 1048576: NARROWER than '..Said'. Prove '..Said' where nothing that the law and all that it calls make is longer than what came in: it says more and counts as full. Else prove '..UptoSaid'. A law counts once. -/
mutual
def uptoBulk {H : Type} : DataW H → Nat
  | .lit (.string bytes) => bytes.length + 1
  | .lit _ => 1
  | .nil => 1
  | .ptr d => uptoBulk d + 1
  | .slice elems spare => uptoBulkAll elems + uptoBulkAll spare + 1
  | .agg parts => uptoBulkAll parts + 1
  | .iface _ d => uptoBulk d + 1
  | .map entries => uptoBulkEntries entries + 1
  | .held _ => 1
def uptoBulkAll {H : Type} : List (DataW H) → Nat
  | [] => 0
  | d :: r => uptoBulk d + uptoBulkAll r
def uptoBulkEntries {H : Type} : List (Lit × DataW H) → Nat
  | [] => 0
  | x :: r => uptoBulkEntry x + uptoBulkEntries r
def uptoBulkEntry {H : Type} : Lit × DataW H → Nat
  | (.string bytes, d) => bytes.length + uptoBulk d + 1
  | (_, d) => uptoBulk d + 1
 end
def uptoSmall : (H : Type) → List (DataW H) → Bool := fun _ ds => decide (uptoBulkAll ds ≤ 1048576)
def OpenSpec.upto (s : _root_.Go.ChangeSpec) : _root_.Go.OpenSpec := { _root_.Go.OpenSpec.ofChange s with cond := some uptoSmall }

/-- 'laws.FnInstances', WHERE WHAT IT READS IS OF BULK AT MOST 1048576: true; the input reads as it did. -/
def fnInstancesUptoRow : OpenClaim := { program := "ytolegggbippneaagreatdoor", sum := "f12883f8933bb942ac0946f8fb514dd59aa7a92a5d661cee3e8ff70b29f8538b", func := "loop.example/g00631/laws.FnInstances", spec := "fnInstances", unfollowed := true, recurses := true, named := ["loop.example/g00631/impl.rules", "loop.example/g00631/impl.openRow"], apart := false, laid := [("loop.example/g00631/impl.rules", laid_loop_example_g00631_impl_rules), ("loop.example/g00631/impl.openRow", laid_loop_example_g00631_impl_openRow)], narrowed := true }
def FnInstancesUptoSaid : Prop := fnInstancesUptoRow.holds Tryz.pinned (OpenSpec.upto fnInstancesSpec)

/-- 'laws.FnStays', WHERE WHAT IT READS IS OF BULK AT MOST 1048576: true; the input reads as it did. -/
def fnStaysUptoRow : OpenClaim := { program := "ytolegggbippneaagreatdoor", sum := "f12883f8933bb942ac0946f8fb514dd59aa7a92a5d661cee3e8ff70b29f8538b", func := "loop.example/g00631/laws.FnStays", spec := "fnStays", recurses := true, named := ["loop.example/g00631/impl.rules", "loop.example/g00631/impl.openRow"], apart := false, laid := [("loop.example/g00631/impl.rules", laid_loop_example_g00631_impl_rules), ("loop.example/g00631/impl.openRow", laid_loop_example_g00631_impl_openRow)], narrowed := true }
def FnStaysUptoSaid : Prop := fnStaysUptoRow.holds Tryz.pinned (OpenSpec.upto fnStaysSpec)

/-- 'laws.FnExactInstanceFault', WHERE WHAT IT READS IS OF BULK AT MOST 1048576: true; the input reads as it did. -/
def fnExactInstanceFaultUptoRow : OpenClaim := { program := "ytolegggbippneaagreatdoor", sum := "f12883f8933bb942ac0946f8fb514dd59aa7a92a5d661cee3e8ff70b29f8538b", func := "loop.example/g00631/laws.FnExactInstanceFault", spec := "fnExactInstanceFault", recurses := true, named := ["loop.example/g00631/impl.rules"], apart := false, laid := [("loop.example/g00631/impl.rules", laid_loop_example_g00631_impl_rules)], narrowed := true }
def FnExactInstanceFaultUptoSaid : Prop := fnExactInstanceFaultUptoRow.holds Tryz.pinned (OpenSpec.upto fnExactInstanceFaultSpec)

/-- 'laws.FnExactSetBatch', WHERE WHAT IT READS IS OF BULK AT MOST 1048576: true; the input reads as it did. -/
def fnExactSetBatchUptoRow : OpenClaim := { program := "ytolegggbippneaagreatdoor", sum := "f12883f8933bb942ac0946f8fb514dd59aa7a92a5d661cee3e8ff70b29f8538b", func := "loop.example/g00631/laws.FnExactSetBatch", spec := "fnExactSetBatch", recurses := true, named := ["loop.example/g00631/impl.rules"], apart := false, laid := [("loop.example/g00631/impl.rules", laid_loop_example_g00631_impl_rules)], narrowed := true }
def FnExactSetBatchUptoSaid : Prop := fnExactSetBatchUptoRow.holds Tryz.pinned (OpenSpec.upto fnExactSetBatchSpec)

/-- 'laws.FnExactFirstReport', WHERE WHAT IT READS IS OF BULK AT MOST 1048576: true; the input reads as it did. -/
def fnExactFirstReportUptoRow : OpenClaim := { program := "ytolegggbippneaagreatdoor", sum := "f12883f8933bb942ac0946f8fb514dd59aa7a92a5d661cee3e8ff70b29f8538b", func := "loop.example/g00631/laws.FnExactFirstReport", spec := "fnExactFirstReport", recurses := true, named := ["loop.example/g00631/impl.rules", "loop.example/g00631/impl.openRow"], apart := false, laid := [("loop.example/g00631/impl.rules", laid_loop_example_g00631_impl_rules), ("loop.example/g00631/impl.openRow", laid_loop_example_g00631_impl_openRow)], narrowed := true }
def FnExactFirstReportUptoSaid : Prop := fnExactFirstReportUptoRow.holds Tryz.pinned (OpenSpec.upto fnExactFirstReportSpec)

/-- 'laws.FnExactPropose', WHERE WHAT IT READS IS OF BULK AT MOST 1048576: true; the input reads as it did. -/
def fnExactProposeUptoRow : OpenClaim := { program := "ytolegggbippneaagreatdoor", sum := "f12883f8933bb942ac0946f8fb514dd59aa7a92a5d661cee3e8ff70b29f8538b", func := "loop.example/g00631/laws.FnExactPropose", spec := "fnExactPropose", recurses := true, named := ["loop.example/g00631/impl.rules"], apart := false, laid := [("loop.example/g00631/impl.rules", laid_loop_example_g00631_impl_rules)], narrowed := true }
def FnExactProposeUptoSaid : Prop := fnExactProposeUptoRow.holds Tryz.pinned (OpenSpec.upto fnExactProposeSpec)

/-- 'laws.FnExactGoOn', WHERE WHAT IT READS IS OF BULK AT MOST 1048576: true; the input reads as it did. -/
def fnExactGoOnUptoRow : OpenClaim := { program := "ytolegggbippneaagreatdoor", sum := "f12883f8933bb942ac0946f8fb514dd59aa7a92a5d661cee3e8ff70b29f8538b", func := "loop.example/g00631/laws.FnExactGoOn", spec := "fnExactGoOn", recurses := true, named := ["loop.example/g00631/impl.rules", "loop.example/g00631/impl.openRow"], apart := false, laid := [("loop.example/g00631/impl.rules", laid_loop_example_g00631_impl_rules), ("loop.example/g00631/impl.openRow", laid_loop_example_g00631_impl_openRow)], narrowed := true }
def FnExactGoOnUptoSaid : Prop := fnExactGoOnUptoRow.holds Tryz.pinned (OpenSpec.upto fnExactGoOnSpec)

/-- 'laws.FnExactOutcomeOf', WHERE WHAT IT READS IS OF BULK AT MOST 1048576: true; the input reads as it did. -/
def fnExactOutcomeOfUptoRow : OpenClaim := { program := "ytolegggbippneaagreatdoor", sum := "f12883f8933bb942ac0946f8fb514dd59aa7a92a5d661cee3e8ff70b29f8538b", func := "loop.example/g00631/laws.FnExactOutcomeOf", spec := "fnExactOutcomeOf", recurses := true, named := ["loop.example/g00631/impl.rules"], apart := false, laid := [("loop.example/g00631/impl.rules", laid_loop_example_g00631_impl_rules)], narrowed := true }
def FnExactOutcomeOfUptoSaid : Prop := fnExactOutcomeOfUptoRow.holds Tryz.pinned (OpenSpec.upto fnExactOutcomeOfSpec)

end Rows
end Go.Proofs.YtolegggbippneaaGreatDoor
