/-
  NARROWER THAN 'FOR EVERY INPUT', by the rows' own cells (each row's printed sentence says how): FnRules: laid · FnExactProposalFor: laid · FnExactChoiceFor: laid · FnExactMayPropose: laid · FnExactMayReport: laid.
  DERIVED. THE GIVEN ROWS OF THIS SEAT. 5 by the template 'for every input the law returns true; each argument reads behind the call as it read before'; 0 by the template 'total and deterministic' (their statements: YtonkbpnchcgmmaaDoorTotals.lean).
  GIVEN WITH THE SEED: the statements are not yours to turn. If you find one false, say at which input.
  Laid BY PROGRAM, IN A SANDBOX (cutbox-rows.mjs): the forced cells as the released guide's own fill.sh prints them over the translation 660e9658e7ca2b86… (all of the seat's roots in one cut). By AI agents, Wed Nov 11 2026. No macro, syntax, notation, axiom, sorry.
-/
import Derived.Test.YtonkbpnchcgmmaaDoorChecked
import GoSem.Claim
import GoSem.ClaimJoined
import GoSem.ClaimMapViews
import Derived.JoinedTies
import Derived.KernelRfl
namespace Go.Proofs.YtonkbpnchcgmmaaDoor
/- THE CELL 'sum', in the pinned program and in every row, IS THE sha256 OF THE DUMP (.gsa) THAT YtonkbpnchcgmmaaDoorProg.lean LOADS. Nothing in Lean hashes anything: it is a label: what it is worth is what the hold of that sum in a sandbox is worth. -/
noncomputable def Tryd.pinned : Pinned := { name := "ytonkbpnchcgmmaadoor", sum := "660e9658e7ca2b86775d82cbac1ae3d60d750041e3569214c75eeb37350e68ff", checked := Tryd.checked }
namespace Rows
def none {H : Type} : Left H := { results := [], args := [] }

/- WHAT THE LISTED PACKAGE-LEVEL VARIABLES READ AS WHEN THE CALL BEGINS. Each datum BY PROGRAM (the guide's laid-datum.mjs) off the statement by which the dump's own 'gosem.cut.vars' lays the variable. In a bare row this is a premise. The card (YtonkbpnchcgmmaaDoorCards.lean) ties it to the program's text. -/
def laid_loop_example_g00631_impl_rules {H : Type} : DataW H := .agg [.agg [.lit (.int .i64 2), .lit (.int .i64 0), .lit (.int .i64 0), .agg [.lit (.int .i64 0), .lit (.bool true), .lit (.bool false), .lit (.int .i64 0)]], .agg [.lit (.int .i64 0), .lit (.int .i64 2), .lit (.int .i64 1), .agg [.lit (.int .i64 0), .lit (.bool true), .lit (.bool false), .lit (.int .i64 1)]], .agg [.lit (.int .i64 1), .lit (.int .i64 0), .lit (.int .i64 2), .agg [.lit (.int .i64 0), .lit (.bool false), .lit (.bool false), .lit (.int .i64 0)]], .agg [.lit (.int .i64 0), .lit (.int .i64 1), .lit (.int .i64 2), .agg [.lit (.int .i64 0), .lit (.bool false), .lit (.bool false), .lit (.int .i64 1)]], .agg [.lit (.int .i64 0), .lit (.int .i64 0), .lit (.int .i64 2), .agg [.lit (.int .i64 0), .lit (.bool false), .lit (.bool true), .lit (.int .i64 0)]]]

/-- 'laws.FnRules': WHATEVER THE INPUT: true; the input reads as it did. -/
def fnRulesSpec : ChangeSpec := { name := "fnRules", vars := ["loop.example/g00631/impl.rules"], fn := fun _ => fun
  | [d, g1] => { results := [.lit (.bool true)], args := [d], vars := [g1] }
  | _ => none }
def fnRulesRow : OpenClaim := { program := "ytonkbpnchcgmmaadoor", sum := "660e9658e7ca2b86775d82cbac1ae3d60d750041e3569214c75eeb37350e68ff", func := "loop.example/g00631/laws.FnRules", spec := "fnRules", named := ["loop.example/g00631/impl.rules"], apart := false, laid := [("loop.example/g00631/impl.rules", laid_loop_example_g00631_impl_rules)] }
def FnRulesSaid : Prop := fnRulesRow.holds Tryd.pinned (OpenSpec.ofChange fnRulesSpec)

/-- ITS FALSE NEIGHBOUR: 'it returns false'. Refute it at one input. -/
def fnRulesWrong : ChangeSpec := { name := "fnRules", vars := ["loop.example/g00631/impl.rules"], fn := fun _ => fun
  | [d, g1] => { results := [.lit (.bool false)], args := [d], vars := [g1] }
  | _ => none }
def FnRulesWrongFalsely : Prop := fnRulesRow.holds Tryd.pinned (OpenSpec.ofChange fnRulesWrong)

/-- 'laws.FnExactProposalFor': WHATEVER THE INPUT: true; the input reads as it did. -/
def fnExactProposalForSpec : ChangeSpec := { name := "fnExactProposalFor", vars := ["loop.example/g00631/impl.rules"], fn := fun _ => fun
  | [d1, d2, g1] => { results := [.lit (.bool true)], args := [d1, d2], vars := [g1] }
  | _ => none }
def fnExactProposalForRow : OpenClaim := { program := "ytonkbpnchcgmmaadoor", sum := "660e9658e7ca2b86775d82cbac1ae3d60d750041e3569214c75eeb37350e68ff", func := "loop.example/g00631/laws.FnExactProposalFor", spec := "fnExactProposalFor", named := ["loop.example/g00631/impl.rules"], apart := false, laid := [("loop.example/g00631/impl.rules", laid_loop_example_g00631_impl_rules)] }
def FnExactProposalForSaid : Prop := fnExactProposalForRow.holds Tryd.pinned (OpenSpec.ofChange fnExactProposalForSpec)

/-- ITS FALSE NEIGHBOUR: 'it returns false'. Refute it at one input. -/
def fnExactProposalForWrong : ChangeSpec := { name := "fnExactProposalFor", vars := ["loop.example/g00631/impl.rules"], fn := fun _ => fun
  | [d1, d2, g1] => { results := [.lit (.bool false)], args := [d1, d2], vars := [g1] }
  | _ => none }
def FnExactProposalForWrongFalsely : Prop := fnExactProposalForRow.holds Tryd.pinned (OpenSpec.ofChange fnExactProposalForWrong)

/-- 'laws.FnExactChoiceFor': WHATEVER THE INPUT: true; the input reads as it did. -/
def fnExactChoiceForSpec : ChangeSpec := { name := "fnExactChoiceFor", vars := ["loop.example/g00631/impl.rules"], fn := fun _ => fun
  | [d1, d2, d3, g1] => { results := [.lit (.bool true)], args := [d1, d2, d3], vars := [g1] }
  | _ => none }
def fnExactChoiceForRow : OpenClaim := { program := "ytonkbpnchcgmmaadoor", sum := "660e9658e7ca2b86775d82cbac1ae3d60d750041e3569214c75eeb37350e68ff", func := "loop.example/g00631/laws.FnExactChoiceFor", spec := "fnExactChoiceFor", named := ["loop.example/g00631/impl.rules"], apart := false, laid := [("loop.example/g00631/impl.rules", laid_loop_example_g00631_impl_rules)] }
def FnExactChoiceForSaid : Prop := fnExactChoiceForRow.holds Tryd.pinned (OpenSpec.ofChange fnExactChoiceForSpec)

/-- ITS FALSE NEIGHBOUR: 'it returns false'. Refute it at one input. -/
def fnExactChoiceForWrong : ChangeSpec := { name := "fnExactChoiceFor", vars := ["loop.example/g00631/impl.rules"], fn := fun _ => fun
  | [d1, d2, d3, g1] => { results := [.lit (.bool false)], args := [d1, d2, d3], vars := [g1] }
  | _ => none }
def FnExactChoiceForWrongFalsely : Prop := fnExactChoiceForRow.holds Tryd.pinned (OpenSpec.ofChange fnExactChoiceForWrong)

/-- 'laws.FnExactMayPropose': WHATEVER THE INPUT: true; the input reads as it did. -/
def fnExactMayProposeSpec : ChangeSpec := { name := "fnExactMayPropose", vars := ["loop.example/g00631/impl.rules"], fn := fun _ => fun
  | [d1, d2, g1] => { results := [.lit (.bool true)], args := [d1, d2], vars := [g1] }
  | _ => none }
def fnExactMayProposeRow : OpenClaim := { program := "ytonkbpnchcgmmaadoor", sum := "660e9658e7ca2b86775d82cbac1ae3d60d750041e3569214c75eeb37350e68ff", func := "loop.example/g00631/laws.FnExactMayPropose", spec := "fnExactMayPropose", named := ["loop.example/g00631/impl.rules"], apart := false, laid := [("loop.example/g00631/impl.rules", laid_loop_example_g00631_impl_rules)] }
def FnExactMayProposeSaid : Prop := fnExactMayProposeRow.holds Tryd.pinned (OpenSpec.ofChange fnExactMayProposeSpec)

/-- ITS FALSE NEIGHBOUR: 'it returns false'. Refute it at one input. -/
def fnExactMayProposeWrong : ChangeSpec := { name := "fnExactMayPropose", vars := ["loop.example/g00631/impl.rules"], fn := fun _ => fun
  | [d1, d2, g1] => { results := [.lit (.bool false)], args := [d1, d2], vars := [g1] }
  | _ => none }
def FnExactMayProposeWrongFalsely : Prop := fnExactMayProposeRow.holds Tryd.pinned (OpenSpec.ofChange fnExactMayProposeWrong)

/-- 'laws.FnExactMayReport': WHATEVER THE INPUT: true; the input reads as it did. -/
def fnExactMayReportSpec : ChangeSpec := { name := "fnExactMayReport", vars := ["loop.example/g00631/impl.rules"], fn := fun _ => fun
  | [d1, d2, g1] => { results := [.lit (.bool true)], args := [d1, d2], vars := [g1] }
  | _ => none }
def fnExactMayReportRow : OpenClaim := { program := "ytonkbpnchcgmmaadoor", sum := "660e9658e7ca2b86775d82cbac1ae3d60d750041e3569214c75eeb37350e68ff", func := "loop.example/g00631/laws.FnExactMayReport", spec := "fnExactMayReport", named := ["loop.example/g00631/impl.rules"], apart := false, laid := [("loop.example/g00631/impl.rules", laid_loop_example_g00631_impl_rules)] }
def FnExactMayReportSaid : Prop := fnExactMayReportRow.holds Tryd.pinned (OpenSpec.ofChange fnExactMayReportSpec)

/-- ITS FALSE NEIGHBOUR: 'it returns false'. Refute it at one input. -/
def fnExactMayReportWrong : ChangeSpec := { name := "fnExactMayReport", vars := ["loop.example/g00631/impl.rules"], fn := fun _ => fun
  | [d1, d2, g1] => { results := [.lit (.bool false)], args := [d1, d2], vars := [g1] }
  | _ => none }
def FnExactMayReportWrongFalsely : Prop := fnExactMayReportRow.holds Tryd.pinned (OpenSpec.ofChange fnExactMayReportWrong)

/- THE SECOND FORM. 'bulk': how many values and letters a reading holds, each counted each time it is reached (what is shared counts as often as it is met; a slice's spare places count too). A statement '..UptoSaid' is the law's where the arguments, and the package variables that the reading takes, are together of bulk at most 1048576: NARROWER than '..Said'. Prove '..Said' where nothing that the law and all that it calls make is longer than what came in: it says more and counts as full. Else prove '..UptoSaid'. A law counts once. -/
mutual
def uptoBulk {H : Type} : DataW H → Nat
  | .lit (.string bytes) => bytes.length + 1
  | .lit _ => 1
  | .nil => 1
  | .ptr d => uptoBulk d + 1
  | .slice elems spare => uptoBulkAll elems + uptoBulkAll spare + 1
  | .agg parts => uptoBulkAll parts + 1
  | .iface _ d => uptoBulk d + 1
  | .map entries => uptoBulkEntries entries + 1
  | .held _ => 1
def uptoBulkAll {H : Type} : List (DataW H) → Nat
  | [] => 0
  | d :: r => uptoBulk d + uptoBulkAll r
def uptoBulkEntries {H : Type} : List (Lit × DataW H) → Nat
  | [] => 0
  | x :: r => uptoBulkEntry x + uptoBulkEntries r
def uptoBulkEntry {H : Type} : Lit × DataW H → Nat
  | (.string bytes, d) => bytes.length + uptoBulk d + 1
  | (_, d) => uptoBulk d + 1
 end
def uptoSmall : (H : Type) → List (DataW H) → Bool := fun _ ds => decide (uptoBulkAll ds ≤ 1048576)
def OpenSpec.upto (s : _root_.Go.ChangeSpec) : _root_.Go.OpenSpec := { _root_.Go.OpenSpec.ofChange s with cond := some uptoSmall }

/-- 'laws.FnRules', WHERE WHAT IT READS IS OF BULK AT MOST 1048576: true; the input reads as it did. -/
def fnRulesUptoRow : OpenClaim := { program := "ytonkbpnchcgmmaadoor", sum := "660e9658e7ca2b86775d82cbac1ae3d60d750041e3569214c75eeb37350e68ff", func := "loop.example/g00631/laws.FnRules", spec := "fnRules", named := ["loop.example/g00631/impl.rules"], apart := false, laid := [("loop.example/g00631/impl.rules", laid_loop_example_g00631_impl_rules)], narrowed := true }
def FnRulesUptoSaid : Prop := fnRulesUptoRow.holds Tryd.pinned (OpenSpec.upto fnRulesSpec)

/-- 'laws.FnExactProposalFor', WHERE WHAT IT READS IS OF BULK AT MOST 1048576: true; the input reads as it did. -/
def fnExactProposalForUptoRow : OpenClaim := { program := "ytonkbpnchcgmmaadoor", sum := "660e9658e7ca2b86775d82cbac1ae3d60d750041e3569214c75eeb37350e68ff", func := "loop.example/g00631/laws.FnExactProposalFor", spec := "fnExactProposalFor", named := ["loop.example/g00631/impl.rules"], apart := false, laid := [("loop.example/g00631/impl.rules", laid_loop_example_g00631_impl_rules)], narrowed := true }
def FnExactProposalForUptoSaid : Prop := fnExactProposalForUptoRow.holds Tryd.pinned (OpenSpec.upto fnExactProposalForSpec)

/-- 'laws.FnExactChoiceFor', WHERE WHAT IT READS IS OF BULK AT MOST 1048576: true; the input reads as it did. -/
def fnExactChoiceForUptoRow : OpenClaim := { program := "ytonkbpnchcgmmaadoor", sum := "660e9658e7ca2b86775d82cbac1ae3d60d750041e3569214c75eeb37350e68ff", func := "loop.example/g00631/laws.FnExactChoiceFor", spec := "fnExactChoiceFor", named := ["loop.example/g00631/impl.rules"], apart := false, laid := [("loop.example/g00631/impl.rules", laid_loop_example_g00631_impl_rules)], narrowed := true }
def FnExactChoiceForUptoSaid : Prop := fnExactChoiceForUptoRow.holds Tryd.pinned (OpenSpec.upto fnExactChoiceForSpec)

/-- 'laws.FnExactMayPropose', WHERE WHAT IT READS IS OF BULK AT MOST 1048576: true; the input reads as it did. -/
def fnExactMayProposeUptoRow : OpenClaim := { program := "ytonkbpnchcgmmaadoor", sum := "660e9658e7ca2b86775d82cbac1ae3d60d750041e3569214c75eeb37350e68ff", func := "loop.example/g00631/laws.FnExactMayPropose", spec := "fnExactMayPropose", named := ["loop.example/g00631/impl.rules"], apart := false, laid := [("loop.example/g00631/impl.rules", laid_loop_example_g00631_impl_rules)], narrowed := true }
def FnExactMayProposeUptoSaid : Prop := fnExactMayProposeUptoRow.holds Tryd.pinned (OpenSpec.upto fnExactMayProposeSpec)

/-- 'laws.FnExactMayReport', WHERE WHAT IT READS IS OF BULK AT MOST 1048576: true; the input reads as it did. -/
def fnExactMayReportUptoRow : OpenClaim := { program := "ytonkbpnchcgmmaadoor", sum := "660e9658e7ca2b86775d82cbac1ae3d60d750041e3569214c75eeb37350e68ff", func := "loop.example/g00631/laws.FnExactMayReport", spec := "fnExactMayReport", named := ["loop.example/g00631/impl.rules"], apart := false, laid := [("loop.example/g00631/impl.rules", laid_loop_example_g00631_impl_rules)], narrowed := true }
def FnExactMayReportUptoSaid : Prop := fnExactMayReportUptoRow.holds Tryd.pinned (OpenSpec.upto fnExactMayReportSpec)

end Rows
end Go.Proofs.YtonkbpnchcgmmaaDoor
