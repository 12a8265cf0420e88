/-
  NARROWER THAN 'FOR EVERY INPUT', by the rows' own cells (each row's printed sentence says how): FnOrders: laid · FnChanges: laid · FnDelivers: laid.
  DERIVED. THE GIVEN ROWS OF THIS SEAT. 3 by the template 'for every input the law returns true; each argument reads behind the call as it read before'; 0 by the template 'total and deterministic' (their statements: YtciofogeiohleaaGreatDoorTotals.lean).
  GIVEN WITH THE SEED: the statements are not yours to turn. If you find one false, say at which input.
  Laid BY PROGRAM, IN A SANDBOX (cutbox-rows.mjs): the forced cells as the released guide's own fill.sh prints them over the translation ed15de73b71518e6… (all of the seat's roots in one cut). By AI agents, Wed Nov 11 2026. No macro, syntax, notation, axiom, sorry.
-/
import Derived.Test.YtciofogeiohleaaGreatDoorChecked
import GoSem.Claim
import GoSem.ClaimJoined
import GoSem.ClaimMapViews
import Derived.JoinedTies
import Derived.KernelRfl
namespace Go.Proofs.YtciofogeiohleaaGreatDoor
/- THE CELL 'sum', in the pinned program and in every row, IS THE sha256 OF THE DUMP (.gsa) THAT YtciofogeiohleaaGreatDoorProg.lean LOADS. Nothing in Lean hashes anything: it is a label: what it is worth is what the hold of that sum in a sandbox is worth. -/
noncomputable def Tryz.pinned : Pinned := { name := "ytciofogeiohleaagreatdoor", sum := "ed15de73b71518e69a981731773e06eb07026817303f2ce8ff6591e746694ad9", checked := Tryz.checked }
namespace Rows
def none {H : Type} : Left H := { results := [], args := [] }

/- WHAT THE LISTED PACKAGE-LEVEL VARIABLES READ AS WHEN THE CALL BEGINS. Each datum BY PROGRAM (the guide's laid-datum.mjs) off the statement by which the dump's own 'gosem.cut.vars' lays the variable. In a bare row this is a premise. The card (YtciofogeiohleaaGreatDoorCards.lean) ties it to the program's text. -/
def laid_loop_example_g00631_impl_rules {H : Type} : DataW H := .agg [.agg [.lit (.int .i64 2), .lit (.int .i64 0), .lit (.int .i64 0), .agg [.lit (.int .i64 0), .lit (.bool true), .lit (.bool false), .lit (.int .i64 0)]], .agg [.lit (.int .i64 0), .lit (.int .i64 2), .lit (.int .i64 1), .agg [.lit (.int .i64 0), .lit (.bool true), .lit (.bool false), .lit (.int .i64 1)]], .agg [.lit (.int .i64 1), .lit (.int .i64 0), .lit (.int .i64 2), .agg [.lit (.int .i64 0), .lit (.bool false), .lit (.bool false), .lit (.int .i64 0)]], .agg [.lit (.int .i64 0), .lit (.int .i64 1), .lit (.int .i64 2), .agg [.lit (.int .i64 0), .lit (.bool false), .lit (.bool false), .lit (.int .i64 1)]], .agg [.lit (.int .i64 0), .lit (.int .i64 0), .lit (.int .i64 2), .agg [.lit (.int .i64 0), .lit (.bool false), .lit (.bool true), .lit (.int .i64 0)]]]
def laid_loop_example_g00631_impl_openRow {H : Type} : DataW H := .agg [.lit (.int .i64 3), .lit (.int .i64 3), .lit (.int .i64 3)]
def laid_errors_errorType {H : Type} : DataW H := .iface "internal/reflectlite.rtype" (.agg [.ptr (.lit (.string [101, 114, 114, 111, 114]))])

/-- 'laws.FnOrders': WHATEVER THE INPUT: true; the input reads as it did. -/
def fnOrdersSpec : ChangeSpec := { name := "fnOrders", vars := ["loop.example/g00631/impl.rules", "loop.example/g00631/impl.openRow"], fn := fun _ => fun
  | [d, g1, g2] => { results := [.lit (.bool true)], args := [d], vars := [g1, g2] }
  | _ => none }
def fnOrdersRow : OpenClaim := { program := "ytciofogeiohleaagreatdoor", sum := "ed15de73b71518e69a981731773e06eb07026817303f2ce8ff6591e746694ad9", func := "loop.example/g00631/laws.FnOrders", spec := "fnOrders", unfollowed := true, recurses := true, named := ["loop.example/g00631/impl.rules", "loop.example/g00631/impl.openRow"], plainKeys := false, apart := false, laid := [("loop.example/g00631/impl.rules", laid_loop_example_g00631_impl_rules), ("loop.example/g00631/impl.openRow", laid_loop_example_g00631_impl_openRow)] }
def FnOrdersSaid : Prop := fnOrdersRow.holds Tryz.pinned (OpenSpec.ofChange fnOrdersSpec)

/-- ITS FALSE NEIGHBOUR: 'it returns false'. Refute it at one input. -/
def fnOrdersWrong : ChangeSpec := { name := "fnOrders", vars := ["loop.example/g00631/impl.rules", "loop.example/g00631/impl.openRow"], fn := fun _ => fun
  | [d, g1, g2] => { results := [.lit (.bool false)], args := [d], vars := [g1, g2] }
  | _ => none }
def FnOrdersWrongFalsely : Prop := fnOrdersRow.holds Tryz.pinned (OpenSpec.ofChange fnOrdersWrong)

/-- 'laws.FnChanges': WHATEVER THE INPUT: true; the input reads as it did. -/
def fnChangesSpec : ChangeSpec := { name := "fnChanges", vars := ["loop.example/g00631/impl.rules"], fn := fun _ => fun
  | [d, g1] => { results := [.lit (.bool true)], args := [d], vars := [g1] }
  | _ => none }
def fnChangesRow : OpenClaim := { program := "ytciofogeiohleaagreatdoor", sum := "ed15de73b71518e69a981731773e06eb07026817303f2ce8ff6591e746694ad9", func := "loop.example/g00631/laws.FnChanges", spec := "fnChanges", unfollowed := true, recurses := true, named := ["loop.example/g00631/impl.rules"], plainKeys := false, apart := false, laid := [("loop.example/g00631/impl.rules", laid_loop_example_g00631_impl_rules)] }
def FnChangesSaid : Prop := fnChangesRow.holds Tryz.pinned (OpenSpec.ofChange fnChangesSpec)

/-- ITS FALSE NEIGHBOUR: 'it returns false'. Refute it at one input. -/
def fnChangesWrong : ChangeSpec := { name := "fnChanges", vars := ["loop.example/g00631/impl.rules"], fn := fun _ => fun
  | [d, g1] => { results := [.lit (.bool false)], args := [d], vars := [g1] }
  | _ => none }
def FnChangesWrongFalsely : Prop := fnChangesRow.holds Tryz.pinned (OpenSpec.ofChange fnChangesWrong)

/-- 'laws.FnDelivers': WHATEVER THE INPUT: true; the input reads as it did. -/
def fnDeliversSpec : ChangeSpec := { name := "fnDelivers", fn := fun _ => fun
  | [d] => { results := [.lit (.bool true)], args := [d] }
  | _ => none }
def fnDeliversRow : OpenClaim := { program := "ytciofogeiohleaagreatdoor", sum := "ed15de73b71518e69a981731773e06eb07026817303f2ce8ff6591e746694ad9", func := "loop.example/g00631/laws.FnDelivers", spec := "fnDelivers", inPlace := ["internal/reflectlite.ValueOf", "(internal/reflectlite.Value).Type", "(internal/reflectlite.Value).IsNil", "internal/reflectlite.TypeOf", "(internal/reflectlite.Value).Elem", "(internal/reflectlite.Value).Set"], unfollowed := true, recurses := true, named := ["errors.errorType"], plainKeys := false, apart := false, laid := [("errors.errorType", laid_errors_errorType)] }
def FnDeliversSaid : Prop := fnDeliversRow.holds Tryz.pinned (OpenSpec.ofChange fnDeliversSpec)

/-- ITS FALSE NEIGHBOUR: 'it returns false'. Refute it at one input. -/
def fnDeliversWrong : ChangeSpec := { name := "fnDelivers", fn := fun _ => fun
  | [d] => { results := [.lit (.bool false)], args := [d] }
  | _ => none }
def FnDeliversWrongFalsely : Prop := fnDeliversRow.holds Tryz.pinned (OpenSpec.ofChange fnDeliversWrong)

/- THE SECOND FORM. 'bulk': how many values and letters a reading holds, each counted each time it is reached (what is shared counts as often as it is met; a slice's spare places count too). A statement '..UptoSaid' is the law's where the arguments, and the package variables that the reading takes, are together of bulk at most 1048576: NARROWER than '..Said'. Prove '..Said' where nothing that the law and all that it calls make is longer than what came in: it says more and counts as full. Else prove '..UptoSaid'. A law counts once. -/
mutual
def uptoBulk {H : Type} : DataW H → Nat
  | .lit (.string bytes) => bytes.length + 1
  | .lit _ => 1
  | .nil => 1
  | .ptr d => uptoBulk d + 1
  | .slice elems spare => uptoBulkAll elems + uptoBulkAll spare + 1
  | .agg parts => uptoBulkAll parts + 1
  | .iface _ d => uptoBulk d + 1
  | .map entries => uptoBulkEntries entries + 1
  | .held _ => 1
def uptoBulkAll {H : Type} : List (DataW H) → Nat
  | [] => 0
  | d :: r => uptoBulk d + uptoBulkAll r
def uptoBulkEntries {H : Type} : List (Lit × DataW H) → Nat
  | [] => 0
  | x :: r => uptoBulkEntry x + uptoBulkEntries r
def uptoBulkEntry {H : Type} : Lit × DataW H → Nat
  | (.string bytes, d) => bytes.length + uptoBulk d + 1
  | (_, d) => uptoBulk d + 1
 end
def uptoSmall : (H : Type) → List (DataW H) → Bool := fun _ ds => decide (uptoBulkAll ds ≤ 1048576)
def OpenSpec.upto (s : _root_.Go.ChangeSpec) : _root_.Go.OpenSpec := { _root_.Go.OpenSpec.ofChange s with cond := some uptoSmall }

/-- 'laws.FnOrders', WHERE WHAT IT READS IS OF BULK AT MOST 1048576: true; the input reads as it did. -/
def fnOrdersUptoRow : OpenClaim := { program := "ytciofogeiohleaagreatdoor", sum := "ed15de73b71518e69a981731773e06eb07026817303f2ce8ff6591e746694ad9", func := "loop.example/g00631/laws.FnOrders", spec := "fnOrders", unfollowed := true, recurses := true, named := ["loop.example/g00631/impl.rules", "loop.example/g00631/impl.openRow"], plainKeys := false, apart := false, laid := [("loop.example/g00631/impl.rules", laid_loop_example_g00631_impl_rules), ("loop.example/g00631/impl.openRow", laid_loop_example_g00631_impl_openRow)], narrowed := true }
def FnOrdersUptoSaid : Prop := fnOrdersUptoRow.holds Tryz.pinned (OpenSpec.upto fnOrdersSpec)

/-- 'laws.FnChanges', WHERE WHAT IT READS IS OF BULK AT MOST 1048576: true; the input reads as it did. -/
def fnChangesUptoRow : OpenClaim := { program := "ytciofogeiohleaagreatdoor", sum := "ed15de73b71518e69a981731773e06eb07026817303f2ce8ff6591e746694ad9", func := "loop.example/g00631/laws.FnChanges", spec := "fnChanges", unfollowed := true, recurses := true, named := ["loop.example/g00631/impl.rules"], plainKeys := false, apart := false, laid := [("loop.example/g00631/impl.rules", laid_loop_example_g00631_impl_rules)], narrowed := true }
def FnChangesUptoSaid : Prop := fnChangesUptoRow.holds Tryz.pinned (OpenSpec.upto fnChangesSpec)

/-- 'laws.FnDelivers', WHERE WHAT IT READS IS OF BULK AT MOST 1048576: true; the input reads as it did. -/
def fnDeliversUptoRow : OpenClaim := { program := "ytciofogeiohleaagreatdoor", sum := "ed15de73b71518e69a981731773e06eb07026817303f2ce8ff6591e746694ad9", func := "loop.example/g00631/laws.FnDelivers", spec := "fnDelivers", inPlace := ["internal/reflectlite.ValueOf", "(internal/reflectlite.Value).Type", "(internal/reflectlite.Value).IsNil", "internal/reflectlite.TypeOf", "(internal/reflectlite.Value).Elem", "(internal/reflectlite.Value).Set"], unfollowed := true, recurses := true, named := ["errors.errorType"], plainKeys := false, apart := false, laid := [("errors.errorType", laid_errors_errorType)], narrowed := true }
def FnDeliversUptoSaid : Prop := fnDeliversUptoRow.holds Tryz.pinned (OpenSpec.upto fnDeliversSpec)

end Rows
end Go.Proofs.YtciofogeiohleaaGreatDoor
