/-
  NARROWER THAN 'FOR EVERY INPUT', by the rows' own cells (each row's printed sentence says how): FnExactDropTent: laid · FnExactOptDeliver: laid · FnExactDeliver: laid · FnOpts: laid · FnDelivers: laid · FnReplies: laid.
  DERIVED. THE GIVEN ROWS OF THIS SEAT. 6 by the template 'for every input the law returns true; each argument reads behind the call as it read before'; 0 by the template 'total and deterministic' (their statements: YtfdkcbafpiojkaaGreatDoorTotals.lean).
  GIVEN WITH THE SEED: the statements are not yours to turn. If you find one false, say at which input.
  Laid BY PROGRAM, IN A SANDBOX (cutbox-rows.mjs): the forced cells as the released guide's own fill.sh prints them over the translation bc2070509e115752… (all of the seat's roots in one cut). By AI agents, Wed Nov 11 2026. No macro, syntax, notation, axiom, sorry.
-/
import Derived.Test.YtfdkcbafpiojkaaGreatDoorChecked
import GoSem.Claim
import GoSem.ClaimJoined
import GoSem.ClaimMapViews
import Derived.JoinedTies
import Derived.KernelRfl
namespace Go.Proofs.YtfdkcbafpiojkaaGreatDoor
/- THE CELL 'sum', in the pinned program and in every row, IS THE sha256 OF THE DUMP (.gsa) THAT YtfdkcbafpiojkaaGreatDoorProg.lean LOADS. Nothing in Lean hashes anything: it is a label: what it is worth is what the hold of that sum in a sandbox is worth. -/
noncomputable def Tryz.pinned : Pinned := { name := "ytfdkcbafpiojkaagreatdoor", sum := "bc2070509e115752c02676a4daf7be3c42278637475ab8352d6f63a81d1f6265", checked := Tryz.checked }
namespace Rows
def none {H : Type} : Left H := { results := [], args := [] }

/- WHAT THE LISTED PACKAGE-LEVEL VARIABLES READ AS WHEN THE CALL BEGINS. Each datum BY PROGRAM (the guide's laid-datum.mjs) off the statement by which the dump's own 'gosem.cut.vars' lays the variable. In a bare row this is a premise. The card (YtfdkcbafpiojkaaGreatDoorCards.lean) ties it to the program's text. -/
def laid_errors_errorType {H : Type} : DataW H := .iface "internal/reflectlite.rtype" (.agg [.ptr (.lit (.string [101, 114, 114, 111, 114]))])

/-- 'laws.FnExactDropTent': WHATEVER THE INPUT: true; the input reads as it did. -/
def fnExactDropTentSpec : ChangeSpec := { name := "fnExactDropTent", fn := fun _ => fun
  | [d] => { results := [.lit (.bool true)], args := [d] }
  | _ => none }
def fnExactDropTentRow : OpenClaim := { program := "ytfdkcbafpiojkaagreatdoor", sum := "bc2070509e115752c02676a4daf7be3c42278637475ab8352d6f63a81d1f6265", func := "loop.example/g00631/laws.FnExactDropTent", spec := "fnExactDropTent", inPlace := ["internal/reflectlite.ValueOf", "(internal/reflectlite.Value).Type", "(internal/reflectlite.Value).IsNil", "internal/reflectlite.TypeOf", "(internal/reflectlite.Value).Elem", "(internal/reflectlite.Value).Set"], unfollowed := true, recurses := true, named := ["errors.errorType"], apart := false, laid := [("errors.errorType", laid_errors_errorType)] }
def FnExactDropTentSaid : Prop := fnExactDropTentRow.holds Tryz.pinned (OpenSpec.ofChange fnExactDropTentSpec)

/-- ITS FALSE NEIGHBOUR: 'it returns false'. Refute it at one input. -/
def fnExactDropTentWrong : ChangeSpec := { name := "fnExactDropTent", fn := fun _ => fun
  | [d] => { results := [.lit (.bool false)], args := [d] }
  | _ => none }
def FnExactDropTentWrongFalsely : Prop := fnExactDropTentRow.holds Tryz.pinned (OpenSpec.ofChange fnExactDropTentWrong)

/-- 'laws.FnExactOptDeliver': WHATEVER THE INPUT: true; the input reads as it did. -/
def fnExactOptDeliverSpec : ChangeSpec := { name := "fnExactOptDeliver", fn := fun _ => fun
  | [d1, d2] => { results := [.lit (.bool true)], args := [d1, d2] }
  | _ => none }
def fnExactOptDeliverRow : OpenClaim := { program := "ytfdkcbafpiojkaagreatdoor", sum := "bc2070509e115752c02676a4daf7be3c42278637475ab8352d6f63a81d1f6265", func := "loop.example/g00631/laws.FnExactOptDeliver", spec := "fnExactOptDeliver", inPlace := ["internal/reflectlite.ValueOf", "(internal/reflectlite.Value).Type", "(internal/reflectlite.Value).IsNil", "internal/reflectlite.TypeOf", "(internal/reflectlite.Value).Elem", "(internal/reflectlite.Value).Set"], unfollowed := true, recurses := true, named := ["errors.errorType"], apart := false, laid := [("errors.errorType", laid_errors_errorType)] }
def FnExactOptDeliverSaid : Prop := fnExactOptDeliverRow.holds Tryz.pinned (OpenSpec.ofChange fnExactOptDeliverSpec)

/-- ITS FALSE NEIGHBOUR: 'it returns false'. Refute it at one input. -/
def fnExactOptDeliverWrong : ChangeSpec := { name := "fnExactOptDeliver", fn := fun _ => fun
  | [d1, d2] => { results := [.lit (.bool false)], args := [d1, d2] }
  | _ => none }
def FnExactOptDeliverWrongFalsely : Prop := fnExactOptDeliverRow.holds Tryz.pinned (OpenSpec.ofChange fnExactOptDeliverWrong)

/-- 'laws.FnExactDeliver': WHATEVER THE INPUT: true; the input reads as it did. -/
def fnExactDeliverSpec : ChangeSpec := { name := "fnExactDeliver", fn := fun _ => fun
  | [d1, d2] => { results := [.lit (.bool true)], args := [d1, d2] }
  | _ => none }
def fnExactDeliverRow : OpenClaim := { program := "ytfdkcbafpiojkaagreatdoor", sum := "bc2070509e115752c02676a4daf7be3c42278637475ab8352d6f63a81d1f6265", func := "loop.example/g00631/laws.FnExactDeliver", spec := "fnExactDeliver", inPlace := ["internal/reflectlite.ValueOf", "(internal/reflectlite.Value).Type", "(internal/reflectlite.Value).IsNil", "internal/reflectlite.TypeOf", "(internal/reflectlite.Value).Elem", "(internal/reflectlite.Value).Set"], unfollowed := true, recurses := true, named := ["errors.errorType"], apart := false, laid := [("errors.errorType", laid_errors_errorType)] }
def FnExactDeliverSaid : Prop := fnExactDeliverRow.holds Tryz.pinned (OpenSpec.ofChange fnExactDeliverSpec)

/-- ITS FALSE NEIGHBOUR: 'it returns false'. Refute it at one input. -/
def fnExactDeliverWrong : ChangeSpec := { name := "fnExactDeliver", fn := fun _ => fun
  | [d1, d2] => { results := [.lit (.bool false)], args := [d1, d2] }
  | _ => none }
def FnExactDeliverWrongFalsely : Prop := fnExactDeliverRow.holds Tryz.pinned (OpenSpec.ofChange fnExactDeliverWrong)

/-- 'laws.FnOpts': WHATEVER THE INPUT: true; the input reads as it did. -/
def fnOptsSpec : ChangeSpec := { name := "fnOpts", fn := fun _ => fun
  | [d] => { results := [.lit (.bool true)], args := [d] }
  | _ => none }
def fnOptsRow : OpenClaim := { program := "ytfdkcbafpiojkaagreatdoor", sum := "bc2070509e115752c02676a4daf7be3c42278637475ab8352d6f63a81d1f6265", func := "loop.example/g00631/laws.FnOpts", spec := "fnOpts", inPlace := ["internal/reflectlite.ValueOf", "(internal/reflectlite.Value).Type", "(internal/reflectlite.Value).IsNil", "internal/reflectlite.TypeOf", "(internal/reflectlite.Value).Elem", "(internal/reflectlite.Value).Set"], unfollowed := true, recurses := true, named := ["errors.errorType"], apart := false, laid := [("errors.errorType", laid_errors_errorType)] }
def FnOptsSaid : Prop := fnOptsRow.holds Tryz.pinned (OpenSpec.ofChange fnOptsSpec)

/-- ITS FALSE NEIGHBOUR: 'it returns false'. Refute it at one input. -/
def fnOptsWrong : ChangeSpec := { name := "fnOpts", fn := fun _ => fun
  | [d] => { results := [.lit (.bool false)], args := [d] }
  | _ => none }
def FnOptsWrongFalsely : Prop := fnOptsRow.holds Tryz.pinned (OpenSpec.ofChange fnOptsWrong)

/-- 'laws.FnDelivers': WHATEVER THE INPUT: true; the input reads as it did. -/
def fnDeliversSpec : ChangeSpec := { name := "fnDelivers", fn := fun _ => fun
  | [d] => { results := [.lit (.bool true)], args := [d] }
  | _ => none }
def fnDeliversRow : OpenClaim := { program := "ytfdkcbafpiojkaagreatdoor", sum := "bc2070509e115752c02676a4daf7be3c42278637475ab8352d6f63a81d1f6265", func := "loop.example/g00631/laws.FnDelivers", spec := "fnDelivers", inPlace := ["internal/reflectlite.ValueOf", "(internal/reflectlite.Value).Type", "(internal/reflectlite.Value).IsNil", "internal/reflectlite.TypeOf", "(internal/reflectlite.Value).Elem", "(internal/reflectlite.Value).Set"], unfollowed := true, recurses := true, named := ["errors.errorType"], apart := false, laid := [("errors.errorType", laid_errors_errorType)] }
def FnDeliversSaid : Prop := fnDeliversRow.holds Tryz.pinned (OpenSpec.ofChange fnDeliversSpec)

/-- ITS FALSE NEIGHBOUR: 'it returns false'. Refute it at one input. -/
def fnDeliversWrong : ChangeSpec := { name := "fnDelivers", fn := fun _ => fun
  | [d] => { results := [.lit (.bool false)], args := [d] }
  | _ => none }
def FnDeliversWrongFalsely : Prop := fnDeliversRow.holds Tryz.pinned (OpenSpec.ofChange fnDeliversWrong)

/-- 'laws.FnReplies': WHATEVER THE INPUT: true; the input reads as it did. -/
def fnRepliesSpec : ChangeSpec := { name := "fnReplies", fn := fun _ => fun
  | [d] => { results := [.lit (.bool true)], args := [d] }
  | _ => none }
def fnRepliesRow : OpenClaim := { program := "ytfdkcbafpiojkaagreatdoor", sum := "bc2070509e115752c02676a4daf7be3c42278637475ab8352d6f63a81d1f6265", func := "loop.example/g00631/laws.FnReplies", spec := "fnReplies", inPlace := ["internal/reflectlite.ValueOf", "(internal/reflectlite.Value).Type", "(internal/reflectlite.Value).IsNil", "internal/reflectlite.TypeOf", "(internal/reflectlite.Value).Elem", "(internal/reflectlite.Value).Set"], unfollowed := true, recurses := true, named := ["errors.errorType"], apart := false, laid := [("errors.errorType", laid_errors_errorType)] }
def FnRepliesSaid : Prop := fnRepliesRow.holds Tryz.pinned (OpenSpec.ofChange fnRepliesSpec)

/-- ITS FALSE NEIGHBOUR: 'it returns false'. Refute it at one input. -/
def fnRepliesWrong : ChangeSpec := { name := "fnReplies", fn := fun _ => fun
  | [d] => { results := [.lit (.bool false)], args := [d] }
  | _ => none }
def FnRepliesWrongFalsely : Prop := fnRepliesRow.holds Tryz.pinned (OpenSpec.ofChange fnRepliesWrong)

/- THE SECOND FORM. 'bulk': how many values and letters a reading holds, each counted each time it is reached (what is shared counts as often as it is met; a slice's spare places count too). A statement '..UptoSaid' is the law's where the arguments, and the package variables that the reading takes, are together of bulk at most 1048576: NARROWER than '..Said'. Prove '..Said' where nothing that the law and all that it calls make is longer than what came in: it says more and counts as full. Else prove '..UptoSaid'. A law counts once. -/
mutual
def uptoBulk {H : Type} : DataW H → Nat
  | .lit (.string bytes) => bytes.length + 1
  | .lit _ => 1
  | .nil => 1
  | .ptr d => uptoBulk d + 1
  | .slice elems spare => uptoBulkAll elems + uptoBulkAll spare + 1
  | .agg parts => uptoBulkAll parts + 1
  | .iface _ d => uptoBulk d + 1
  | .map entries => uptoBulkEntries entries + 1
  | .held _ => 1
def uptoBulkAll {H : Type} : List (DataW H) → Nat
  | [] => 0
  | d :: r => uptoBulk d + uptoBulkAll r
def uptoBulkEntries {H : Type} : List (Lit × DataW H) → Nat
  | [] => 0
  | x :: r => uptoBulkEntry x + uptoBulkEntries r
def uptoBulkEntry {H : Type} : Lit × DataW H → Nat
  | (.string bytes, d) => bytes.length + uptoBulk d + 1
  | (_, d) => uptoBulk d + 1
 end
def uptoSmall : (H : Type) → List (DataW H) → Bool := fun _ ds => decide (uptoBulkAll ds ≤ 1048576)
def OpenSpec.upto (s : _root_.Go.ChangeSpec) : _root_.Go.OpenSpec := { _root_.Go.OpenSpec.ofChange s with cond := some uptoSmall }

/-- 'laws.FnExactDropTent', WHERE WHAT IT READS IS OF BULK AT MOST 1048576: true; the input reads as it did. -/
def fnExactDropTentUptoRow : OpenClaim := { program := "ytfdkcbafpiojkaagreatdoor", sum := "bc2070509e115752c02676a4daf7be3c42278637475ab8352d6f63a81d1f6265", func := "loop.example/g00631/laws.FnExactDropTent", spec := "fnExactDropTent", inPlace := ["internal/reflectlite.ValueOf", "(internal/reflectlite.Value).Type", "(internal/reflectlite.Value).IsNil", "internal/reflectlite.TypeOf", "(internal/reflectlite.Value).Elem", "(internal/reflectlite.Value).Set"], unfollowed := true, recurses := true, named := ["errors.errorType"], apart := false, laid := [("errors.errorType", laid_errors_errorType)], narrowed := true }
def FnExactDropTentUptoSaid : Prop := fnExactDropTentUptoRow.holds Tryz.pinned (OpenSpec.upto fnExactDropTentSpec)

/-- 'laws.FnExactOptDeliver', WHERE WHAT IT READS IS OF BULK AT MOST 1048576: true; the input reads as it did. -/
def fnExactOptDeliverUptoRow : OpenClaim := { program := "ytfdkcbafpiojkaagreatdoor", sum := "bc2070509e115752c02676a4daf7be3c42278637475ab8352d6f63a81d1f6265", func := "loop.example/g00631/laws.FnExactOptDeliver", spec := "fnExactOptDeliver", inPlace := ["internal/reflectlite.ValueOf", "(internal/reflectlite.Value).Type", "(internal/reflectlite.Value).IsNil", "internal/reflectlite.TypeOf", "(internal/reflectlite.Value).Elem", "(internal/reflectlite.Value).Set"], unfollowed := true, recurses := true, named := ["errors.errorType"], apart := false, laid := [("errors.errorType", laid_errors_errorType)], narrowed := true }
def FnExactOptDeliverUptoSaid : Prop := fnExactOptDeliverUptoRow.holds Tryz.pinned (OpenSpec.upto fnExactOptDeliverSpec)

/-- 'laws.FnExactDeliver', WHERE WHAT IT READS IS OF BULK AT MOST 1048576: true; the input reads as it did. -/
def fnExactDeliverUptoRow : OpenClaim := { program := "ytfdkcbafpiojkaagreatdoor", sum := "bc2070509e115752c02676a4daf7be3c42278637475ab8352d6f63a81d1f6265", func := "loop.example/g00631/laws.FnExactDeliver", spec := "fnExactDeliver", inPlace := ["internal/reflectlite.ValueOf", "(internal/reflectlite.Value).Type", "(internal/reflectlite.Value).IsNil", "internal/reflectlite.TypeOf", "(internal/reflectlite.Value).Elem", "(internal/reflectlite.Value).Set"], unfollowed := true, recurses := true, named := ["errors.errorType"], apart := false, laid := [("errors.errorType", laid_errors_errorType)], narrowed := true }
def FnExactDeliverUptoSaid : Prop := fnExactDeliverUptoRow.holds Tryz.pinned (OpenSpec.upto fnExactDeliverSpec)

/-- 'laws.FnOpts', WHERE WHAT IT READS IS OF BULK AT MOST 1048576: true; the input reads as it did. -/
def fnOptsUptoRow : OpenClaim := { program := "ytfdkcbafpiojkaagreatdoor", sum := "bc2070509e115752c02676a4daf7be3c42278637475ab8352d6f63a81d1f6265", func := "loop.example/g00631/laws.FnOpts", spec := "fnOpts", inPlace := ["internal/reflectlite.ValueOf", "(internal/reflectlite.Value).Type", "(internal/reflectlite.Value).IsNil", "internal/reflectlite.TypeOf", "(internal/reflectlite.Value).Elem", "(internal/reflectlite.Value).Set"], unfollowed := true, recurses := true, named := ["errors.errorType"], apart := false, laid := [("errors.errorType", laid_errors_errorType)], narrowed := true }
def FnOptsUptoSaid : Prop := fnOptsUptoRow.holds Tryz.pinned (OpenSpec.upto fnOptsSpec)

/-- 'laws.FnDelivers', WHERE WHAT IT READS IS OF BULK AT MOST 1048576: true; the input reads as it did. -/
def fnDeliversUptoRow : OpenClaim := { program := "ytfdkcbafpiojkaagreatdoor", sum := "bc2070509e115752c02676a4daf7be3c42278637475ab8352d6f63a81d1f6265", func := "loop.example/g00631/laws.FnDelivers", spec := "fnDelivers", inPlace := ["internal/reflectlite.ValueOf", "(internal/reflectlite.Value).Type", "(internal/reflectlite.Value).IsNil", "internal/reflectlite.TypeOf", "(internal/reflectlite.Value).Elem", "(internal/reflectlite.Value).Set"], unfollowed := true, recurses := true, named := ["errors.errorType"], apart := false, laid := [("errors.errorType", laid_errors_errorType)], narrowed := true }
def FnDeliversUptoSaid : Prop := fnDeliversUptoRow.holds Tryz.pinned (OpenSpec.upto fnDeliversSpec)

/-- 'laws.FnReplies', WHERE WHAT IT READS IS OF BULK AT MOST 1048576: true; the input reads as it did. -/
def fnRepliesUptoRow : OpenClaim := { program := "ytfdkcbafpiojkaagreatdoor", sum := "bc2070509e115752c02676a4daf7be3c42278637475ab8352d6f63a81d1f6265", func := "loop.example/g00631/laws.FnReplies", spec := "fnReplies", inPlace := ["internal/reflectlite.ValueOf", "(internal/reflectlite.Value).Type", "(internal/reflectlite.Value).IsNil", "internal/reflectlite.TypeOf", "(internal/reflectlite.Value).Elem", "(internal/reflectlite.Value).Set"], unfollowed := true, recurses := true, named := ["errors.errorType"], apart := false, laid := [("errors.errorType", laid_errors_errorType)], narrowed := true }
def FnRepliesUptoSaid : Prop := fnRepliesUptoRow.holds Tryz.pinned (OpenSpec.upto fnRepliesSpec)

end Rows
end Go.Proofs.YtfdkcbafpiojkaaGreatDoor
