/-
  No cell of these rows narrows 'for every input' (looked for: loops, veiled, ifaces, maps, wideKeys, modest, calm, conditions, laid).
  DERIVED. THE GIVEN ROWS OF THIS SEAT. 4 by the template 'for every input the law returns true; each argument reads behind the call as it read before'; 0 by the template 'total and deterministic' (their statements: YtkkdjgiencilbaaTotals.lean).
  GIVEN WITH THE SEED: the statements are not yours to turn. If you find one false, say at which input.
  Laid BY PROGRAM, IN A SANDBOX (cutbox-rows.mjs): the forced cells as the released guide's own fill.sh prints them over the translation 27f145d4c7bff473… (all of the seat's roots in one cut). By AI agents, Wed Nov 11 2026. No macro, syntax, notation, axiom, sorry.
-/
import Derived.Test.YtkkdjgiencilbaaChecked
import GoSem.Claim
import GoSem.ClaimJoined
import GoSem.ClaimMapViews
import Derived.JoinedTies
import Derived.KernelRfl
namespace Go.Proofs.Ytkkdjgiencilbaa
/- THE CELL 'sum', in the pinned program and in every row, IS THE sha256 OF THE DUMP (.gsa) THAT YtkkdjgiencilbaaProg.lean LOADS. Nothing in Lean hashes anything: it is a label: what it is worth is what the hold of that sum in a sandbox is worth. -/
noncomputable def Try.pinned : Pinned := { name := "ytkkdjgiencilbaa", sum := "27f145d4c7bff4732ce873cbc61ca37fbc7f1958a76649b332400572e32818d0", checked := Try.checked }
namespace Rows
def none {H : Type} : Left H := { results := [], args := [] }

/-- 'laws.FnExactSameClusters': WHATEVER THE INPUT: true; the input reads as it did. -/
def fnExactSameClustersSpec : ChangeSpec := { name := "fnExactSameClusters", fn := fun _ => fun
  | [d1, d2] => { results := [.lit (.bool true)], args := [d1, d2] }
  | _ => none }
def fnExactSameClustersRow : OpenClaim := { program := "ytkkdjgiencilbaa", sum := "27f145d4c7bff4732ce873cbc61ca37fbc7f1958a76649b332400572e32818d0", func := "loop.example/g00631/laws.FnExactSameClusters", spec := "fnExactSameClusters", unfollowed := true, recurses := true, apart := false }
def FnExactSameClustersSaid : Prop := fnExactSameClustersRow.holds Try.pinned (OpenSpec.ofChange fnExactSameClustersSpec)

/-- ITS FALSE NEIGHBOUR: 'it returns false'. Refute it at one input. -/
def fnExactSameClustersWrong : ChangeSpec := { name := "fnExactSameClusters", fn := fun _ => fun
  | [d1, d2] => { results := [.lit (.bool false)], args := [d1, d2] }
  | _ => none }
def FnExactSameClustersWrongFalsely : Prop := fnExactSameClustersRow.holds Try.pinned (OpenSpec.ofChange fnExactSameClustersWrong)

/-- 'laws.FnExactStepFault': WHATEVER THE INPUT: true; the input reads as it did. -/
def fnExactStepFaultSpec : ChangeSpec := { name := "fnExactStepFault", fn := fun _ => fun
  | [d] => { results := [.lit (.bool true)], args := [d] }
  | _ => none }
def fnExactStepFaultRow : OpenClaim := { program := "ytkkdjgiencilbaa", sum := "27f145d4c7bff4732ce873cbc61ca37fbc7f1958a76649b332400572e32818d0", func := "loop.example/g00631/laws.FnExactStepFault", spec := "fnExactStepFault", apart := false }
def FnExactStepFaultSaid : Prop := fnExactStepFaultRow.holds Try.pinned (OpenSpec.ofChange fnExactStepFaultSpec)

/-- ITS FALSE NEIGHBOUR: 'it returns false'. Refute it at one input. -/
def fnExactStepFaultWrong : ChangeSpec := { name := "fnExactStepFault", fn := fun _ => fun
  | [d] => { results := [.lit (.bool false)], args := [d] }
  | _ => none }
def FnExactStepFaultWrongFalsely : Prop := fnExactStepFaultRow.holds Try.pinned (OpenSpec.ofChange fnExactStepFaultWrong)

/-- 'laws.FnExactSubmittedIn': WHATEVER THE INPUT: true; the input reads as it did. -/
def fnExactSubmittedInSpec : ChangeSpec := { name := "fnExactSubmittedIn", fn := fun _ => fun
  | [d] => { results := [.lit (.bool true)], args := [d] }
  | _ => none }
def fnExactSubmittedInRow : OpenClaim := { program := "ytkkdjgiencilbaa", sum := "27f145d4c7bff4732ce873cbc61ca37fbc7f1958a76649b332400572e32818d0", func := "loop.example/g00631/laws.FnExactSubmittedIn", spec := "fnExactSubmittedIn", apart := false }
def FnExactSubmittedInSaid : Prop := fnExactSubmittedInRow.holds Try.pinned (OpenSpec.ofChange fnExactSubmittedInSpec)

/-- ITS FALSE NEIGHBOUR: 'it returns false'. Refute it at one input. -/
def fnExactSubmittedInWrong : ChangeSpec := { name := "fnExactSubmittedIn", fn := fun _ => fun
  | [d] => { results := [.lit (.bool false)], args := [d] }
  | _ => none }
def FnExactSubmittedInWrongFalsely : Prop := fnExactSubmittedInRow.holds Try.pinned (OpenSpec.ofChange fnExactSubmittedInWrong)

/-- 'laws.FnExactHasCrash': WHATEVER THE INPUT: true; the input reads as it did. -/
def fnExactHasCrashSpec : ChangeSpec := { name := "fnExactHasCrash", fn := fun _ => fun
  | [d] => { results := [.lit (.bool true)], args := [d] }
  | _ => none }
def fnExactHasCrashRow : OpenClaim := { program := "ytkkdjgiencilbaa", sum := "27f145d4c7bff4732ce873cbc61ca37fbc7f1958a76649b332400572e32818d0", func := "loop.example/g00631/laws.FnExactHasCrash", spec := "fnExactHasCrash", unfollowed := true, recurses := true, apart := false }
def FnExactHasCrashSaid : Prop := fnExactHasCrashRow.holds Try.pinned (OpenSpec.ofChange fnExactHasCrashSpec)

/-- ITS FALSE NEIGHBOUR: 'it returns false'. Refute it at one input. -/
def fnExactHasCrashWrong : ChangeSpec := { name := "fnExactHasCrash", fn := fun _ => fun
  | [d] => { results := [.lit (.bool false)], args := [d] }
  | _ => none }
def FnExactHasCrashWrongFalsely : Prop := fnExactHasCrashRow.holds Try.pinned (OpenSpec.ofChange fnExactHasCrashWrong)

/- THE SECOND FORM. 'bulk': how many values and letters a reading holds, each counted each time it is reached (what is shared counts as often as it is met; a slice's spare places count too). A statement '..UptoSaid' is the law's where the arguments, and the package variables that the reading takes, are together of bulk at most 1048576: NARROWER than '..Said'. Prove '..Said' where nothing that the law and all that it calls make is longer than what came in: it says more and counts as full. Else prove '..UptoSaid'. A law counts once. -/
mutual
def uptoBulk {H : Type} : DataW H → Nat
  | .lit (.string bytes) => bytes.length + 1
  | .lit _ => 1
  | .nil => 1
  | .ptr d => uptoBulk d + 1
  | .slice elems spare => uptoBulkAll elems + uptoBulkAll spare + 1
  | .agg parts => uptoBulkAll parts + 1
  | .iface _ d => uptoBulk d + 1
  | .map entries => uptoBulkEntries entries + 1
  | .held _ => 1
def uptoBulkAll {H : Type} : List (DataW H) → Nat
  | [] => 0
  | d :: r => uptoBulk d + uptoBulkAll r
def uptoBulkEntries {H : Type} : List (Lit × DataW H) → Nat
  | [] => 0
  | x :: r => uptoBulkEntry x + uptoBulkEntries r
def uptoBulkEntry {H : Type} : Lit × DataW H → Nat
  | (.string bytes, d) => bytes.length + uptoBulk d + 1
  | (_, d) => uptoBulk d + 1
 end
def uptoSmall : (H : Type) → List (DataW H) → Bool := fun _ ds => decide (uptoBulkAll ds ≤ 1048576)
def OpenSpec.upto (s : _root_.Go.ChangeSpec) : _root_.Go.OpenSpec := { _root_.Go.OpenSpec.ofChange s with cond := some uptoSmall }

/-- 'laws.FnExactSameClusters', WHERE WHAT IT READS IS OF BULK AT MOST 1048576: true; the input reads as it did. -/
def fnExactSameClustersUptoRow : OpenClaim := { program := "ytkkdjgiencilbaa", sum := "27f145d4c7bff4732ce873cbc61ca37fbc7f1958a76649b332400572e32818d0", func := "loop.example/g00631/laws.FnExactSameClusters", spec := "fnExactSameClusters", unfollowed := true, recurses := true, apart := false, narrowed := true }
def FnExactSameClustersUptoSaid : Prop := fnExactSameClustersUptoRow.holds Try.pinned (OpenSpec.upto fnExactSameClustersSpec)

/-- 'laws.FnExactStepFault', WHERE WHAT IT READS IS OF BULK AT MOST 1048576: true; the input reads as it did. -/
def fnExactStepFaultUptoRow : OpenClaim := { program := "ytkkdjgiencilbaa", sum := "27f145d4c7bff4732ce873cbc61ca37fbc7f1958a76649b332400572e32818d0", func := "loop.example/g00631/laws.FnExactStepFault", spec := "fnExactStepFault", apart := false, narrowed := true }
def FnExactStepFaultUptoSaid : Prop := fnExactStepFaultUptoRow.holds Try.pinned (OpenSpec.upto fnExactStepFaultSpec)

/-- 'laws.FnExactSubmittedIn', WHERE WHAT IT READS IS OF BULK AT MOST 1048576: true; the input reads as it did. -/
def fnExactSubmittedInUptoRow : OpenClaim := { program := "ytkkdjgiencilbaa", sum := "27f145d4c7bff4732ce873cbc61ca37fbc7f1958a76649b332400572e32818d0", func := "loop.example/g00631/laws.FnExactSubmittedIn", spec := "fnExactSubmittedIn", apart := false, narrowed := true }
def FnExactSubmittedInUptoSaid : Prop := fnExactSubmittedInUptoRow.holds Try.pinned (OpenSpec.upto fnExactSubmittedInSpec)

/-- 'laws.FnExactHasCrash', WHERE WHAT IT READS IS OF BULK AT MOST 1048576: true; the input reads as it did. -/
def fnExactHasCrashUptoRow : OpenClaim := { program := "ytkkdjgiencilbaa", sum := "27f145d4c7bff4732ce873cbc61ca37fbc7f1958a76649b332400572e32818d0", func := "loop.example/g00631/laws.FnExactHasCrash", spec := "fnExactHasCrash", unfollowed := true, recurses := true, apart := false, narrowed := true }
def FnExactHasCrashUptoSaid : Prop := fnExactHasCrashUptoRow.holds Try.pinned (OpenSpec.upto fnExactHasCrashSpec)

end Rows
end Go.Proofs.Ytkkdjgiencilbaa
