/-
  No cell of these rows narrows 'for every input' (looked for: loops, veiled, ifaces, maps, wideKeys, modest, calm, conditions, laid).
  DERIVED. THE GIVEN ROWS OF THIS SEAT. 5 by the template 'for every input the law returns true; each argument reads behind the call as it read before'; 0 by the template 'total and deterministic' (their statements: YtlnocniiehaekaaTotals.lean).
  GIVEN WITH THE SEED: the statements are not yours to turn. If you find one false, say at which input.
  Laid BY PROGRAM, IN A SANDBOX (cutbox-rows.mjs): the forced cells as the released guide's own fill.sh prints them over the translation 72e465f4b764c08c… (all of the seat's roots in one cut). By AI agents, Wed Nov 11 2026. No macro, syntax, notation, axiom, sorry.
-/
import Derived.Test.YtlnocniiehaekaaChecked
import GoSem.Claim
import GoSem.ClaimJoined
import GoSem.ClaimMapViews
import Derived.JoinedTies
import Derived.KernelRfl
namespace Go.Proofs.Ytlnocniiehaekaa
/- THE CELL 'sum', in the pinned program and in every row, IS THE sha256 OF THE DUMP (.gsa) THAT YtlnocniiehaekaaProg.lean LOADS. Nothing in Lean hashes anything: it is a label: what it is worth is what the hold of that sum in a sandbox is worth. -/
noncomputable def Try.pinned : Pinned := { name := "ytlnocniiehaekaa", sum := "72e465f4b764c08c6b2309f749a51c67f1427686d416fee166313ac8f96ff89a", checked := Try.checked }
namespace Rows
def none {H : Type} : Left H := { results := [], args := [] }

/-- 'laws.FnExactTxnFault': WHATEVER THE INPUT: true; the input reads as it did. -/
def fnExactTxnFaultSpec : ChangeSpec := { name := "fnExactTxnFault", fn := fun _ => fun
  | [d] => { results := [.lit (.bool true)], args := [d] }
  | _ => none }
def fnExactTxnFaultRow : OpenClaim := { program := "ytlnocniiehaekaa", sum := "72e465f4b764c08c6b2309f749a51c67f1427686d416fee166313ac8f96ff89a", func := "loop.example/g00631/laws.FnExactTxnFault", spec := "fnExactTxnFault", apart := false }
def FnExactTxnFaultSaid : Prop := fnExactTxnFaultRow.holds Try.pinned (OpenSpec.ofChange fnExactTxnFaultSpec)

/-- ITS FALSE NEIGHBOUR: 'it returns false'. Refute it at one input. -/
def fnExactTxnFaultWrong : ChangeSpec := { name := "fnExactTxnFault", fn := fun _ => fun
  | [d] => { results := [.lit (.bool false)], args := [d] }
  | _ => none }
def FnExactTxnFaultWrongFalsely : Prop := fnExactTxnFaultRow.holds Try.pinned (OpenSpec.ofChange fnExactTxnFaultWrong)

/-- 'laws.FnExactPackTxn': WHATEVER THE INPUT: true; the input reads as it did. -/
def fnExactPackTxnSpec : ChangeSpec := { name := "fnExactPackTxn", fn := fun _ => fun
  | [d] => { results := [.lit (.bool true)], args := [d] }
  | _ => none }
def fnExactPackTxnRow : OpenClaim := { program := "ytlnocniiehaekaa", sum := "72e465f4b764c08c6b2309f749a51c67f1427686d416fee166313ac8f96ff89a", func := "loop.example/g00631/laws.FnExactPackTxn", spec := "fnExactPackTxn", apart := false }
def FnExactPackTxnSaid : Prop := fnExactPackTxnRow.holds Try.pinned (OpenSpec.ofChange fnExactPackTxnSpec)

/-- ITS FALSE NEIGHBOUR: 'it returns false'. Refute it at one input. -/
def fnExactPackTxnWrong : ChangeSpec := { name := "fnExactPackTxn", fn := fun _ => fun
  | [d] => { results := [.lit (.bool false)], args := [d] }
  | _ => none }
def FnExactPackTxnWrongFalsely : Prop := fnExactPackTxnRow.holds Try.pinned (OpenSpec.ofChange fnExactPackTxnWrong)

/-- 'laws.FnExactSameTxns': WHATEVER THE INPUT: true; the input reads as it did. -/
def fnExactSameTxnsSpec : ChangeSpec := { name := "fnExactSameTxns", fn := fun _ => fun
  | [d1, d2] => { results := [.lit (.bool true)], args := [d1, d2] }
  | _ => none }
def fnExactSameTxnsRow : OpenClaim := { program := "ytlnocniiehaekaa", sum := "72e465f4b764c08c6b2309f749a51c67f1427686d416fee166313ac8f96ff89a", func := "loop.example/g00631/laws.FnExactSameTxns", spec := "fnExactSameTxns", unfollowed := true, recurses := true, apart := false }
def FnExactSameTxnsSaid : Prop := fnExactSameTxnsRow.holds Try.pinned (OpenSpec.ofChange fnExactSameTxnsSpec)

/-- ITS FALSE NEIGHBOUR: 'it returns false'. Refute it at one input. -/
def fnExactSameTxnsWrong : ChangeSpec := { name := "fnExactSameTxns", fn := fun _ => fun
  | [d1, d2] => { results := [.lit (.bool false)], args := [d1, d2] }
  | _ => none }
def FnExactSameTxnsWrongFalsely : Prop := fnExactSameTxnsRow.holds Try.pinned (OpenSpec.ofChange fnExactSameTxnsWrong)

/-- 'laws.FnExactIdsOf': WHATEVER THE INPUT: true; the input reads as it did. -/
def fnExactIdsOfSpec : ChangeSpec := { name := "fnExactIdsOf", fn := fun _ => fun
  | [d] => { results := [.lit (.bool true)], args := [d] }
  | _ => none }
def fnExactIdsOfRow : OpenClaim := { program := "ytlnocniiehaekaa", sum := "72e465f4b764c08c6b2309f749a51c67f1427686d416fee166313ac8f96ff89a", func := "loop.example/g00631/laws.FnExactIdsOf", spec := "fnExactIdsOf", apart := false }
def FnExactIdsOfSaid : Prop := fnExactIdsOfRow.holds Try.pinned (OpenSpec.ofChange fnExactIdsOfSpec)

/-- ITS FALSE NEIGHBOUR: 'it returns false'. Refute it at one input. -/
def fnExactIdsOfWrong : ChangeSpec := { name := "fnExactIdsOf", fn := fun _ => fun
  | [d] => { results := [.lit (.bool false)], args := [d] }
  | _ => none }
def FnExactIdsOfWrongFalsely : Prop := fnExactIdsOfRow.holds Try.pinned (OpenSpec.ofChange fnExactIdsOfWrong)

/-- 'laws.FnExactFindTxn': WHATEVER THE INPUT: true; the input reads as it did. -/
def fnExactFindTxnSpec : ChangeSpec := { name := "fnExactFindTxn", fn := fun _ => fun
  | [d1, d2] => { results := [.lit (.bool true)], args := [d1, d2] }
  | _ => none }
def fnExactFindTxnRow : OpenClaim := { program := "ytlnocniiehaekaa", sum := "72e465f4b764c08c6b2309f749a51c67f1427686d416fee166313ac8f96ff89a", func := "loop.example/g00631/laws.FnExactFindTxn", spec := "fnExactFindTxn", apart := false }
def FnExactFindTxnSaid : Prop := fnExactFindTxnRow.holds Try.pinned (OpenSpec.ofChange fnExactFindTxnSpec)

/-- ITS FALSE NEIGHBOUR: 'it returns false'. Refute it at one input. -/
def fnExactFindTxnWrong : ChangeSpec := { name := "fnExactFindTxn", fn := fun _ => fun
  | [d1, d2] => { results := [.lit (.bool false)], args := [d1, d2] }
  | _ => none }
def FnExactFindTxnWrongFalsely : Prop := fnExactFindTxnRow.holds Try.pinned (OpenSpec.ofChange fnExactFindTxnWrong)

/- THE SECOND FORM. 'bulk': how many values and letters a reading holds, each counted each time it is reached (what is shared counts as often as it is met; a slice's spare places count too). A statement '..UptoSaid' is the law's where the arguments, and the package variables that the reading takes, are together of bulk at most 1048576: NARROWER than '..Said'. Prove '..Said' where nothing that the law and all that it calls make is longer than what came in: it says more and counts as full. Else prove '..UptoSaid'. A law counts once. -/
mutual
def uptoBulk {H : Type} : DataW H → Nat
  | .lit (.string bytes) => bytes.length + 1
  | .lit _ => 1
  | .nil => 1
  | .ptr d => uptoBulk d + 1
  | .slice elems spare => uptoBulkAll elems + uptoBulkAll spare + 1
  | .agg parts => uptoBulkAll parts + 1
  | .iface _ d => uptoBulk d + 1
  | .map entries => uptoBulkEntries entries + 1
  | .held _ => 1
def uptoBulkAll {H : Type} : List (DataW H) → Nat
  | [] => 0
  | d :: r => uptoBulk d + uptoBulkAll r
def uptoBulkEntries {H : Type} : List (Lit × DataW H) → Nat
  | [] => 0
  | x :: r => uptoBulkEntry x + uptoBulkEntries r
def uptoBulkEntry {H : Type} : Lit × DataW H → Nat
  | (.string bytes, d) => bytes.length + uptoBulk d + 1
  | (_, d) => uptoBulk d + 1
 end
def uptoSmall : (H : Type) → List (DataW H) → Bool := fun _ ds => decide (uptoBulkAll ds ≤ 1048576)
def OpenSpec.upto (s : _root_.Go.ChangeSpec) : _root_.Go.OpenSpec := { _root_.Go.OpenSpec.ofChange s with cond := some uptoSmall }

/-- 'laws.FnExactTxnFault', WHERE WHAT IT READS IS OF BULK AT MOST 1048576: true; the input reads as it did. -/
def fnExactTxnFaultUptoRow : OpenClaim := { program := "ytlnocniiehaekaa", sum := "72e465f4b764c08c6b2309f749a51c67f1427686d416fee166313ac8f96ff89a", func := "loop.example/g00631/laws.FnExactTxnFault", spec := "fnExactTxnFault", apart := false, narrowed := true }
def FnExactTxnFaultUptoSaid : Prop := fnExactTxnFaultUptoRow.holds Try.pinned (OpenSpec.upto fnExactTxnFaultSpec)

/-- 'laws.FnExactPackTxn', WHERE WHAT IT READS IS OF BULK AT MOST 1048576: true; the input reads as it did. -/
def fnExactPackTxnUptoRow : OpenClaim := { program := "ytlnocniiehaekaa", sum := "72e465f4b764c08c6b2309f749a51c67f1427686d416fee166313ac8f96ff89a", func := "loop.example/g00631/laws.FnExactPackTxn", spec := "fnExactPackTxn", apart := false, narrowed := true }
def FnExactPackTxnUptoSaid : Prop := fnExactPackTxnUptoRow.holds Try.pinned (OpenSpec.upto fnExactPackTxnSpec)

/-- 'laws.FnExactSameTxns', WHERE WHAT IT READS IS OF BULK AT MOST 1048576: true; the input reads as it did. -/
def fnExactSameTxnsUptoRow : OpenClaim := { program := "ytlnocniiehaekaa", sum := "72e465f4b764c08c6b2309f749a51c67f1427686d416fee166313ac8f96ff89a", func := "loop.example/g00631/laws.FnExactSameTxns", spec := "fnExactSameTxns", unfollowed := true, recurses := true, apart := false, narrowed := true }
def FnExactSameTxnsUptoSaid : Prop := fnExactSameTxnsUptoRow.holds Try.pinned (OpenSpec.upto fnExactSameTxnsSpec)

/-- 'laws.FnExactIdsOf', WHERE WHAT IT READS IS OF BULK AT MOST 1048576: true; the input reads as it did. -/
def fnExactIdsOfUptoRow : OpenClaim := { program := "ytlnocniiehaekaa", sum := "72e465f4b764c08c6b2309f749a51c67f1427686d416fee166313ac8f96ff89a", func := "loop.example/g00631/laws.FnExactIdsOf", spec := "fnExactIdsOf", apart := false, narrowed := true }
def FnExactIdsOfUptoSaid : Prop := fnExactIdsOfUptoRow.holds Try.pinned (OpenSpec.upto fnExactIdsOfSpec)

/-- 'laws.FnExactFindTxn', WHERE WHAT IT READS IS OF BULK AT MOST 1048576: true; the input reads as it did. -/
def fnExactFindTxnUptoRow : OpenClaim := { program := "ytlnocniiehaekaa", sum := "72e465f4b764c08c6b2309f749a51c67f1427686d416fee166313ac8f96ff89a", func := "loop.example/g00631/laws.FnExactFindTxn", spec := "fnExactFindTxn", apart := false, narrowed := true }
def FnExactFindTxnUptoSaid : Prop := fnExactFindTxnUptoRow.holds Try.pinned (OpenSpec.upto fnExactFindTxnSpec)

end Rows
end Go.Proofs.Ytlnocniiehaekaa
