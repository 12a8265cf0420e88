/-
  No cell of these rows narrows 'for every input' (looked for: loops, veiled, ifaces, maps, wideKeys, modest, calm, conditions, laid).
  DERIVED. THE GIVEN ROWS OF THIS SEAT. 8 by the template 'for every input the law returns true; each argument reads behind the call as it read before'; 0 by the template 'total and deterministic' (their statements: YteoghlebijfbaaaTotals.lean).
  GIVEN WITH THE SEED: the statements are not yours to turn. If you find one false, say at which input.
  Laid BY PROGRAM, IN A SANDBOX (cutbox-rows.mjs): the forced cells as the released guide's own fill.sh prints them over the translation 86113bf969c296dc… (all of the seat's roots in one cut). By AI agents, Wed Nov 11 2026. No macro, syntax, notation, axiom, sorry.
-/
import Derived.Test.YteoghlebijfbaaaChecked
import GoSem.Claim
import GoSem.ClaimJoined
import GoSem.ClaimMapViews
import Derived.JoinedTies
import Derived.KernelRfl
namespace Go.Proofs.Yteoghlebijfbaaa
/- THE CELL 'sum', in the pinned program and in every row, IS THE sha256 OF THE DUMP (.gsa) THAT YteoghlebijfbaaaProg.lean LOADS. Nothing in Lean hashes anything: it is a label: what it is worth is what the hold of that sum in a sandbox is worth. -/
noncomputable def Try.pinned : Pinned := { name := "yteoghlebijfbaaa", sum := "86113bf969c296dc01461a4e02f8cd0864a8af95f2ebfe23f8405cf706013d6a", checked := Try.checked }
namespace Rows
def none {H : Type} : Left H := { results := [], args := [] }

/-- 'laws.FnExecs': WHATEVER THE INPUT: true; the input reads as it did. -/
def fnExecsSpec : ChangeSpec := { name := "fnExecs", fn := fun _ => fun
  | [d] => { results := [.lit (.bool true)], args := [d] }
  | _ => none }
def fnExecsRow : OpenClaim := { program := "yteoghlebijfbaaa", sum := "86113bf969c296dc01461a4e02f8cd0864a8af95f2ebfe23f8405cf706013d6a", func := "loop.example/g00631/laws.FnExecs", spec := "fnExecs", unfollowed := true, recurses := true, apart := false }
def FnExecsSaid : Prop := fnExecsRow.holds Try.pinned (OpenSpec.ofChange fnExecsSpec)

/-- ITS FALSE NEIGHBOUR: 'it returns false'. Refute it at one input. -/
def fnExecsWrong : ChangeSpec := { name := "fnExecs", fn := fun _ => fun
  | [d] => { results := [.lit (.bool false)], args := [d] }
  | _ => none }
def FnExecsWrongFalsely : Prop := fnExecsRow.holds Try.pinned (OpenSpec.ofChange fnExecsWrong)

/-- 'laws.FnRanges': WHATEVER THE INPUT: true; the input reads as it did. -/
def fnRangesSpec : ChangeSpec := { name := "fnRanges", fn := fun _ => fun
  | [d] => { results := [.lit (.bool true)], args := [d] }
  | _ => none }
def fnRangesRow : OpenClaim := { program := "yteoghlebijfbaaa", sum := "86113bf969c296dc01461a4e02f8cd0864a8af95f2ebfe23f8405cf706013d6a", func := "loop.example/g00631/laws.FnRanges", spec := "fnRanges", apart := false }
def FnRangesSaid : Prop := fnRangesRow.holds Try.pinned (OpenSpec.ofChange fnRangesSpec)

/-- ITS FALSE NEIGHBOUR: 'it returns false'. Refute it at one input. -/
def fnRangesWrong : ChangeSpec := { name := "fnRanges", fn := fun _ => fun
  | [d] => { results := [.lit (.bool false)], args := [d] }
  | _ => none }
def FnRangesWrongFalsely : Prop := fnRangesRow.holds Try.pinned (OpenSpec.ofChange fnRangesWrong)

/-- 'laws.FnExactItemsFault': WHATEVER THE INPUT: true; the input reads as it did. -/
def fnExactItemsFaultSpec : ChangeSpec := { name := "fnExactItemsFault", fn := fun _ => fun
  | [d] => { results := [.lit (.bool true)], args := [d] }
  | _ => none }
def fnExactItemsFaultRow : OpenClaim := { program := "yteoghlebijfbaaa", sum := "86113bf969c296dc01461a4e02f8cd0864a8af95f2ebfe23f8405cf706013d6a", func := "loop.example/g00631/laws.FnExactItemsFault", spec := "fnExactItemsFault", apart := false }
def FnExactItemsFaultSaid : Prop := fnExactItemsFaultRow.holds Try.pinned (OpenSpec.ofChange fnExactItemsFaultSpec)

/-- ITS FALSE NEIGHBOUR: 'it returns false'. Refute it at one input. -/
def fnExactItemsFaultWrong : ChangeSpec := { name := "fnExactItemsFault", fn := fun _ => fun
  | [d] => { results := [.lit (.bool false)], args := [d] }
  | _ => none }
def FnExactItemsFaultWrongFalsely : Prop := fnExactItemsFaultRow.holds Try.pinned (OpenSpec.ofChange fnExactItemsFaultWrong)

/-- 'laws.FnExactValueAt': WHATEVER THE INPUT: true; the input reads as it did. -/
def fnExactValueAtSpec : ChangeSpec := { name := "fnExactValueAt", fn := fun _ => fun
  | [d1, d2] => { results := [.lit (.bool true)], args := [d1, d2] }
  | _ => none }
def fnExactValueAtRow : OpenClaim := { program := "yteoghlebijfbaaa", sum := "86113bf969c296dc01461a4e02f8cd0864a8af95f2ebfe23f8405cf706013d6a", func := "loop.example/g00631/laws.FnExactValueAt", spec := "fnExactValueAt", apart := false }
def FnExactValueAtSaid : Prop := fnExactValueAtRow.holds Try.pinned (OpenSpec.ofChange fnExactValueAtSpec)

/-- ITS FALSE NEIGHBOUR: 'it returns false'. Refute it at one input. -/
def fnExactValueAtWrong : ChangeSpec := { name := "fnExactValueAt", fn := fun _ => fun
  | [d1, d2] => { results := [.lit (.bool false)], args := [d1, d2] }
  | _ => none }
def FnExactValueAtWrongFalsely : Prop := fnExactValueAtRow.holds Try.pinned (OpenSpec.ofChange fnExactValueAtWrong)

/-- 'laws.FnExactExecTxn': WHATEVER THE INPUT: true; the input reads as it did. -/
def fnExactExecTxnSpec : ChangeSpec := { name := "fnExactExecTxn", fn := fun _ => fun
  | [d1, d2] => { results := [.lit (.bool true)], args := [d1, d2] }
  | _ => none }
def fnExactExecTxnRow : OpenClaim := { program := "yteoghlebijfbaaa", sum := "86113bf969c296dc01461a4e02f8cd0864a8af95f2ebfe23f8405cf706013d6a", func := "loop.example/g00631/laws.FnExactExecTxn", spec := "fnExactExecTxn", unfollowed := true, recurses := true, apart := false }
def FnExactExecTxnSaid : Prop := fnExactExecTxnRow.holds Try.pinned (OpenSpec.ofChange fnExactExecTxnSpec)

/-- ITS FALSE NEIGHBOUR: 'it returns false'. Refute it at one input. -/
def fnExactExecTxnWrong : ChangeSpec := { name := "fnExactExecTxn", fn := fun _ => fun
  | [d1, d2] => { results := [.lit (.bool false)], args := [d1, d2] }
  | _ => none }
def FnExactExecTxnWrongFalsely : Prop := fnExactExecTxnRow.holds Try.pinned (OpenSpec.ofChange fnExactExecTxnWrong)

/-- 'laws.FnExactExecAll': WHATEVER THE INPUT: true; the input reads as it did. -/
def fnExactExecAllSpec : ChangeSpec := { name := "fnExactExecAll", fn := fun _ => fun
  | [d1, d2] => { results := [.lit (.bool true)], args := [d1, d2] }
  | _ => none }
def fnExactExecAllRow : OpenClaim := { program := "yteoghlebijfbaaa", sum := "86113bf969c296dc01461a4e02f8cd0864a8af95f2ebfe23f8405cf706013d6a", func := "loop.example/g00631/laws.FnExactExecAll", spec := "fnExactExecAll", unfollowed := true, recurses := true, apart := false }
def FnExactExecAllSaid : Prop := fnExactExecAllRow.holds Try.pinned (OpenSpec.ofChange fnExactExecAllSpec)

/-- ITS FALSE NEIGHBOUR: 'it returns false'. Refute it at one input. -/
def fnExactExecAllWrong : ChangeSpec := { name := "fnExactExecAll", fn := fun _ => fun
  | [d1, d2] => { results := [.lit (.bool false)], args := [d1, d2] }
  | _ => none }
def FnExactExecAllWrongFalsely : Prop := fnExactExecAllRow.holds Try.pinned (OpenSpec.ofChange fnExactExecAllWrong)

/-- 'laws.FnExactSameItems': WHATEVER THE INPUT: true; the input reads as it did. -/
def fnExactSameItemsSpec : ChangeSpec := { name := "fnExactSameItems", fn := fun _ => fun
  | [d1, d2] => { results := [.lit (.bool true)], args := [d1, d2] }
  | _ => none }
def fnExactSameItemsRow : OpenClaim := { program := "yteoghlebijfbaaa", sum := "86113bf969c296dc01461a4e02f8cd0864a8af95f2ebfe23f8405cf706013d6a", func := "loop.example/g00631/laws.FnExactSameItems", spec := "fnExactSameItems", apart := false }
def FnExactSameItemsSaid : Prop := fnExactSameItemsRow.holds Try.pinned (OpenSpec.ofChange fnExactSameItemsSpec)

/-- ITS FALSE NEIGHBOUR: 'it returns false'. Refute it at one input. -/
def fnExactSameItemsWrong : ChangeSpec := { name := "fnExactSameItems", fn := fun _ => fun
  | [d1, d2] => { results := [.lit (.bool false)], args := [d1, d2] }
  | _ => none }
def FnExactSameItemsWrongFalsely : Prop := fnExactSameItemsRow.holds Try.pinned (OpenSpec.ofChange fnExactSameItemsWrong)

/-- 'laws.FnExactRangeOf': WHATEVER THE INPUT: true; the input reads as it did. -/
def fnExactRangeOfSpec : ChangeSpec := { name := "fnExactRangeOf", fn := fun _ => fun
  | [d1, d2, d3] => { results := [.lit (.bool true)], args := [d1, d2, d3] }
  | _ => none }
def fnExactRangeOfRow : OpenClaim := { program := "yteoghlebijfbaaa", sum := "86113bf969c296dc01461a4e02f8cd0864a8af95f2ebfe23f8405cf706013d6a", func := "loop.example/g00631/laws.FnExactRangeOf", spec := "fnExactRangeOf", apart := false }
def FnExactRangeOfSaid : Prop := fnExactRangeOfRow.holds Try.pinned (OpenSpec.ofChange fnExactRangeOfSpec)

/-- ITS FALSE NEIGHBOUR: 'it returns false'. Refute it at one input. -/
def fnExactRangeOfWrong : ChangeSpec := { name := "fnExactRangeOf", fn := fun _ => fun
  | [d1, d2, d3] => { results := [.lit (.bool false)], args := [d1, d2, d3] }
  | _ => none }
def FnExactRangeOfWrongFalsely : Prop := fnExactRangeOfRow.holds Try.pinned (OpenSpec.ofChange fnExactRangeOfWrong)

/- THE SECOND FORM. 'bulk': how many values and letters a reading holds, each counted each time it is reached (what is shared counts as often as it is met; a slice's spare places count too). A statement '..UptoSaid' is the law's where the arguments, and the package variables that the reading takes, are together of bulk at most 1048576: NARROWER than '..Said'. Prove '..Said' where nothing that the law and all that it calls make is longer than what came in: it says more and counts as full. Else prove '..UptoSaid'. A law counts once. -/
mutual
def uptoBulk {H : Type} : DataW H → Nat
  | .lit (.string bytes) => bytes.length + 1
  | .lit _ => 1
  | .nil => 1
  | .ptr d => uptoBulk d + 1
  | .slice elems spare => uptoBulkAll elems + uptoBulkAll spare + 1
  | .agg parts => uptoBulkAll parts + 1
  | .iface _ d => uptoBulk d + 1
  | .map entries => uptoBulkEntries entries + 1
  | .held _ => 1
def uptoBulkAll {H : Type} : List (DataW H) → Nat
  | [] => 0
  | d :: r => uptoBulk d + uptoBulkAll r
def uptoBulkEntries {H : Type} : List (Lit × DataW H) → Nat
  | [] => 0
  | x :: r => uptoBulkEntry x + uptoBulkEntries r
def uptoBulkEntry {H : Type} : Lit × DataW H → Nat
  | (.string bytes, d) => bytes.length + uptoBulk d + 1
  | (_, d) => uptoBulk d + 1
 end
def uptoSmall : (H : Type) → List (DataW H) → Bool := fun _ ds => decide (uptoBulkAll ds ≤ 1048576)
def OpenSpec.upto (s : _root_.Go.ChangeSpec) : _root_.Go.OpenSpec := { _root_.Go.OpenSpec.ofChange s with cond := some uptoSmall }

/-- 'laws.FnExecs', WHERE WHAT IT READS IS OF BULK AT MOST 1048576: true; the input reads as it did. -/
def fnExecsUptoRow : OpenClaim := { program := "yteoghlebijfbaaa", sum := "86113bf969c296dc01461a4e02f8cd0864a8af95f2ebfe23f8405cf706013d6a", func := "loop.example/g00631/laws.FnExecs", spec := "fnExecs", unfollowed := true, recurses := true, apart := false, narrowed := true }
def FnExecsUptoSaid : Prop := fnExecsUptoRow.holds Try.pinned (OpenSpec.upto fnExecsSpec)

/-- 'laws.FnRanges', WHERE WHAT IT READS IS OF BULK AT MOST 1048576: true; the input reads as it did. -/
def fnRangesUptoRow : OpenClaim := { program := "yteoghlebijfbaaa", sum := "86113bf969c296dc01461a4e02f8cd0864a8af95f2ebfe23f8405cf706013d6a", func := "loop.example/g00631/laws.FnRanges", spec := "fnRanges", apart := false, narrowed := true }
def FnRangesUptoSaid : Prop := fnRangesUptoRow.holds Try.pinned (OpenSpec.upto fnRangesSpec)

/-- 'laws.FnExactItemsFault', WHERE WHAT IT READS IS OF BULK AT MOST 1048576: true; the input reads as it did. -/
def fnExactItemsFaultUptoRow : OpenClaim := { program := "yteoghlebijfbaaa", sum := "86113bf969c296dc01461a4e02f8cd0864a8af95f2ebfe23f8405cf706013d6a", func := "loop.example/g00631/laws.FnExactItemsFault", spec := "fnExactItemsFault", apart := false, narrowed := true }
def FnExactItemsFaultUptoSaid : Prop := fnExactItemsFaultUptoRow.holds Try.pinned (OpenSpec.upto fnExactItemsFaultSpec)

/-- 'laws.FnExactValueAt', WHERE WHAT IT READS IS OF BULK AT MOST 1048576: true; the input reads as it did. -/
def fnExactValueAtUptoRow : OpenClaim := { program := "yteoghlebijfbaaa", sum := "86113bf969c296dc01461a4e02f8cd0864a8af95f2ebfe23f8405cf706013d6a", func := "loop.example/g00631/laws.FnExactValueAt", spec := "fnExactValueAt", apart := false, narrowed := true }
def FnExactValueAtUptoSaid : Prop := fnExactValueAtUptoRow.holds Try.pinned (OpenSpec.upto fnExactValueAtSpec)

/-- 'laws.FnExactExecTxn', WHERE WHAT IT READS IS OF BULK AT MOST 1048576: true; the input reads as it did. -/
def fnExactExecTxnUptoRow : OpenClaim := { program := "yteoghlebijfbaaa", sum := "86113bf969c296dc01461a4e02f8cd0864a8af95f2ebfe23f8405cf706013d6a", func := "loop.example/g00631/laws.FnExactExecTxn", spec := "fnExactExecTxn", unfollowed := true, recurses := true, apart := false, narrowed := true }
def FnExactExecTxnUptoSaid : Prop := fnExactExecTxnUptoRow.holds Try.pinned (OpenSpec.upto fnExactExecTxnSpec)

/-- 'laws.FnExactExecAll', WHERE WHAT IT READS IS OF BULK AT MOST 1048576: true; the input reads as it did. -/
def fnExactExecAllUptoRow : OpenClaim := { program := "yteoghlebijfbaaa", sum := "86113bf969c296dc01461a4e02f8cd0864a8af95f2ebfe23f8405cf706013d6a", func := "loop.example/g00631/laws.FnExactExecAll", spec := "fnExactExecAll", unfollowed := true, recurses := true, apart := false, narrowed := true }
def FnExactExecAllUptoSaid : Prop := fnExactExecAllUptoRow.holds Try.pinned (OpenSpec.upto fnExactExecAllSpec)

/-- 'laws.FnExactSameItems', WHERE WHAT IT READS IS OF BULK AT MOST 1048576: true; the input reads as it did. -/
def fnExactSameItemsUptoRow : OpenClaim := { program := "yteoghlebijfbaaa", sum := "86113bf969c296dc01461a4e02f8cd0864a8af95f2ebfe23f8405cf706013d6a", func := "loop.example/g00631/laws.FnExactSameItems", spec := "fnExactSameItems", apart := false, narrowed := true }
def FnExactSameItemsUptoSaid : Prop := fnExactSameItemsUptoRow.holds Try.pinned (OpenSpec.upto fnExactSameItemsSpec)

/-- 'laws.FnExactRangeOf', WHERE WHAT IT READS IS OF BULK AT MOST 1048576: true; the input reads as it did. -/
def fnExactRangeOfUptoRow : OpenClaim := { program := "yteoghlebijfbaaa", sum := "86113bf969c296dc01461a4e02f8cd0864a8af95f2ebfe23f8405cf706013d6a", func := "loop.example/g00631/laws.FnExactRangeOf", spec := "fnExactRangeOf", apart := false, narrowed := true }
def FnExactRangeOfUptoSaid : Prop := fnExactRangeOfUptoRow.holds Try.pinned (OpenSpec.upto fnExactRangeOfSpec)

end Rows
end Go.Proofs.Yteoghlebijfbaaa
