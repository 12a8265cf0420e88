/-
  No cell of these rows narrows 'for every input' (looked for: loops, veiled, ifaces, maps, wideKeys, modest, calm, conditions, laid).
  DERIVED. THE GIVEN ROWS OF THIS SEAT. 5 by the template 'for every input the law returns true; each argument reads behind the call as it read before'; 0 by the template 'total and deterministic' (their statements: YtjaoggkpnjkkpaaTotals.lean).
  GIVEN WITH THE SEED: the statements are not yours to turn. If you find one false, say at which input.
  Laid BY PROGRAM, IN A SANDBOX (cutbox-rows.mjs): the forced cells as the released guide's own fill.sh prints them over the translation bdf138672c16c181… (all of the seat's roots in one cut). By AI agents, Wed Nov 11 2026. No macro, syntax, notation, axiom, sorry.
-/
import Derived.Test.YtjaoggkpnjkkpaaChecked
import GoSem.Claim
import GoSem.ClaimJoined
import GoSem.ClaimMapViews
import Derived.JoinedTies
import Derived.KernelRfl
namespace Go.Proofs.Ytjaoggkpnjkkpaa
/- THE CELL 'sum', in the pinned program and in every row, IS THE sha256 OF THE DUMP (.gsa) THAT YtjaoggkpnjkkpaaProg.lean LOADS. Nothing in Lean hashes anything: it is a label: what it is worth is what the hold of that sum in a sandbox is worth. -/
noncomputable def Try.pinned : Pinned := { name := "ytjaoggkpnjkkpaa", sum := "bdf138672c16c181aac6470cdf3addaf0d8e9fb3f8a9cb9a691fd9f2c248a0fb", checked := Try.checked }
namespace Rows
def none {H : Type} : Left H := { results := [], args := [] }

/-- 'laws.FnUndone': WHATEVER THE INPUT: true; the input reads as it did. -/
def fnUndoneSpec : ChangeSpec := { name := "fnUndone", fn := fun _ => fun
  | [d] => { results := [.lit (.bool true)], args := [d] }
  | _ => none }
def fnUndoneRow : OpenClaim := { program := "ytjaoggkpnjkkpaa", sum := "bdf138672c16c181aac6470cdf3addaf0d8e9fb3f8a9cb9a691fd9f2c248a0fb", func := "loop.example/g00631/laws.FnUndone", spec := "fnUndone", unfollowed := true, recurses := true, apart := false }
def FnUndoneSaid : Prop := fnUndoneRow.holds Try.pinned (OpenSpec.ofChange fnUndoneSpec)

/-- ITS FALSE NEIGHBOUR: 'it returns false'. Refute it at one input. -/
def fnUndoneWrong : ChangeSpec := { name := "fnUndone", fn := fun _ => fun
  | [d] => { results := [.lit (.bool false)], args := [d] }
  | _ => none }
def FnUndoneWrongFalsely : Prop := fnUndoneRow.holds Try.pinned (OpenSpec.ofChange fnUndoneWrong)

/-- 'laws.FnExactDoUndo': WHATEVER THE INPUT: true; the input reads as it did. -/
def fnExactDoUndoSpec : ChangeSpec := { name := "fnExactDoUndo", fn := fun _ => fun
  | [d1, d2] => { results := [.lit (.bool true)], args := [d1, d2] }
  | _ => none }
def fnExactDoUndoRow : OpenClaim := { program := "ytjaoggkpnjkkpaa", sum := "bdf138672c16c181aac6470cdf3addaf0d8e9fb3f8a9cb9a691fd9f2c248a0fb", func := "loop.example/g00631/laws.FnExactDoUndo", spec := "fnExactDoUndo", unfollowed := true, recurses := true, apart := false }
def FnExactDoUndoSaid : Prop := fnExactDoUndoRow.holds Try.pinned (OpenSpec.ofChange fnExactDoUndoSpec)

/-- ITS FALSE NEIGHBOUR: 'it returns false'. Refute it at one input. -/
def fnExactDoUndoWrong : ChangeSpec := { name := "fnExactDoUndo", fn := fun _ => fun
  | [d1, d2] => { results := [.lit (.bool false)], args := [d1, d2] }
  | _ => none }
def FnExactDoUndoWrongFalsely : Prop := fnExactDoUndoRow.holds Try.pinned (OpenSpec.ofChange fnExactDoUndoWrong)

/-- 'laws.FnExactUndoFault': WHATEVER THE INPUT: true; the input reads as it did. -/
def fnExactUndoFaultSpec : ChangeSpec := { name := "fnExactUndoFault", fn := fun _ => fun
  | [d] => { results := [.lit (.bool true)], args := [d] }
  | _ => none }
def fnExactUndoFaultRow : OpenClaim := { program := "ytjaoggkpnjkkpaa", sum := "bdf138672c16c181aac6470cdf3addaf0d8e9fb3f8a9cb9a691fd9f2c248a0fb", func := "loop.example/g00631/laws.FnExactUndoFault", spec := "fnExactUndoFault", apart := false }
def FnExactUndoFaultSaid : Prop := fnExactUndoFaultRow.holds Try.pinned (OpenSpec.ofChange fnExactUndoFaultSpec)

/-- ITS FALSE NEIGHBOUR: 'it returns false'. Refute it at one input. -/
def fnExactUndoFaultWrong : ChangeSpec := { name := "fnExactUndoFault", fn := fun _ => fun
  | [d] => { results := [.lit (.bool false)], args := [d] }
  | _ => none }
def FnExactUndoFaultWrongFalsely : Prop := fnExactUndoFaultRow.holds Try.pinned (OpenSpec.ofChange fnExactUndoFaultWrong)

/-- 'laws.FnExactTakeBack': WHATEVER THE INPUT: true; the input reads as it did. -/
def fnExactTakeBackSpec : ChangeSpec := { name := "fnExactTakeBack", fn := fun _ => fun
  | [d1, d2] => { results := [.lit (.bool true)], args := [d1, d2] }
  | _ => none }
def fnExactTakeBackRow : OpenClaim := { program := "ytjaoggkpnjkkpaa", sum := "bdf138672c16c181aac6470cdf3addaf0d8e9fb3f8a9cb9a691fd9f2c248a0fb", func := "loop.example/g00631/laws.FnExactTakeBack", spec := "fnExactTakeBack", unfollowed := true, recurses := true, apart := false }
def FnExactTakeBackSaid : Prop := fnExactTakeBackRow.holds Try.pinned (OpenSpec.ofChange fnExactTakeBackSpec)

/-- ITS FALSE NEIGHBOUR: 'it returns false'. Refute it at one input. -/
def fnExactTakeBackWrong : ChangeSpec := { name := "fnExactTakeBack", fn := fun _ => fun
  | [d1, d2] => { results := [.lit (.bool false)], args := [d1, d2] }
  | _ => none }
def FnExactTakeBackWrongFalsely : Prop := fnExactTakeBackRow.holds Try.pinned (OpenSpec.ofChange fnExactTakeBackWrong)

/-- 'laws.FnExactTakeAll': WHATEVER THE INPUT: true; the input reads as it did. -/
def fnExactTakeAllSpec : ChangeSpec := { name := "fnExactTakeAll", fn := fun _ => fun
  | [d1, d2] => { results := [.lit (.bool true)], args := [d1, d2] }
  | _ => none }
def fnExactTakeAllRow : OpenClaim := { program := "ytjaoggkpnjkkpaa", sum := "bdf138672c16c181aac6470cdf3addaf0d8e9fb3f8a9cb9a691fd9f2c248a0fb", func := "loop.example/g00631/laws.FnExactTakeAll", spec := "fnExactTakeAll", unfollowed := true, recurses := true, apart := false }
def FnExactTakeAllSaid : Prop := fnExactTakeAllRow.holds Try.pinned (OpenSpec.ofChange fnExactTakeAllSpec)

/-- ITS FALSE NEIGHBOUR: 'it returns false'. Refute it at one input. -/
def fnExactTakeAllWrong : ChangeSpec := { name := "fnExactTakeAll", fn := fun _ => fun
  | [d1, d2] => { results := [.lit (.bool false)], args := [d1, d2] }
  | _ => none }
def FnExactTakeAllWrongFalsely : Prop := fnExactTakeAllRow.holds Try.pinned (OpenSpec.ofChange fnExactTakeAllWrong)

/- THE SECOND FORM. 'bulk': how many values and letters a reading holds, each counted each time it is reached (what is shared counts as often as it is met; a slice's spare places count too). A statement '..UptoSaid' is the law's where the arguments, and the package variables that the reading takes, are together of bulk at most 1048576: NARROWER than '..Said'. Prove '..Said' where nothing that the law and all that it calls make is longer than what came in: it says more and counts as full. Else prove '..UptoSaid'. A law counts once. -/
mutual
def uptoBulk {H : Type} : DataW H → Nat
  | .lit (.string bytes) => bytes.length + 1
  | .lit _ => 1
  | .nil => 1
  | .ptr d => uptoBulk d + 1
  | .slice elems spare => uptoBulkAll elems + uptoBulkAll spare + 1
  | .agg parts => uptoBulkAll parts + 1
  | .iface _ d => uptoBulk d + 1
  | .map entries => uptoBulkEntries entries + 1
  | .held _ => 1
def uptoBulkAll {H : Type} : List (DataW H) → Nat
  | [] => 0
  | d :: r => uptoBulk d + uptoBulkAll r
def uptoBulkEntries {H : Type} : List (Lit × DataW H) → Nat
  | [] => 0
  | x :: r => uptoBulkEntry x + uptoBulkEntries r
def uptoBulkEntry {H : Type} : Lit × DataW H → Nat
  | (.string bytes, d) => bytes.length + uptoBulk d + 1
  | (_, d) => uptoBulk d + 1
 end
def uptoSmall : (H : Type) → List (DataW H) → Bool := fun _ ds => decide (uptoBulkAll ds ≤ 1048576)
def OpenSpec.upto (s : _root_.Go.ChangeSpec) : _root_.Go.OpenSpec := { _root_.Go.OpenSpec.ofChange s with cond := some uptoSmall }

/-- 'laws.FnUndone', WHERE WHAT IT READS IS OF BULK AT MOST 1048576: true; the input reads as it did. -/
def fnUndoneUptoRow : OpenClaim := { program := "ytjaoggkpnjkkpaa", sum := "bdf138672c16c181aac6470cdf3addaf0d8e9fb3f8a9cb9a691fd9f2c248a0fb", func := "loop.example/g00631/laws.FnUndone", spec := "fnUndone", unfollowed := true, recurses := true, apart := false, narrowed := true }
def FnUndoneUptoSaid : Prop := fnUndoneUptoRow.holds Try.pinned (OpenSpec.upto fnUndoneSpec)

/-- 'laws.FnExactDoUndo', WHERE WHAT IT READS IS OF BULK AT MOST 1048576: true; the input reads as it did. -/
def fnExactDoUndoUptoRow : OpenClaim := { program := "ytjaoggkpnjkkpaa", sum := "bdf138672c16c181aac6470cdf3addaf0d8e9fb3f8a9cb9a691fd9f2c248a0fb", func := "loop.example/g00631/laws.FnExactDoUndo", spec := "fnExactDoUndo", unfollowed := true, recurses := true, apart := false, narrowed := true }
def FnExactDoUndoUptoSaid : Prop := fnExactDoUndoUptoRow.holds Try.pinned (OpenSpec.upto fnExactDoUndoSpec)

/-- 'laws.FnExactUndoFault', WHERE WHAT IT READS IS OF BULK AT MOST 1048576: true; the input reads as it did. -/
def fnExactUndoFaultUptoRow : OpenClaim := { program := "ytjaoggkpnjkkpaa", sum := "bdf138672c16c181aac6470cdf3addaf0d8e9fb3f8a9cb9a691fd9f2c248a0fb", func := "loop.example/g00631/laws.FnExactUndoFault", spec := "fnExactUndoFault", apart := false, narrowed := true }
def FnExactUndoFaultUptoSaid : Prop := fnExactUndoFaultUptoRow.holds Try.pinned (OpenSpec.upto fnExactUndoFaultSpec)

/-- 'laws.FnExactTakeBack', WHERE WHAT IT READS IS OF BULK AT MOST 1048576: true; the input reads as it did. -/
def fnExactTakeBackUptoRow : OpenClaim := { program := "ytjaoggkpnjkkpaa", sum := "bdf138672c16c181aac6470cdf3addaf0d8e9fb3f8a9cb9a691fd9f2c248a0fb", func := "loop.example/g00631/laws.FnExactTakeBack", spec := "fnExactTakeBack", unfollowed := true, recurses := true, apart := false, narrowed := true }
def FnExactTakeBackUptoSaid : Prop := fnExactTakeBackUptoRow.holds Try.pinned (OpenSpec.upto fnExactTakeBackSpec)

/-- 'laws.FnExactTakeAll', WHERE WHAT IT READS IS OF BULK AT MOST 1048576: true; the input reads as it did. -/
def fnExactTakeAllUptoRow : OpenClaim := { program := "ytjaoggkpnjkkpaa", sum := "bdf138672c16c181aac6470cdf3addaf0d8e9fb3f8a9cb9a691fd9f2c248a0fb", func := "loop.example/g00631/laws.FnExactTakeAll", spec := "fnExactTakeAll", unfollowed := true, recurses := true, apart := false, narrowed := true }
def FnExactTakeAllUptoSaid : Prop := fnExactTakeAllUptoRow.holds Try.pinned (OpenSpec.upto fnExactTakeAllSpec)

end Rows
end Go.Proofs.Ytjaoggkpnjkkpaa
