/-
  No cell of these rows narrows 'for every input' (looked for: loops, veiled, ifaces, maps, wideKeys, modest, calm, conditions, laid).
  DERIVED. THE GIVEN ROWS OF THIS SEAT. 5 by the template 'for every input the law returns true; each argument reads behind the call as it read before'; 0 by the template 'total and deterministic' (their statements: YtpdbjjklcejimaaTotals.lean).
  GIVEN WITH THE SEED: the statements are not yours to turn. If you find one false, say at which input.
  Laid BY PROGRAM, IN A SANDBOX (cutbox-rows.mjs): the forced cells as the released guide's own fill.sh prints them over the translation cd82f17004208349… (all of the seat's roots in one cut). By AI agents, Wed Nov 11 2026. No macro, syntax, notation, axiom, sorry.
-/
import Derived.Test.YtpdbjjklcejimaaChecked
import GoSem.Claim
import GoSem.ClaimJoined
import GoSem.ClaimMapViews
import Derived.JoinedTies
import Derived.KernelRfl
namespace Go.Proofs.Ytpdbjjklcejimaa
/- THE CELL 'sum', in the pinned program and in every row, IS THE sha256 OF THE DUMP (.gsa) THAT YtpdbjjklcejimaaProg.lean LOADS. Nothing in Lean hashes anything: it is a label: what it is worth is what the hold of that sum in a sandbox is worth. -/
noncomputable def Try.pinned : Pinned := { name := "ytpdbjjklcejimaa", sum := "cd82f1700420834900f281e65923282ae3eefc0da76f1b3dbcc6fdfd951781f2", checked := Try.checked }
namespace Rows
def none {H : Type} : Left H := { results := [], args := [] }

/-- 'laws.FnVotes': WHATEVER THE INPUT: true; the input reads as it did. -/
def fnVotesSpec : ChangeSpec := { name := "fnVotes", fn := fun _ => fun
  | [d] => { results := [.lit (.bool true)], args := [d] }
  | _ => none }
def fnVotesRow : OpenClaim := { program := "ytpdbjjklcejimaa", sum := "cd82f1700420834900f281e65923282ae3eefc0da76f1b3dbcc6fdfd951781f2", func := "loop.example/g00631/laws.FnVotes", spec := "fnVotes", apart := false }
def FnVotesSaid : Prop := fnVotesRow.holds Try.pinned (OpenSpec.ofChange fnVotesSpec)

/-- ITS FALSE NEIGHBOUR: 'it returns false'. Refute it at one input. -/
def fnVotesWrong : ChangeSpec := { name := "fnVotes", fn := fun _ => fun
  | [d] => { results := [.lit (.bool false)], args := [d] }
  | _ => none }
def FnVotesWrongFalsely : Prop := fnVotesRow.holds Try.pinned (OpenSpec.ofChange fnVotesWrong)

/-- 'laws.FnExactVoteFault': WHATEVER THE INPUT: true; the input reads as it did. -/
def fnExactVoteFaultSpec : ChangeSpec := { name := "fnExactVoteFault", fn := fun _ => fun
  | [d] => { results := [.lit (.bool true)], args := [d] }
  | _ => none }
def fnExactVoteFaultRow : OpenClaim := { program := "ytpdbjjklcejimaa", sum := "cd82f1700420834900f281e65923282ae3eefc0da76f1b3dbcc6fdfd951781f2", func := "loop.example/g00631/laws.FnExactVoteFault", spec := "fnExactVoteFault", apart := false }
def FnExactVoteFaultSaid : Prop := fnExactVoteFaultRow.holds Try.pinned (OpenSpec.ofChange fnExactVoteFaultSpec)

/-- ITS FALSE NEIGHBOUR: 'it returns false'. Refute it at one input. -/
def fnExactVoteFaultWrong : ChangeSpec := { name := "fnExactVoteFault", fn := fun _ => fun
  | [d] => { results := [.lit (.bool false)], args := [d] }
  | _ => none }
def FnExactVoteFaultWrongFalsely : Prop := fnExactVoteFaultRow.holds Try.pinned (OpenSpec.ofChange fnExactVoteFaultWrong)

/-- 'laws.FnExactPackVote': WHATEVER THE INPUT: true; the input reads as it did. -/
def fnExactPackVoteSpec : ChangeSpec := { name := "fnExactPackVote", fn := fun _ => fun
  | [d] => { results := [.lit (.bool true)], args := [d] }
  | _ => none }
def fnExactPackVoteRow : OpenClaim := { program := "ytpdbjjklcejimaa", sum := "cd82f1700420834900f281e65923282ae3eefc0da76f1b3dbcc6fdfd951781f2", func := "loop.example/g00631/laws.FnExactPackVote", spec := "fnExactPackVote", apart := false }
def FnExactPackVoteSaid : Prop := fnExactPackVoteRow.holds Try.pinned (OpenSpec.ofChange fnExactPackVoteSpec)

/-- ITS FALSE NEIGHBOUR: 'it returns false'. Refute it at one input. -/
def fnExactPackVoteWrong : ChangeSpec := { name := "fnExactPackVote", fn := fun _ => fun
  | [d] => { results := [.lit (.bool false)], args := [d] }
  | _ => none }
def FnExactPackVoteWrongFalsely : Prop := fnExactPackVoteRow.holds Try.pinned (OpenSpec.ofChange fnExactPackVoteWrong)

/-- 'laws.FnExactReadVote': WHATEVER THE INPUT: true; the input reads as it did. -/
def fnExactReadVoteSpec : ChangeSpec := { name := "fnExactReadVote", fn := fun _ => fun
  | [d] => { results := [.lit (.bool true)], args := [d] }
  | _ => none }
def fnExactReadVoteRow : OpenClaim := { program := "ytpdbjjklcejimaa", sum := "cd82f1700420834900f281e65923282ae3eefc0da76f1b3dbcc6fdfd951781f2", func := "loop.example/g00631/laws.FnExactReadVote", spec := "fnExactReadVote", apart := false }
def FnExactReadVoteSaid : Prop := fnExactReadVoteRow.holds Try.pinned (OpenSpec.ofChange fnExactReadVoteSpec)

/-- ITS FALSE NEIGHBOUR: 'it returns false'. Refute it at one input. -/
def fnExactReadVoteWrong : ChangeSpec := { name := "fnExactReadVote", fn := fun _ => fun
  | [d] => { results := [.lit (.bool false)], args := [d] }
  | _ => none }
def FnExactReadVoteWrongFalsely : Prop := fnExactReadVoteRow.holds Try.pinned (OpenSpec.ofChange fnExactReadVoteWrong)

/-- 'laws.FnExactSameVotes': WHATEVER THE INPUT: true; the input reads as it did. -/
def fnExactSameVotesSpec : ChangeSpec := { name := "fnExactSameVotes", fn := fun _ => fun
  | [d1, d2] => { results := [.lit (.bool true)], args := [d1, d2] }
  | _ => none }
def fnExactSameVotesRow : OpenClaim := { program := "ytpdbjjklcejimaa", sum := "cd82f1700420834900f281e65923282ae3eefc0da76f1b3dbcc6fdfd951781f2", func := "loop.example/g00631/laws.FnExactSameVotes", spec := "fnExactSameVotes", apart := false }
def FnExactSameVotesSaid : Prop := fnExactSameVotesRow.holds Try.pinned (OpenSpec.ofChange fnExactSameVotesSpec)

/-- ITS FALSE NEIGHBOUR: 'it returns false'. Refute it at one input. -/
def fnExactSameVotesWrong : ChangeSpec := { name := "fnExactSameVotes", fn := fun _ => fun
  | [d1, d2] => { results := [.lit (.bool false)], args := [d1, d2] }
  | _ => none }
def FnExactSameVotesWrongFalsely : Prop := fnExactSameVotesRow.holds Try.pinned (OpenSpec.ofChange fnExactSameVotesWrong)

/- THE SECOND FORM. 'bulk': how many values and letters a reading holds, each counted each time it is reached (what is shared counts as often as it is met; a slice's spare places count too). A statement '..UptoSaid' is the law's where the arguments, and the package variables that the reading takes, are together of bulk at most 1048576: NARROWER than '..Said'. Prove '..Said' where nothing that the law and all that it calls make is longer than what came in: it says more and counts as full. Else prove '..UptoSaid'. A law counts once. -/
mutual
def uptoBulk {H : Type} : DataW H → Nat
  | .lit (.string bytes) => bytes.length + 1
  | .lit _ => 1
  | .nil => 1
  | .ptr d => uptoBulk d + 1
  | .slice elems spare => uptoBulkAll elems + uptoBulkAll spare + 1
  | .agg parts => uptoBulkAll parts + 1
  | .iface _ d => uptoBulk d + 1
  | .map entries => uptoBulkEntries entries + 1
  | .held _ => 1
def uptoBulkAll {H : Type} : List (DataW H) → Nat
  | [] => 0
  | d :: r => uptoBulk d + uptoBulkAll r
def uptoBulkEntries {H : Type} : List (Lit × DataW H) → Nat
  | [] => 0
  | x :: r => uptoBulkEntry x + uptoBulkEntries r
def uptoBulkEntry {H : Type} : Lit × DataW H → Nat
  | (.string bytes, d) => bytes.length + uptoBulk d + 1
  | (_, d) => uptoBulk d + 1
 end
def uptoSmall : (H : Type) → List (DataW H) → Bool := fun _ ds => decide (uptoBulkAll ds ≤ 1048576)
def OpenSpec.upto (s : _root_.Go.ChangeSpec) : _root_.Go.OpenSpec := { _root_.Go.OpenSpec.ofChange s with cond := some uptoSmall }

/-- 'laws.FnVotes', WHERE WHAT IT READS IS OF BULK AT MOST 1048576: true; the input reads as it did. -/
def fnVotesUptoRow : OpenClaim := { program := "ytpdbjjklcejimaa", sum := "cd82f1700420834900f281e65923282ae3eefc0da76f1b3dbcc6fdfd951781f2", func := "loop.example/g00631/laws.FnVotes", spec := "fnVotes", apart := false, narrowed := true }
def FnVotesUptoSaid : Prop := fnVotesUptoRow.holds Try.pinned (OpenSpec.upto fnVotesSpec)

/-- 'laws.FnExactVoteFault', WHERE WHAT IT READS IS OF BULK AT MOST 1048576: true; the input reads as it did. -/
def fnExactVoteFaultUptoRow : OpenClaim := { program := "ytpdbjjklcejimaa", sum := "cd82f1700420834900f281e65923282ae3eefc0da76f1b3dbcc6fdfd951781f2", func := "loop.example/g00631/laws.FnExactVoteFault", spec := "fnExactVoteFault", apart := false, narrowed := true }
def FnExactVoteFaultUptoSaid : Prop := fnExactVoteFaultUptoRow.holds Try.pinned (OpenSpec.upto fnExactVoteFaultSpec)

/-- 'laws.FnExactPackVote', WHERE WHAT IT READS IS OF BULK AT MOST 1048576: true; the input reads as it did. -/
def fnExactPackVoteUptoRow : OpenClaim := { program := "ytpdbjjklcejimaa", sum := "cd82f1700420834900f281e65923282ae3eefc0da76f1b3dbcc6fdfd951781f2", func := "loop.example/g00631/laws.FnExactPackVote", spec := "fnExactPackVote", apart := false, narrowed := true }
def FnExactPackVoteUptoSaid : Prop := fnExactPackVoteUptoRow.holds Try.pinned (OpenSpec.upto fnExactPackVoteSpec)

/-- 'laws.FnExactReadVote', WHERE WHAT IT READS IS OF BULK AT MOST 1048576: true; the input reads as it did. -/
def fnExactReadVoteUptoRow : OpenClaim := { program := "ytpdbjjklcejimaa", sum := "cd82f1700420834900f281e65923282ae3eefc0da76f1b3dbcc6fdfd951781f2", func := "loop.example/g00631/laws.FnExactReadVote", spec := "fnExactReadVote", apart := false, narrowed := true }
def FnExactReadVoteUptoSaid : Prop := fnExactReadVoteUptoRow.holds Try.pinned (OpenSpec.upto fnExactReadVoteSpec)

/-- 'laws.FnExactSameVotes', WHERE WHAT IT READS IS OF BULK AT MOST 1048576: true; the input reads as it did. -/
def fnExactSameVotesUptoRow : OpenClaim := { program := "ytpdbjjklcejimaa", sum := "cd82f1700420834900f281e65923282ae3eefc0da76f1b3dbcc6fdfd951781f2", func := "loop.example/g00631/laws.FnExactSameVotes", spec := "fnExactSameVotes", apart := false, narrowed := true }
def FnExactSameVotesUptoSaid : Prop := fnExactSameVotesUptoRow.holds Try.pinned (OpenSpec.upto fnExactSameVotesSpec)

end Rows
end Go.Proofs.Ytpdbjjklcejimaa
