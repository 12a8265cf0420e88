/- Steps in plain words: whether one is a crash, and what is wrong with one. No condition. -/
import Derived.Test.YtkkdjgiencilbaaKSt
import Derived.Test.YtkkdjgiencilbaaTxnSame
import Derived.Laws.StructEq
namespace Go.Proofs.Ytkkdjgiencilbaa
open Go.RowKit
open Go.BigFrame
set_option linter.unusedVariables false
set_option linter.unusedSimpArgs false

def crS (d : StepD) : Bool := d.kd == 5 && d.nn == 3
def noTx (t : TxnD) : Bool := t.id == 0 && t.session == 0 && t.seq == 0 && t.acts.isEmpty
def noVt (v : VoteD) : Bool := v.kind == 0 && v.round == 0 && v.node == 0 && v.value == 0
def sfOk (d : StepD) : Bool := (decide (1 ≤ d.kd) && decide (d.kd ≤ 5)) && (d.kd == 1 || d.kd == 5 || d.nd == 0) && (d.kd == 2 || d.kd == 3 || d.kd == 5 || d.nn == 0) && (d.kd == 1 || noTx d.t) && (d.kd == 3 || noVt d.v)
def sfF (d : StepD) : Int := if sfOk d then 0 else 1

theorem any_no {P : Type} (f : P → Bool) (ps : List P) (k : Nat) (hk : k < ps.length) (h : (ps.take k).any f = false) (h1 : f ps[k] = false) : (ps.take (k + 1)).any f = false := by
  rw [List.take_succ_eq_append_getElem hk, List.any_append, h]
  simp [h1]
theorem any_yes {P : Type} (f : P → Bool) (ps : List P) (k : Nat) (hk : k < ps.length) (h1 : f ps[k] = true) : ps.any f = true := List.any_eq_true.2 ⟨_, List.getElem_mem hk, h1⟩

theorem vote_eql (x : VoteD) (w : World) : (binOp .eql 46 (.agg #[.int .i64 x.kind, .int .i64 x.round, .int .i64 x.node, .int .i64 x.value]) (.agg #[.int .i64 0, .int .i64 0, .int .i64 0, .int .i64 0])).run Try.prog w = .ok (.bool (noVt x)) w := by
  obtain ⟨x0, x1, x2, x3⟩ := x
  rw [run_eql_struct, run_equalIn_struct (P := Try.prog) w 9999 46 _ _ (by kernel_rfl) (by kernel_rfl)]
  have c1 : Try.prog.cellsOf 2 = 1 := by kernel_rfl
  cases h0 : (x0 == 0) <;> cases h1 : (x1 == 0) <;> cases h2 : (x2 == 0) <;> cases h3 : (x3 == 0) <;> simp [Program.fieldsOf, Try.underlying46, Op.eqFields, go_sem, Try.underlying2, h0, h1, h2, h3, noVt, c1]

end Go.Proofs.Ytkkdjgiencilbaa
