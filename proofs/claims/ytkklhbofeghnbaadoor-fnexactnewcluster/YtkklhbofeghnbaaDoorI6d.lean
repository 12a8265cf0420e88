/- Whether a quorum proposed a value in one round; whether all that was said on a board was said by the rules. -/
import Derived.Test.YtkklhbofeghnbaaDoorI6a
namespace Go.Proofs.YtkklhbofeghnbaaDoor
open Go.RowKit
open Go.BigFrame
set_option linter.unusedVariables false
set_option linter.unusedSimpArgs false
set_option maxRecDepth 100000

section
variable {ops : Array Oper} {rest : List Oper} {op : Oper} {a : Act} {w : World} {Q : Exit → Act → World → Prop}
/-- A whole block is written over. -/
theorem st_row (hw : Region.wanted op (yielded ops a.tmps) = true) (ty : TypeId) (x y : Operand) (ho : op.op = .store ty x y)
    (g : Nat) (cells : Array Value) (hx : a.eval x = .pointer (some ⟨g, 0, none⟩)) (hy : a.eval y = .agg cells)
    (t : TypeId) (old : Array Value) (hg : w.heap[g]? = some (.cells old t (0, 0))) (hi : (Tryd.prog.info? ty).map (·.size) = some cells.size)
    (hold : old.size = cells.size) (h1 : cells.all (·.oneCell') = true)
    (h : wpList Tryd.prog ops Q rest (a.put op.dst undef) (w.setRow g cells)) : wpList Tryd.prog ops Q (op :: rest) a w := by
  simp only [wpList]
  rw [if_pos hw]
  exact Or.inl (wp_store_row ty x y ho g cells hx hy t old hg hi hold h1 h)
end
theorem Blk.row {w : World} {b : Nat} {t : TypeId} {old : Array Value} (h : Blk w b t old) (cs : Array Value) : Blk (w.setRow b cs) b t cs := setRow_heap w b old cs t _ h
theorem below_row {B : Nat} {a w : World} (h : Below B a w) {g : Nat} (hg : B ≤ g) (cs : Array Value) : Below B a (w.setRow g cs) :=
  ⟨h.os, h.tape, h.output, by rw [setRow_size]; exact h.size, fun k hk => (setRow_other w g k cs (by omega)).trans (h.block k hk)⟩
theorem one_iv (zs : List Int) : (zs.map iv).toArray.all (·.oneCell') = true := all_oneCell_toArray (fun v hv => by obtain ⟨z, _, rfl⟩ := List.mem_map.1 hv; rfl)
theorem row_get {zs : List Int} (hl : zs.length = 3) {j : Nat} {v : Value} (hv : (zs.map iv)[j]? = some v) : j < 3 ∧ v = iv (zs.getD j 0) := by
  have hj : j < zs.length := by have := (List.getElem?_eq_some_iff.1 hv).1; simpa using this
  refine ⟨by omega, ?_⟩
  rw [List.getElem?_map, List.getElem?_eq_getElem hj] at hv
  simp only [Option.map_some, Option.some.injEq] at hv
  rw [← hv]
  simp [List.getD, hj]
theorem rowC_pros {q : RoundE} (h : q.rep.length = 3 ∧ q.pro.length = 3) : ∀ j v, (q.pro.map iv)[j]? = some v → (rowC q)[3 + j]? = some v := by
  intro j v hv
  obtain ⟨hj, rfl⟩ := row_get h.2 hv
  exact rowC_pro h j hj

end Go.Proofs.YtkklhbofeghnbaaDoor
