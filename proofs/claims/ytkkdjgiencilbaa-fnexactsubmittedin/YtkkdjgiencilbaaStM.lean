/- A struct stored into the middle of a block. No condition. -/
import Derived.Test.YtkkdjgiencilbaaBlk
import Derived.Deep.MidRow
namespace Go.Proofs.Ytkkdjgiencilbaa
open Go.RowKit
set_option linter.unusedVariables false

section
variable {ops : Array Oper} {rest : List Oper} {op : Oper} {a : Act} {w : World} {Q : Exit → Act → World → Prop}
theorem st_mid (hw : Region.wanted op (yielded ops a.tmps) = true) (ty : TypeId) (x y : Operand) (ho : op.op = .store ty x y)
    (g o : Nat) (cells : Array Value) (hx : a.eval x = .pointer (some ⟨g, o, none⟩)) (hy : a.eval y = .agg cells)
    (t : TypeId) (old : Array Value) (hg : Blk w g t old) (hi : (Try.prog.info? ty).map (·.size) = some cells.size)
    (hold : o + cells.size ≤ old.size) (h1 : cells.all (·.oneCell') = true)
    (h : wpList Try.prog ops Q rest (a.put op.dst undef) (w.setCells g o cells.toList)) : wpList Try.prog ops Q (op :: rest) a w := by
  simp only [wpList]
  rw [if_pos hw]
  refine Or.inl (wp_store_mid ty x y ho g o cells hx hy ?_ hi h1 h)
  intro j hj
  refine ⟨?_, hg.frozen _⟩
  rw [hg.cell (o + j) (old[o + j]'(by omega)) (by rw [Array.getElem?_eq_getElem])]
  rfl
end

end Go.Proofs.Ytkkdjgiencilbaa
