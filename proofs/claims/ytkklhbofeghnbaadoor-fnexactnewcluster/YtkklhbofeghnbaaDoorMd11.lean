/- A struct stored into the middle of a block. No condition. -/
import Derived.Test.YtkklhbofeghnbaaDoorSt8
import Derived.Test.YtkklhbofeghnbaaDoorBlk5
import Derived.Deep.MidRow
namespace Go.Proofs.YtkklhbofeghnbaaDoor
open Go.RowKit
set_option linter.unusedVariables false

section
variable {ops : Array Oper} {rest : List Oper} {op : Oper} {a : Act} {w : World} {Q : Exit → Act → World → Prop}
theorem st_mid (hw : Region.wanted op (yielded ops a.tmps) = true) (ty : TypeId) (x y : Operand) (ho : op.op = .store ty x y)
    (g o : Nat) (cells : Array Value) (hx : a.eval x = .pointer (some ⟨g, o, none⟩)) (hy : a.eval y = .agg cells)
    (t : TypeId) (old : Array Value) (hg : Blk w g t old) (hi : (Tryd.prog.info? ty).map (·.size) = some cells.size)
    (hold : o + cells.size ≤ old.size) (h1 : cells.all (·.oneCell') = true)
    (h : wpList Tryd.prog ops Q rest (a.put op.dst undef) (w.setCells g o cells.toList)) : wpList Tryd.prog ops Q (op :: rest) a w := by
  simp only [wpList]
  rw [if_pos hw]
  refine Or.inl (wp_store_mid ty x y ho g o cells hx hy ?_ hi h1 h)
  intro j hj
  refine ⟨?_, hg.frozen _⟩
  rw [hg.cell (o + j) (old[o + j]'(by omega)) (by rw [Array.getElem?_eq_getElem])]
  rfl
end
/-- A node's replica is stored: five cells behind two. -/
theorem Blk.mid5 {w : World} {b : Nat} {t : TypeId} {c0 c1 d0 d1 d2 d3 d4 : Value} (h : Blk w b t #[c0, c1, d0, d1, d2, d3, d4]) (x0 x1 x2 x3 x4 : Value) : Blk (w.setCells b 2 [x0, x1, x2, x3, x4]) b t #[c0, c1, x0, x1, x2, x3, x4] := by
  have := ((((h.set 2 x0).set 3 x1).set 4 x2).set 5 x3).set 6 x4
  simpa only [World.setCells, pjE] using this
theorem out_mid5 (w : World) (b : Nat) (x0 x1 x2 x3 x4 : Value) : Out [b] w (w.setCells b 2 [x0, x1, x2, x3, x4]) :=
  (((((Out.refl [b] w).set (b := b) (j := 2) (u := x0) (by simp)).set (b := b) (j := 3) (u := x1) (by simp)).set (b := b) (j := 4) (u := x2) (by simp)).set (b := b) (j := 5) (u := x3) (by simp)).set (b := b) (j := 6) (u := x4) (by simp)

theorem out_row11 (w : World) (g : Nat) (cs : Array Value) : Out [g] w (w.setRow g cs) :=
  ⟨rfl, rfl, rfl, by rw [setRow_size]; exact Nat.le_refl _, fun k _ hn => setRow_other w g k cs (by simpa using hn)⟩

end Go.Proofs.YtkklhbofeghnbaaDoor
