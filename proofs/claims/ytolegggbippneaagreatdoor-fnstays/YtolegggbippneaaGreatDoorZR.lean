/- Texts joined, with what the law reaches alone. -/
import Derived.Test.YtolegggbippneaaGreatDoorZA
import Derived.Deep.Slices
import Derived.Deep.Strs
import Derived.Lib.SmallJoins
import Derived.ProofKit
import Derived.Test.YtolegggbippneaaGreatDoorZC
import Derived.Test.YtolegggbippneaaGreatDoorRows
import Derived.Test.YtolegggbippneaaGreatDoorZB
import Derived.Lib.LaidU8
import Derived.OpenVars
import Derived.LaidMore
import Derived.Stop.LaidErr
import Derived.Stop.Joined
import Derived.Test.YtolegggbippneaaGreatDoorZI
namespace Go.Proofs.YtolegggbippneaaGreatDoor
open Go.RowKit Go.Deep Go.ChangeShapes Go.WideShapes
set_option linter.unusedVariables false
set_option maxRecDepth 100000
set_option linter.unusedSimpArgs false
section
variable {H : Type} {enc : TypeId × Value → H} {P : Program} {w : World} {base : Nat} {spare : Nat → Bool} {held : Bool}
end
section
variable {H : Type} {enc : TypeId × Value → H} {w : World} {base : Nat} {spare : Nat → Bool} {held : Bool}
end
end Go.Proofs.YtolegggbippneaaGreatDoor
namespace Go.Proofs.YtolegggbippneaaGreatDoor
open Go.RowKit Go.Deep Go.ChangeShapes Go.WideShapes
set_option linter.unusedVariables false
set_option maxRecDepth 100000
set_option linter.unusedSimpArgs false
section
variable {H : Type} {enc : TypeId × Value → H} {w : World} {base : Nat} {spare : Nat → Bool} {held : Bool}
end
end Go.Proofs.YtolegggbippneaaGreatDoor
namespace Go.Proofs.YtolegggbippneaaGreatDoor
open Go.RowKit Go.Deep Go.ChangeShapes Go.WideShapes
set_option linter.unusedVariables false
set_option maxRecDepth 100000
set_option linter.unusedSimpArgs false
section
variable {H : Type} {enc : TypeId × Value → H} {w : World} {base : Nat} {spare : Nat → Bool} {held : Bool}
end
end Go.Proofs.YtolegggbippneaaGreatDoor
namespace Go.Proofs.YtolegggbippneaaGreatDoor
open Go.RowKit Go.ChangeShapes Go.WideShapes
set_option linter.unusedVariables false
set_option maxRecDepth 100000
set_option linter.unusedSimpArgs false
theorem gRul : Tryz.prog.globalNamed "loop.example/g00631/impl.rules" = some 1 := by kernel_rfl

theorem tRul : (Tryz.prog.globals[1]?).map (·.type) = some 178 := by kernel_rfl

theorem cRule : Tryz.prog.cellsOf 150 = 7 := by kernel_rfl

theorem cCh : Tryz.prog.cellsOf 32 = 4 := by kernel_rfl

theorem cI : Tryz.prog.cellsOf 2 = 1 := by kernel_rfl

theorem cB : Tryz.prog.cellsOf 4 = 1 := by kernel_rfl

section
variable {H : Type} {enc : TypeId × Value → H} {w : World} {base : Nat} {spare : Nat → Bool} {held : Bool}
theorem choice_cells {fuel : Nat} {cs : List Value} {c v : Int} {d k : Bool} {q : List MemPlace} (h : DataW.trod enc Tryz.prog w base spare held fuel 32 cs = some (.agg [.lit (.int .i64 c), .lit (.bool d), .lit (.bool k), .lit (.int .i64 v)], q)) : cs = [.int .i64 c, .bool d, .bool k, .int .i64 v] := by
  obtain ⟨y0, y1, y2, y3, n, hx, hl, h0, h1, h2, h3⟩ := Go.Joins.trod_struct4 Tryz.underlying32 h
  rw [cCh] at hl
  simp only [Prod.mk.injEq, DataW.agg.injEq, List.cons.injEq, and_true] at hx
  obtain ⟨⟨x0, x1, x2, x3⟩, _⟩ := hx
  match cs, hl with
  | [c0, c1, c2, c3], _ =>
    simp only [cI, cB, List.drop_zero, List.drop_succ_cons, List.take_succ_cons, List.take_zero] at h0 h1 h2 h3
    obtain ⟨n0, e0, g0, _⟩ := DataW.trod_int Tryz.underlying2 h0
    obtain ⟨n1, e1, g1⟩ := DataW.trod_bool Tryz.underlying4 h1
    obtain ⟨n2, e2, g2⟩ := DataW.trod_bool Tryz.underlying4 h2
    obtain ⟨n3, e3, g3, _⟩ := DataW.trod_int Tryz.underlying2 h3
    simp only [List.cons.injEq, and_true] at e0 e1 e2 e3
    rw [g0] at x0
    rw [g1] at x1
    rw [g2] at x2
    rw [g3] at x3
    simp at x0 x1 x2 x3
    rw [e0, e1, e2, e3, x0, x1, x2, x3]

theorem rule_cells {fuel : Nat} {cs : List Value} {z o p c v : Int} {d k : Bool} {q : List MemPlace} (h : DataW.trod enc Tryz.prog w base spare held fuel 150 cs = some (.agg [.lit (.int .i64 z), .lit (.int .i64 o), .lit (.int .i64 p), .agg [.lit (.int .i64 c), .lit (.bool d), .lit (.bool k), .lit (.int .i64 v)]], q)) :
    cs = [.int .i64 z, .int .i64 o, .int .i64 p, .int .i64 c, .bool d, .bool k, .int .i64 v] := by
  obtain ⟨y0, y1, y2, y3, n, hx, hl, h0, h1, h2, h3⟩ := Go.Joins.trod_struct4 Tryz.underlying150 h
  rw [cRule] at hl
  simp only [Prod.mk.injEq, DataW.agg.injEq, List.cons.injEq, and_true] at hx
  obtain ⟨⟨x0, x1, x2, x3⟩, _⟩ := hx
  match cs, hl with
  | [c0, c1, c2, c3, c4, c5, c6], _ =>
    simp only [cI, cCh, List.drop_zero, List.drop_succ_cons, List.take_succ_cons, List.take_zero] at h0 h1 h2 h3
    obtain ⟨n0, e0, g0, _⟩ := DataW.trod_int Tryz.underlying2 h0
    obtain ⟨n1, e1, g1, _⟩ := DataW.trod_int Tryz.underlying2 h1
    obtain ⟨n2, e2, g2, _⟩ := DataW.trod_int Tryz.underlying2 h2
    obtain ⟨y30, y31⟩ := y3
    dsimp only at x3
    rw [← x3] at h3
    have e3 := choice_cells h3
    simp only [List.cons.injEq, and_true] at e0 e1 e2 e3
    rw [g0] at x0
    rw [g1] at x1
    rw [g2] at x2
    simp at x0 x1 x2
    obtain ⟨e3, e4, e5, e6⟩ := e3
    rw [e0, e1, e2, e3, e4, e5, e6, x0, x1, x2]

end
end Go.Proofs.YtolegggbippneaaGreatDoor
namespace Go.Proofs.YtolegggbippneaaGreatDoor
open Go.RowKit Go.ChangeShapes Go.WideShapes
set_option linter.unusedVariables false
set_option maxRecDepth 100000
set_option linter.unusedSimpArgs false
theorem gOpn : Tryz.prog.globalNamed "loop.example/g00631/impl.openRow" = some 0 := by kernel_rfl

theorem tOpn : (Tryz.prog.globals[0]?).map (·.type) = some 76 := by kernel_rfl

theorem rul_of_two {W : World} (h : laidMetH Tryz.prog [("loop.example/g00631/impl.rules", Rows.laid_loop_example_g00631_impl_rules), ("loop.example/g00631/impl.openRow", Rows.laid_loop_example_g00631_impl_openRow)] W) : Rul W := by
  rw [MakeChecks.laidMetH_plain _ _ _ (by kernel_rfl)] at h
  obtain ⟨g, t, cs, fuel, p, hg, ht, hvar, hd⟩ := Lib.laidMet.reads h (List.mem_cons_self ..)
  obtain rfl := Option.some.inj (gRul.symm.trans hg)
  obtain rfl := Option.some.inj (tRul.symm.trans ht)
  unfold Rows.laid_loop_example_g00631_impl_rules at hd
  have e : ∀ i, i < 5 → ∃ fuel' d q, _ ∧ _ := fun i hi => Lib.array_elem Tryz.underlying178 hd i hi
  rw [cRule] at e
  obtain ⟨f0, d0, q0, r0, s0⟩ := e 0 (by omega)
  obtain ⟨f1, d1, q1, r1, s1⟩ := e 1 (by omega)
  obtain ⟨f2, d2, q2, r2, s2⟩ := e 2 (by omega)
  obtain ⟨f3, d3, q3, r3, s3⟩ := e 3 (by omega)
  obtain ⟨f4, d4, q4, r4, s4⟩ := e 4 (by omega)
  simp only [List.getElem?_cons_zero, List.getElem?_cons_succ, Option.some.injEq] at r0 r1 r2 r3 r4
  subst r0 r1 r2 r3 r4
  have t0 := rule_cells s0
  have t1 := rule_cells s1
  have t2 := rule_cells s2
  have t3 := rule_cells s3
  have t4 := rule_cells s4
  have hall : cs.toList.take 35 = rulL := by
    rw [show 35 = 0 * 7 + 7 + 7 + 7 + 7 + 7 from rfl, List.take_add, List.take_add, List.take_add, List.take_add]
    rw [show 0 * 7 + 7 + 7 + 7 + 7 = 4 * 7 from rfl, show 0 * 7 + 7 + 7 + 7 = 3 * 7 from rfl, show 0 * 7 + 7 + 7 = 2 * 7 from rfl, show 0 * 7 + 7 = 1 * 7 from rfl, t1, t2, t3, t4]
    have t0' : List.take (1 * 7) cs.toList = _ := t0
    rw [t0']
    rfl
  intro i v hv
  have hi : i < 35 := by
    have := (List.getElem?_eq_some_iff.1 hv).1
    simpa [rulL] using this
  rw [World.var?_cell hg hvar i, ← Array.getElem?_toList]
  rw [← hall, List.getElem?_take, if_pos hi] at hv
  exact hv

theorem opn_of_two {W : World} (h : laidMetH Tryz.prog [("loop.example/g00631/impl.rules", Rows.laid_loop_example_g00631_impl_rules), ("loop.example/g00631/impl.openRow", Rows.laid_loop_example_g00631_impl_openRow)] W) : Opn W := by
  rw [MakeChecks.laidMetH_plain _ _ _ (by kernel_rfl)] at h
  obtain ⟨g, t, cs, fuel, p, hg, ht, hvar, hd⟩ := Lib.laidMet.reads h (List.mem_cons_of_mem _ (List.mem_singleton.2 rfl))
  obtain rfl := Option.some.inj (gOpn.symm.trans hg)
  obtain rfl := Option.some.inj (tOpn.symm.trans ht)
  unfold Rows.laid_loop_example_g00631_impl_openRow at hd
  intro j hj
  obtain ⟨f0, d0, q0, r0, s0⟩ := Lib.array_elem Tryz.underlying76 hd j hj
  rw [cI] at s0
  have hd0 : d0 = .lit (.int .i64 3) := by
    match j, hj with
    | 0, _ => simpa using r0.symm
    | 1, _ => simpa using r0.symm
    | 2, _ => simpa using r0.symm
  subst hd0
  obtain ⟨n0, e0, g0, _⟩ := DataW.trod_int Tryz.underlying2 s0
  have hn : n0 = 3 := by have := g0.symm; simp at this; exact this.1
  subst hn
  rw [World.var?_cell hg hvar j, ← Array.getElem?_toList]
  have := congrArg (fun l => l[0]?) e0
  simpa using this

theorem rulO_of_two {W : World} (h : laidMetH Tryz.prog [("loop.example/g00631/impl.rules", Rows.laid_loop_example_g00631_impl_rules), ("loop.example/g00631/impl.openRow", Rows.laid_loop_example_g00631_impl_openRow)] W) : RulO W := ⟨rul_of_two h, opn_of_two h⟩

end Go.Proofs.YtolegggbippneaaGreatDoor
