/- Texts that stand together: data, memory, helpers. No condition. -/
import Derived.Test.YtjnkldlkbjldcaaGreatDoorGL
import Derived.Test.YtjnkldlkbjldcaaGreatDoorO6
namespace Go.Proofs.YtjnkldlkbjldcaaGreatDoor
open Go.RowKit Go.ChangeShapes Go.WideShapes
set_option linter.unusedVariables false
set_option maxRecDepth 100000
set_option linter.unusedSimpArgs false

theorem gOpn : Tryz.prog.globalNamed "loop.example/g00631/impl.openRow" = some 0 := by kernel_rfl
theorem tOpn : (Tryz.prog.globals[0]?).map (·.type) = some 112 := by kernel_rfl

theorem rul_of_two {W : World} (h : laidMetH Tryz.prog [("loop.example/g00631/impl.rules", Rows.laid_loop_example_g00631_impl_rules), ("loop.example/g00631/impl.openRow", Rows.laid_loop_example_g00631_impl_openRow)] W) : Rul W := by
  rw [MakeChecks.laidMetH_plain _ _ _ (by kernel_rfl)] at h
  obtain ⟨g, t, cs, fuel, p, hg, ht, hvar, hd⟩ := Lib.laidMet.reads h (List.mem_cons_self ..)
  obtain rfl := Option.some.inj (gRul.symm.trans hg)
  obtain rfl := Option.some.inj (tRul.symm.trans ht)
  unfold Rows.laid_loop_example_g00631_impl_rules at hd
  have e : ∀ i, i < 5 → ∃ fuel' d q, _ ∧ _ := fun i hi => Lib.array_elem Tryz.underlying258 hd i hi
  rw [cRule] at e
  obtain ⟨f0, d0, q0, r0, s0⟩ := e 0 (by omega)
  obtain ⟨f1, d1, q1, r1, s1⟩ := e 1 (by omega)
  obtain ⟨f2, d2, q2, r2, s2⟩ := e 2 (by omega)
  obtain ⟨f3, d3, q3, r3, s3⟩ := e 3 (by omega)
  obtain ⟨f4, d4, q4, r4, s4⟩ := e 4 (by omega)
  simp only [List.getElem?_cons_zero, List.getElem?_cons_succ, Option.some.injEq] at r0 r1 r2 r3 r4
  subst r0 r1 r2 r3 r4
  have t0 := rule_cells s0
  have t1 := rule_cells s1
  have t2 := rule_cells s2
  have t3 := rule_cells s3
  have t4 := rule_cells s4
  have hall : cs.toList.take 35 = rulL := by
    rw [show 35 = 0 * 7 + 7 + 7 + 7 + 7 + 7 from rfl, List.take_add, List.take_add, List.take_add, List.take_add]
    rw [show 0 * 7 + 7 + 7 + 7 + 7 = 4 * 7 from rfl, show 0 * 7 + 7 + 7 + 7 = 3 * 7 from rfl, show 0 * 7 + 7 + 7 = 2 * 7 from rfl, show 0 * 7 + 7 = 1 * 7 from rfl, t1, t2, t3, t4]
    have t0' : List.take (1 * 7) cs.toList = _ := t0
    rw [t0']
    rfl
  intro i v hv
  have hi : i < 35 := by
    have := (List.getElem?_eq_some_iff.1 hv).1
    simpa [rulL] using this
  rw [World.var?_cell hg hvar i, ← Array.getElem?_toList]
  rw [← hall, List.getElem?_take, if_pos hi] at hv
  exact hv


theorem opn_of_two {W : World} (h : laidMetH Tryz.prog [("loop.example/g00631/impl.rules", Rows.laid_loop_example_g00631_impl_rules), ("loop.example/g00631/impl.openRow", Rows.laid_loop_example_g00631_impl_openRow)] W) : Opn W := by
  rw [MakeChecks.laidMetH_plain _ _ _ (by kernel_rfl)] at h
  obtain ⟨g, t, cs, fuel, p, hg, ht, hvar, hd⟩ := Lib.laidMet.reads h (List.mem_cons_of_mem _ (List.mem_singleton.2 rfl))
  obtain rfl := Option.some.inj (gOpn.symm.trans hg)
  obtain rfl := Option.some.inj (tOpn.symm.trans ht)
  unfold Rows.laid_loop_example_g00631_impl_openRow at hd
  intro j hj
  obtain ⟨f0, d0, q0, r0, s0⟩ := Lib.array_elem Tryz.underlying112 hd j hj
  rw [cI] at s0
  have hd0 : d0 = .lit (.int .i64 3) := by
    match j, hj with
    | 0, _ => simpa using r0.symm
    | 1, _ => simpa using r0.symm
    | 2, _ => simpa using r0.symm
  subst hd0
  obtain ⟨n0, e0, g0, _⟩ := DataW.trod_int Tryz.underlying2 s0
  have hn : n0 = 3 := by have := g0.symm; simp at this; exact this.1
  subst hn
  rw [World.var?_cell hg hvar j, ← Array.getElem?_toList]
  have := congrArg (fun l => l[0]?) e0
  simpa using this
theorem rulO_of_two {W : World} (h : laidMetH Tryz.prog [("loop.example/g00631/impl.rules", Rows.laid_loop_example_g00631_impl_rules), ("loop.example/g00631/impl.openRow", Rows.laid_loop_example_g00631_impl_openRow)] W) : RulO W := ⟨rul_of_two h, opn_of_two h⟩

end Go.Proofs.YtjnkldlkbjldcaaGreatDoor

namespace Go.Proofs.YtjnkldlkbjldcaaGreatDoor
open Go.RowKit Go.Deep Go.ChangeShapes Go.WideShapes
set_option linter.unusedVariables false
set_option maxRecDepth 100000
set_option linter.unusedSimpArgs false

section
variable {H : Type} {enc : TypeId × Value → H} {w : World} {base : Nat} {spare : Nat → Bool} {held : Bool}

theorem open_instK (n : Nat) (l : List Value) (y : DataW H × List MemPlace) (h : DataW.trod enc Tryz.prog w base spare held n 50 l = some y) : ∃ p : InstQ, l = instK.cells p ∧ instK.rd w p ∧ InstQ.wf p := by
  obtain ⟨p, e, h1, h2⟩ := open_instCells h
  exact ⟨p, e, h1, h2⟩
theorem open_instsV {r : Reach} {b0 : Nat} {v : Value} {d : DataW H} {p : List MemPlace} (hv : Value.okWide Tryz.prog w r b0 82 v) (h : DataW.Trod enc Tryz.prog w base spare held 82 v d p) :
    ∃ ps : List InstQ, instK.At w v ps ∧ ps.length ≤ 9223372036854775807 ∧ ∀ p ∈ ps, InstQ.wf p := by
  obtain ⟨a0, len0, cap0, rfl⟩ := okWide_slice Tryz.underlying82 hv
  obtain ⟨fuel, hf⟩ := h
  obtain ⟨v, ps, e, h1, h2, h3⟩ := open_kind instK InstQ.wf Tryz.underlying82 (by kernel_rfl) (by decide) open_instK hf
  simp [Value.cells] at e
  rw [← e] at h1
  exact ⟨ps, h1, h2, h3⟩

end

end Go.Proofs.YtjnkldlkbjldcaaGreatDoor
