/- What the condition on the variable 'openRow' gives: its block's cells, one by one. -/
import Derived.Test.YtkklhbofeghnbaaDoorRows
import Derived.Test.YtkklhbofeghnbaaDoorNW
import Derived.Lib.LaidU8
import Derived.Lib.SmallJoins
import Derived.OpenVars
import Derived.LaidMore
import Derived.Stop.LaidErr
import Derived.Stop.Joined
namespace Go.Proofs.YtkklhbofeghnbaaDoor
open Go.RowKit Go.ChangeShapes Go.WideShapes
set_option linter.unusedVariables false
set_option linter.unusedSimpArgs false
set_option maxRecDepth 100000

theorem gOpn : Tryd.prog.globalNamed "loop.example/g00631/impl.openRow" = some 0 := by kernel_rfl
theorem tOpn : (Tryd.prog.globals[0]?).map (·.type) = some 47 := by kernel_rfl
theorem cI : Tryd.prog.cellsOf 2 = 1 := by kernel_rfl

theorem opn_of_laid {W : World} (h : laidMetH Tryd.prog [("loop.example/g00631/impl.openRow", Rows.laid_loop_example_g00631_impl_openRow)] W) : Opn W := by
  rw [MakeChecks.laidMetH_plain _ _ _ (by kernel_rfl)] at h
  obtain ⟨g, t, cs, fuel, p, hg, ht, hvar, hd⟩ := Lib.laidMet.reads h (List.mem_singleton.2 rfl)
  obtain rfl := Option.some.inj (gOpn.symm.trans hg)
  obtain rfl := Option.some.inj (tOpn.symm.trans ht)
  unfold Rows.laid_loop_example_g00631_impl_openRow at hd
  intro j hj
  obtain ⟨f0, d0, q0, r0, s0⟩ := Lib.array_elem Tryd.underlying47 hd j hj
  rw [cI] at s0
  have hd0 : d0 = .lit (.int .i64 3) := by
    match j, hj with
    | 0, _ => simpa using r0.symm
    | 1, _ => simpa using r0.symm
    | 2, _ => simpa using r0.symm
  subst hd0
  obtain ⟨n0, e0, g0, _⟩ := DataW.trod_int Tryd.underlying2 s0
  have hn : n0 = 3 := by have := g0.symm; simp at this; exact this.1
  subst hn
  rw [World.var?_cell hg hvar j, ← Array.getElem?_toList]
  have := congrArg (fun l => l[0]?) e0
  simpa using this

end Go.Proofs.YtkklhbofeghnbaaDoor
