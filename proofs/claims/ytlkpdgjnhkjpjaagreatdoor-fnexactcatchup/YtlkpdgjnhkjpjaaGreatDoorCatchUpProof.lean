/- At every list of instances and every node the program's CatchUp answers as its model, field by field, writes into no argument, and its answer owns its memory. The condition is the card's own: impl.rules and errors.errorType start as the program's text lays them. -/
import Derived.Test.YtlkpdgjnhkjpjaaGreatDoorRows
import Derived.Test.YtlkpdgjnhkjpjaaGreatDoorTie
import Derived.Test.YtlkpdgjnhkjpjaaGreatDoorCards
import Derived.Test.YtlkpdgjnhkjpjaaGreatDoorSUAW
import Derived.Test.YtlkpdgjnhkjpjaaGreatDoorSUBM
import Derived.OpenVars
import Derived.ChangeVars
import Derived.WalkKit
import Derived.ProofKit
import Derived.OpenShut
import Derived.ShutString
import Derived.ChangeOld
import Derived.Below
import Derived.LaidMore
import Derived.LaidHandle
import Derived.Stop.Joined
import Derived.SevenTiedAt
namespace Go.Proofs.YtlkpdgjnhkjpjaaGreatDoor.fnExactCatchUp
open Go.ChangeShapes Go.WideShapes Go.ChangeAt Go.RowKit
set_option linter.unusedVariables false
set_option linter.unusedSimpArgs false

theorem own : ownKnob Tryz.prog.godebug = none := by kernel_rfl
theorem laidOut : laidOutB Tryz.prog = true := by kernel_rfl

theorem et : Tryz.prog.globalNamed "errors.errorType" = some 0 := by kernel_rfl
theorem rt : (Tryz.prog.cutTypes.find? (·.1 == "internal/reflectlite.rtype")).map (·.2) = some 344 := by kernel_rfl
theorem oneRow : ((List.range 440).filter fun t => Tryz.prog.rowNamed t [101, 114, 114, 111, 114]) = [148] := by kernel_rfl
theorem size : Tryz.prog.types.size = 440 := by kernel_rfl
theorem handle : typeHandle Tryz.prog 148 = .pointer (some ⟨2, 148, none⟩) := by kernel_rfl
abbrev theLaid : List (String × DataW Unit) := Rows.fnExactCatchUpRow.laid
/-- What the condition gives: the variable's one cell, and the table. -/
theorem of_laid {W : World} (h : laidMetH Tryz.prog theLaid W) : ErrT W ∧ Rul W := by
  have h' : laidMet Tryz.prog [("loop.example/g00631/impl.rules", Rows.laid_loop_example_g00631_impl_rules)] W ∧ handlesMet Tryz.prog [("errors.errorType", Rows.laid_errors_errorType)] W := h
  refine ⟨?_, q53 h'.1⟩
  obtain ⟨name, u, ty, e1, e2, e3, e4, e5⟩ := h'.2 _ (List.mem_singleton.2 rfl)
  have en : name = [101, 114, 114, 111, 114] := (Option.some.inj e1).symm
  subst en
  obtain rfl := Option.some.inj (rt.symm.trans e2)
  have hm : ty ∈ (List.range 440).filter fun t => Tryz.prog.rowNamed t [101, 114, 114, 111, 114] := List.mem_filter.2 ⟨List.mem_range.2 (by rw [← size]; exact e3), e4⟩
  rw [oneRow] at hm
  obtain rfl := List.mem_singleton.1 hm
  rw [handle] at e5
  unfold ErrT
  simpa using World.var?_cell et e5 0
/-- A world that meets the condition: the settled one, the variables' cells q0E. -/
theorem laidWorld_met (os : Os) (args : Array Value) : laidMetH Tryz.prog theLaid (({ World.holding Tryz.prog os ⟨#[], #[], []⟩ with heap := ((World.holding Tryz.prog os ⟨#[], #[], []⟩).heap.modify 0 (fun | .cells _ t frozen => .cells #[.iface 344 (.agg #[.pointer (some ⟨2, 148, none⟩)])] t frozen | o => o)).modify 1 (fun | .cells _ t frozen => .cells q6U.toArray t frozen | o => o) } : World).forCall (fun _ _ => 0) ⟨#[], args, []⟩).memory :=
  laidMetH_of_parts (laidMet_of_run' 8 (by kernel_rfl) (by kernel_rfl)) (by kernel_rfl)

set_option maxRecDepth 100000 in
theorem lifted (os : Os) (started : os.Started) (H : Type) (enc : TypeId × Value → H) :
    ReturnsInHanded {} Tryz.checked os 10 .any (fun w args => (Rows.fnExactCatchUpSpec.pre enc Tryz.prog Tryz.f10 Rows.fnExactCatchUpRow.domain false w args ∧ laidMetH Tryz.prog theLaid w) ∧ sizedMet enc Tryz.prog Tryz.f10 (OpenSpec.ofChange Rows.fnExactCatchUpSpec) false w args)
      (Rows.fnExactCatchUpSpec.post enc Tryz.prog Tryz.f10 false true false false) := by
  refine returnsInHanded_of_change_and (C := Tryz.checked) (X := fun w _ => laidMetH Tryz.prog theLaid w) (fun _ _ _ hh h => h.of_heap hh) own started (by kernel_rfl) Tryz.func10
    (ChangeSpec.witness_at (enc := enc) (C := Tryz.checked) (os := os) (X := fun w _ => laidMetH Tryz.prog theLaid w) false ({ World.holding Tryz.prog os ⟨#[], #[], []⟩ with heap := ((World.holding Tryz.prog os ⟨#[], #[], []⟩).heap.modify 0 (fun | .cells _ t frozen => .cells #[.iface 344 (.agg #[.pointer (some ⟨2, 148, none⟩)])] t frozen | o => o)).modify 1 (fun | .cells _ t frozen => .cells q6U.toArray t frozen | o => o) } : World) #[.slice none 0 0, .agg #[.int .i64 0, .int .i64 0, .slice none 0 0, .slice none 0 0, .slice none 0 0, .slice none 0 0, .slice none 0 0]] 8 rfl (by kernel_rfl) (by kernel_rfl) (by kernel_rfl) (by kernel_rfl) (by kernel_rfl) (laidWorld_met os _)) ?_
  intro W base args ds gs before hval0 hW _ _ hL _
  have hval : ∀ (j : Nat) t v, Tryz.f10.params[j]? = some t → args[j]? = some v → Value.okWide Tryz.prog W .any base t v := hval0
  have hW' := hW
  obtain ⟨p, q, hA0, hV0, rfl, hfz, hnd⟩ := hW
  have hV : DataW.TrodVars enc Tryz.prog W (fun _ => true) ["loop.example/g00631/impl.rules"] gs q := hV0
  have hA : DataW.TrodAll enc Tryz.prog W 0 (fun _ => true) true Tryz.f10.params.toList args.toList ds p := hA0
  rw [Tryz.params10] at hA hval
  obtain ⟨v0, vs0, d0, ds0, p0, q0, hargs0, rfl, rfl, h0, r0⟩ := trodAll_cons hA
  obtain ⟨v1, vs1, d1, ds1, p1, q1, hargs1, rfl, rfl, h1, r1⟩ := trodAll_cons r0
  obtain ⟨hvs, rfl, rfl⟩ := trodAll_nil r1
  obtain rfl : args = #[v0, v1] := by cases args; simp_all
  obtain ⟨hE, hG⟩ := of_laid hL
  obtain ⟨_, _, _, _, g0, _, rfl, _⟩ := trodVars_one hV
  have k0 := h0
  have lt0 : ∀ x ∈ p0, x.block < W.heap.size := by obtain ⟨m, hm⟩ := k0; exact DataW.trod_lt m _ _ _ hm
  obtain ⟨y0, R0, n0, wf0⟩ := q5D (hval 0 56 v0 rfl rfl) h0
  have k1 := h1
  have lt1 : ∀ x ∈ p1, x.block < W.heap.size := by obtain ⟨m, hm⟩ := k1; exact DataW.trod_lt m _ _ _ hm
  obtain ⟨kn1, sf1, q1_, rfl, R1, wf1⟩ := q6E (hval 1 63 v1 rfl rfl) h1
  clear hA0 hval0 hV0
  refine (q54 v0 y0 kn1 sf1 q1_ W hG hE R0 n0 wf0 R1 wf1).mono fun e W' ⟨he, bel⟩ => ?_
  subst he
  exact ⟨_, rfl, _, _, _, [], _, _, hW', trodAll_mk1 (shut_bool Tryz.underlying4 _), (trodAll_cons_mk (Below.trod laidOut (by kernel_rfl) (of_decide_eq_true (by kernel_rfl)) k0 bel lt0) (trodAll_cons_mk (Below.trod laidOut (by kernel_rfl) (of_decide_eq_true (by kernel_rfl)) k1 bel lt1) trodAll_mk0)), Below.trodVars laidOut bel (by kernel_rfl) hV, bel.frame _, fun h => by cases h⟩

theorem f1 : (Rows.fnExactCatchUpRow.inPlace == Tryz.prog.inPlace 10) = true := by kernel_rfl
theorem f2 : (Rows.fnExactCatchUpRow.unfollowed == Tryz.prog.unfollowed 10) = true := by kernel_rfl
theorem f3 : (Rows.fnExactCatchUpRow.recurses == Tryz.prog.recurses 10) = true := by kernel_rfl
theorem f4 : (Rows.fnExactCatchUpRow.named == Tryz.prog.varsNamed 10) = true := by kernel_rfl
theorem facts : joinedFacts Tryz.prog 10 Tryz.f10 Rows.fnExactCatchUpSpec Rows.fnExactCatchUpRow = true := by
  unfold joinedFacts
  rw [f1, f2, f3, f4]
  kernel_rfl
theorem over : Rows.fnExactCatchUpRow.holds Tryz.pinned (OpenSpec.ofChange Rows.fnExactCatchUpSpec) :=
  OpenClaim.holds_of_wide 10 Tryz.f10 rfl rfl rfl rfl rfl rfl rfl ⟨rfl, rfl, rfl, rfl, rfl⟩ rfl rfl rfl rfl rfl (by kernel_rfl) Tryz.func10 facts
    (of_decide_eq_true (by kernel_rfl)) (by unfold Func.isWrapper; first | (rw [if_pos (by decide +kernel)]; kernel_rfl) | (rw [if_neg (by decide +kernel)]; exact ⟨rfl, rfl⟩))
    (fun os started H enc _ => lifted os started H enc)

theorem card : Claim7.holds Tryz.pinned (.plain (OpenSpec.ofChange Rows.fnExactCatchUpSpec)) Rows.fnExactCatchUpCard :=
  Claim7.holds_tied_plain_at .later [] [.handle, .wider] true Rows.fnExactCatchUpCard.stood.harness true
    over (fun _ h => by cases h) (by as_aux_lemma => kernel_rfl) (fun _ h => by cases h) fnExactCatchUp_row_tie rfl ⟨rfl, rfl⟩ (by as_aux_lemma => kernel_rfl) rfl
    (fun f fn hf hfn => by
      obtain rfl : f = 10 := Option.some.inj ((show Tryz.prog.funcNamed "loop.example/g00631/laws.FnExactCatchUp" = some 10 by as_aux_lemma => kernel_rfl).symm.trans hf) |>.symm
      obtain rfl : fn = Tryz.f10 := (Option.some.inj (Tryz.func10.symm.trans hfn)).symm
      exact ⟨by as_aux_lemma => kernel_rfl, fun j t ht => by
        rw [Tryz.params10] at ht
        have h3 : t = 56 ∨ t = 63 := by
          rcases j with _ | j
          · simp at ht; subst ht; simp
          rcases j with _ | j
          · simp at ht; subst ht; simp
          simp at ht
        rcases h3 with rfl | rfl
        · exact (show Tryz.prog.wantsStandIn 56 = false by as_aux_lemma => kernel_rfl)
        · exact (show Tryz.prog.wantsStandIn 63 = false by as_aux_lemma => kernel_rfl)⟩)
    (by as_aux_lemma => kernel_rfl)

end Go.Proofs.YtlkpdgjnhkjpjaaGreatDoor.fnExactCatchUp
namespace Go.Proofs.YtlkpdgjnhkjpjaaGreatDoor
theorem fnExactCatchUp_holds : Rows.FnExactCatchUpCardSaid := fnExactCatchUp.card
#print axioms fnExactCatchUp_holds
end Go.Proofs.YtlkpdgjnhkjpjaaGreatDoor
