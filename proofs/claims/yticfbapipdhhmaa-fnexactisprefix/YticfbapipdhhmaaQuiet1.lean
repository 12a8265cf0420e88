/- One operation of a region that draws, which only reads, whatever it is: it yields the same value in every world of the class. No condition. -/
import Derived.Test.YticfbapipdhhmaaText
namespace Go.Proofs.Yticfbapipdhhmaa
open Go.RowKit
set_option linter.unusedVariables false

section
variable {P : Program} {ops : Array Oper} {Q : Exit → Act → World → Prop} {S : World → Prop}

theorem quiet_at (i : Nat) (d : Option Tmp) (v : Value) (fuel : Nat) {F : Nat} {l : Array Bool} {a : Act} {w : World} (hF : F = fuel + 1) (hs : Region.noSelect ops = true)
    (hd : (ops[i]?).map (·.dst) = some d) (hok : okSeg ops [i] l = true) (hw : (ops[i]?).map (fun o => Region.wanted o (yielded ops a.tmps)) = some true)
    (hrun : ∀ u, S u → (ops[i]?).map (fun o => (execOp a.eval o).run P u) = some (.ok (.value v) u)) (hS : S w)
    (h : wpAnyH P .any ops (NoPanic Q) S fuel (upTo [i] l) (a.put d v) w) : wpAnyH P .any ops (NoPanic Q) S F l a w := by
  subst hF
  cases ho : ops[i]? with
  | none => rw [ho] at hd; simp at hd
  | some o =>
    rw [ho] at hd hw hrun
    simp only [Option.map_some, Option.some.injEq] at hd hw hrun
    subst hd
    simp only [okSeg, Bool.and_eq_true, Bool.and_true] at hok
    exact wpAnyH_take (i := i) (oi := o) (v := v) ho hs hok.1 hok.2 (fun c a w => noPanic_put c a _ _ w) (Or.inl ⟨hw, fun u hu => hrun u hu⟩) hS h

/-- One operation, walked as a list of one. -/
theorem op_one {K : Act → World → Prop} (i : Nat) (o : Oper) {a : Act} {w : World} (ho : ops[i]? = some o) (h : wpList P ops (ThenGo Q K) [o] a w) : wpOp P ops (NoPanic Q) i K a w := by
  unfold wpOp
  simp only [ho]
  simp only [wpList] at h
  split at h
  · rename_i hw
    rw [if_pos hw]
    rcases h with h | ⟨h1, h2⟩
    · left
      unfold Oper.wp at h ⊢
      revert h
      generalize (execOp a.eval o).run P w = r
      intro h
      unfold Oper.upon at h ⊢
      split at h
      · exact h
      · exact h
      · exact h
      · refine Calls.mono h fun e w' he => ?_
        cases e <;> exact he
      · exact h
      · exact h
      · exact h
    · exact Or.inr ⟨h1, h2⟩
  · rename_i hw
    rw [if_neg hw]
    exact h

/-- One call, by its contract. -/
theorem op_call {K : Act → World → Prop} (i : Nat) (d : Option Tmp) (f : Nat) (args : Array Value) {a : Act} {w : World}
    (hd : (ops[i]?).map (·.dst) = some d) (hw : (ops[i]?).map (fun o => Region.wanted o (yielded ops a.tmps)) = some true)
    (hrun : (ops[i]?).map (fun o => (execOp a.eval o).run P w) = some (.ok (.enter f args) w))
    (hc : Calls P f args w (fun e w' => ∃ v, e = .returned v ∧ K (a.put d v) w')) : wpOp P ops (NoPanic Q) i K a w := by
  cases ho : ops[i]? with
  | none => rw [ho] at hd; simp at hd
  | some o =>
    rw [ho] at hd hw hrun
    simp only [Option.map_some, Option.some.injEq] at hd hw hrun
    subst hd
    unfold wpOp
    simp only [ho, hw, if_true]
    refine .inl ?_
    unfold Oper.wp
    rw [hrun]
    simp only [Oper.upon]
    refine hc.mono fun e w' he => ?_
    obtain ⟨v, rfl, h1⟩ := he
    exact h1

/-- Two may come up: each of them first. -/
theorem two_at (i j : Nat) (fuel : Nat) {F : Nat} {l : Array Bool} {a : Act} {w : World} (hF : F = fuel + 1) (hr : Region.ready .any ops l = [i, j])
    (hi : wpOp P ops (NoPanic Q) i (fun a' w' => S w' ∧ wpAnyH P .any ops (NoPanic Q) S fuel (upTo [i] l) a' w') a w)
    (hj : wpOp P ops (NoPanic Q) j (fun a' w' => S w' ∧ wpAnyH P .any ops (NoPanic Q) S fuel (upTo [j] l) a' w') a w) : wpAnyH P .any ops (NoPanic Q) S F l a w := by
  subst hF
  refine wpAnyH_all hr (by simp) (fun k hk => ?_)
  simp only [List.mem_cons, List.not_mem_nil, or_false] at hk
  rcases hk with rfl | rfl
  · exact hi
  · exact hj

theorem qta (i : Nat) (d : Option Tmp) (v : Value) (fuel : Nat) {F : Nat} {l : Array Bool} {a : Act} {w : World} (h5 : (F, Region.noSelect ops, (ops[i]?).map (·.dst), okSeg ops [i] l, (ops[i]?).map (fun o => Region.wanted o (yielded ops a.tmps))) = (fuel + 1, true, some d, true, some true))
    (hrun : ∀ u, S u → (ops[i]?).map (fun o => (execOp a.eval o).run P u) = some (.ok (.value v) u)) (hS : S w)
    (h : wpAnyH P .any ops (NoPanic Q) S fuel (upTo [i] l) (a.put d v) w) : wpAnyH P .any ops (NoPanic Q) S F l a w := by
  simp only [Prod.mk.injEq] at h5
  exact quiet_at i d v fuel h5.1 h5.2.1 h5.2.2.1 h5.2.2.2.1 h5.2.2.2.2 hrun hS h

theorem opc {K : Act → World → Prop} (i : Nat) (d : Option Tmp) (f : Nat) (args : Array Value) {a : Act} {w : World}
    (h3 : ((ops[i]?).map (·.dst), (ops[i]?).map (fun o => Region.wanted o (yielded ops a.tmps)), (ops[i]?).map (fun o => (execOp a.eval o).run P w)) = (some d, some true, some (.ok (.enter f args) w)))
    (hc : Calls P f args w (fun e w' => ∃ v, e = .returned v ∧ K (a.put d v) w')) : wpOp P ops (NoPanic Q) i K a w := by
  simp only [Prod.mk.injEq] at h3
  exact op_call i d f args h3.1 h3.2.1 h3.2.2 hc

theorem twa (i j : Nat) (fuel : Nat) {F : Nat} {l : Array Bool} {a : Act} {w : World} (h2 : (F, Region.ready .any ops l) = (fuel + 1, [i, j]))
    (hi : wpOp P ops (NoPanic Q) i (fun a' w' => S w' ∧ wpAnyH P .any ops (NoPanic Q) S fuel (upTo [i] l) a' w') a w)
    (hj : wpOp P ops (NoPanic Q) j (fun a' w' => S w' ∧ wpAnyH P .any ops (NoPanic Q) S fuel (upTo [j] l) a' w') a w) : wpAnyH P .any ops (NoPanic Q) S F l a w := by
  simp only [Prod.mk.injEq] at h2
  exact two_at i j fuel h2.1 h2.2 hi hj

end

end Go.Proofs.Yticfbapipdhhmaa
