/- A region that draws its order, walked in one order that is named: whatever only computes or reads under a condition S is taken first; a call is met by its contract, and behind it S is shown anew. No condition on the program but that no select stands in the region. -/
import Derived.WalkKit
import Derived.BigQuiet
import Derived.Deep.RegionHeld3
import Derived.Handy
namespace Go.Proofs.Yticfbapipdhhmaa
open Go.RowKit
set_option linter.unusedVariables false
set_option linter.unusedSimpArgs false

/-- The region of that number, out of a function's code. -/
def regNo (n : Nat) : Code → Option Code
  | .region i ops d => if i = n then some (.region i ops d) else none
  | .seq a b => match regNo n a with
    | some c => some c
    | none => regNo n b
  | .cond _ a b => match regNo n a with
    | some c => some c
    | none => regNo n b
  | .block _ c => regNo n c
  | .loop c => regNo n c
  | .scope c => regNo n c
  | _ => none

/-- The worlds that have new memory alone beside w. -/
structure Lat (w : World) where
  val : World
  isBelow : Below w.heap.size w val

/-- The worlds that are as w below B. -/
structure LatB (B : Nat) (w : World) where
  val : World
  isBelow : Below B w val

/-- Operations that yield one value and nothing else. -/
def plainB : Op → Bool
  | .move _ => true
  | .assign _ => true
  | .pick _ _ _ => true
  | .load _ _ => true
  | .fieldAddr _ _ _ => true
  | .field _ _ _ => true
  | .binOp _ _ _ _ _ => true
  | .unOp _ _ _ => true
  | .convert _ _ _ => true
  | .indexAddr _ _ _ => true
  | .extract _ _ => true
  | .nilCheck _ => true
  | .build _ _ => true
  | _ => false

theorem value_of_bind {P : Program} {s : Sem Value} {w w' : World} {n : Next} (h : (do let x ← s; pure (Next.value x) : Sem Next).run P w = .ok n w') : ∃ v, n = .value v := by
  rw [Sem.run_bind] at h
  cases hs : s.run P w with
  | ok x w1 =>
    rw [hs] at h
    simp [Result.andThen, Sem.run_pure] at h
    exact ⟨x, h.1.symm⟩
  | halt x w1 =>
    rw [hs] at h
    simp [Result.andThen] at h

theorem value_of_nil {P : Program} {g : Program → Sem (Option Bool)} {u : Unsupported} {x : Value} {w w' : World} {n : Next}
    (h : (do let p ← program; let r ← g p; if (r != some false) = true then do unsupported u; pure (Next.value x) else pure (Next.value x) : Sem Next).run P w = .ok n w') : ∃ v, n = .value v := by
  simp only [Sem.run_bind, run_program, Result.andThen_ok] at h
  cases hs : (g P).run P w with
  | ok r w1 =>
    rw [hs] at h
    simp only [Result.andThen_ok] at h
    split at h
    · rw [Sem.run_bind] at h
      cases hu : (unsupported u : Sem Unit).run P w1 with
      | ok r w2 => rw [hu] at h; simp [Sem.run_pure] at h; exact ⟨_, h.1.symm⟩
      | halt r w2 => rw [hu] at h; simp [Result.andThen] at h
    · simp [Sem.run_pure] at h; exact ⟨_, h.1.symm⟩
  | halt r w1 => rw [hs] at h; simp [Result.andThen] at h

theorem plain_value {P : Program} {o : Oper} {ρ : Operand → Value} {w w' : World} {n : Next} (hp : plainB o.op = true) (h : (execOp ρ o).run P w = .ok n w') : ∃ v, n = .value v := by
  unfold execOp at h
  cases hop : o.op <;> rw [hop] at hp <;> simp only [plainB, Bool.false_eq_true] at hp <;> rw [hop] at h <;> dsimp only at h
  all_goals first
    | exact value_of_bind h
    | (simp [Sem.run_pure] at h; exact ⟨_, h.1.symm⟩)
    | (split at h
       all_goals first
         | (simp [Sem.run_pure] at h; exact ⟨_, h.1.symm⟩)
         | (simp [go_sem] at h; done)
         | (split at h
            all_goals first
              | (simp [Sem.run_pure] at h; exact ⟨_, h.1.symm⟩)
              | (simp [go_sem] at h; done)
              | (exact value_of_nil (g := fun p => nilAhead (p.types.size + Made.depth) _ _ _) h)))
    | (rw [Sem.run_bind] at h
       revert h
       cases (asBool (ρ _)).run P w with
       | ok x w1 => intro h; simp [Result.andThen, Sem.run_pure] at h; exact ⟨_, h.1.symm⟩
       | halt x w1 => intro h; simp [Result.andThen] at h)

section
variable {P : Program} {ops : Array Oper} {Q : Exit → Act → World → Prop} {S : World → Prop}

/-- These may come up one behind the other, each ahead of all that has not come up. -/
def okSeg (ops : Array Oper) : List Nat → Array Bool → Bool
  | [], _ => true
  | i :: r, l => Region.free .any ops l i && (Region.ready .any ops l).contains i && okSeg ops r (l.setIfInBounds i true)

/-- What has come up behind these. -/
def upTo : List Nat → Array Bool → Array Bool
  | [], l => l
  | i :: r, l => upTo r (l.setIfInBounds i true)

/-- The numbers, and the operations, of ranges (from, how many). -/
def idxR (rs : List (Nat × Nat)) : List Nat := rs.flatMap fun r => (List.range r.2).map (r.1 + ·)
def pickR (l : List Oper) (rs : List (Nat × Nat)) : List Oper := rs.flatMap fun r => (l.drop r.1).take r.2

theorem pkE : (∀ (l : List Oper) (rs : List (Nat × Nat)), pickR l rs = rs.flatMap fun r => (l.drop r.1).take r.2) ∧ (∀ l : List Oper, l.toArray.toList = l) ∧
    (∀ (f : Nat × Nat → List Oper) (x : Nat × Nat) (xs : List (Nat × Nat)), (x :: xs).flatMap f = f x ++ xs.flatMap f) ∧ (∀ f : Nat × Nat → List Oper, List.flatMap f [] = []) ∧
    (∀ (o : Oper) (l : List Oper) (i : Nat), (o :: l).drop (i + 1) = l.drop i) ∧ (∀ l : List Oper, l.drop 0 = l) ∧ (∀ (o : Oper) (l : List Oper) (i : Nat), (o :: l).take (i + 1) = o :: l.take i) ∧ (∀ l : List Oper, l.take 0 = []) ∧
    (∀ (o : Oper) (l m : List Oper), (o :: l) ++ m = o :: (l ++ m)) ∧ (∀ l : List Oper, [] ++ l = l) ∧ (∀ l : List Oper, l ++ [] = l) :=
  ⟨fun _ _ => rfl, fun _ => rfl, fun _ _ _ => List.flatMap_cons, fun _ => rfl, fun _ _ _ => rfl, fun _ => rfl, fun _ _ _ => rfl, fun _ => rfl, fun _ _ _ => rfl, fun _ => rfl, fun _ => List.append_nil _⟩

theorem seg_sound (hs : Region.noSelect ops = true) (hQ : ∀ c a d v w, Q (.panic c) (a.put d v) w → Q (.panic c) a w) :
    ∀ (idx : List Nat) (os : List Oper) (l : Array Bool) (a : Act) (w : World) (fuel : Nat), idx.map (ops[·]?) = os.map some → os.all (fun o => plainB o.op) = true → okSeg ops idx l = true → S w →
      wpQuiet P ops S (fun a' => wpAnyH P .any ops Q S fuel (upTo idx l) a' w) os a → wpAnyH P .any ops Q S (fuel + idx.length) l a w := by
  intro idx
  induction idx with
  | nil =>
    intro os l a w fuel hos _ _ _ h
    cases os with
    | nil => exact h
    | cons o os => simp at hos
  | cons i r ih =>
    intro os l a w fuel hos hpl hok hS h
    cases os with
    | nil => simp at hos
    | cons o os =>
      simp only [List.map_cons, List.cons.injEq] at hos
      simp only [List.all_cons, Bool.and_eq_true] at hpl
      simp only [okSeg, Bool.and_eq_true] at hok
      obtain ⟨⟨hf, hr⟩, hok'⟩ := hok
      simp only [wpQuiet] at h
      by_cases hw : Region.wanted o (yielded ops a.tmps) = true
      · rw [if_pos hw] at h
        obtain ⟨v, hv, hk⟩ := h
        refine wpAnyH_take (i := i) (oi := o) (v := v) hos.1 hs hf hr (fun c a w => hQ c a _ _ w) (Or.inl ⟨hw, fun u hu => ?_⟩) hS (ih os _ _ w fuel hos.2 hpl.2 hok' hS hk)
        have hq := hv u hu
        unfold Oper.quietAt at hq
        cases hrun : (execOp a.eval o).run P u with
        | ok n u' =>
          obtain ⟨x, rfl⟩ := plain_value hpl.1 hrun
          rw [hrun] at hq
          obtain ⟨e1, e2⟩ := hq
          rw [e1, e2]
        | halt x u' =>
          rw [hrun] at hq
          exact hq.elim
      · rw [if_neg hw] at h
        have hw' : Region.wanted o (yielded ops a.tmps) = false := by simpa using hw
        exact wpAnyH_take (i := i) (oi := o) (v := undef) hos.1 hs hf hr (fun c a w => hQ c a _ _ w) (Or.inr ⟨hw', rfl⟩) hS (ih os _ _ w fuel hos.2 hpl.2 hok' hS h)

/-- An operation whose guard says no. -/
theorem skip_sound (hs : Region.noSelect ops = true) (hQ : ∀ c a d v w, Q (.panic c) (a.put d v) w → Q (.panic c) a w) (i : Nat) (d : Option Tmp) {l : Array Bool} {a : Act} {w : World} {fuel : Nat}
    (hd : (ops[i]?).map (·.dst) = some d) (hok : okSeg ops [i] l = true) (hw : (ops[i]?).map (fun o => Region.wanted o (yielded ops a.tmps)) = some false) (hS : S w)
    (h : wpAnyH P .any ops Q S fuel (upTo [i] l) (a.put d undef) w) : wpAnyH P .any ops Q S (fuel + 1) l a w := by
  cases ho : ops[i]? with
  | none => rw [ho] at hd; simp at hd
  | some o =>
    rw [ho] at hd hw
    simp only [Option.map_some, Option.some.injEq] at hd hw
    subst hd
    simp only [okSeg, Bool.and_eq_true, Bool.and_true] at hok
    exact wpAnyH_take (i := i) (oi := o) (v := undef) ho hs hok.1 hok.2 (fun c a w => hQ c a _ _ w) (Or.inr ⟨hw, rfl⟩) hS h

/-- A call that alone may come up: by its contract, S shown anew. -/
theorem call_sound (i : Nat) (d : Option Tmp) (f : Nat) (args : Array Value) {l : Array Bool} {a : Act} {w : World} {fuel : Nat}
    (hd : (ops[i]?).map (·.dst) = some d) (hr : Region.ready .any ops l = [i]) (hw : (ops[i]?).map (fun o => Region.wanted o (yielded ops a.tmps)) = some true)
    (hrun : (ops[i]?).map (fun o => (execOp a.eval o).run P w) = some (.ok (.enter f args) w))
    (hc : Calls P f args w (fun e w' => ∃ v, e = .returned v ∧ S w' ∧ wpAnyH P .any ops Q S fuel (upTo [i] l) (a.put d v) w')) : wpAnyH P .any ops Q S (fuel + 1) l a w := by
  cases ho : ops[i]? with
  | none => rw [ho] at hd; simp at hd
  | some o =>
    rw [ho] at hd hw hrun
    simp only [Option.map_some, Option.some.injEq] at hd hw hrun
    subst hd
    refine wpAnyH_all hr (by simp) (fun j hj => ?_)
    simp only [List.mem_singleton] at hj
    subst hj
    unfold wpOp
    simp only [ho, hw, if_true]
    refine .inl ?_
    unfold Oper.wp
    rw [hrun]
    simp only [Oper.upon]
    refine hc.mono fun e w' he => ?_
    obtain ⟨v, rfl, h1, h2⟩ := he
    exact ⟨h1, h2⟩

/-- The same over ranges; the fuel as it stands. -/
theorem seg_range (rs : List (Nat × Nat)) (fuel : Nat) {F : Nat} {l : Array Bool} {a : Act} {w : World} (hF : F = fuel + (idxR rs).length) (hs : Region.noSelect ops = true) (hm : (idxR rs).map (ops[·]?) = (pickR ops.toList rs).map some)
    (hp : (pickR ops.toList rs).all (fun o => plainB o.op) = true) (hok : okSeg ops (idxR rs) l = true) (hS : S w)
    (h : wpQuiet P ops S (fun a' => wpAnyH P .any ops (NoPanic Q) S fuel (upTo (idxR rs) l) a' w) (pickR ops.toList rs) a) : wpAnyH P .any ops (NoPanic Q) S F l a w := by
  subst hF
  exact seg_sound hs (fun _ _ _ _ _ h => h) (idxR rs) _ l a w fuel hm hp hok hS h

theorem skip_at (i : Nat) (d : Option Tmp) (fuel : Nat) {F : Nat} {l : Array Bool} {a : Act} {w : World} (hF : F = fuel + 1) (hs : Region.noSelect ops = true)
    (hd : (ops[i]?).map (·.dst) = some d) (hok : okSeg ops [i] l = true) (hw : (ops[i]?).map (fun o => Region.wanted o (yielded ops a.tmps)) = some false) (hS : S w)
    (h : wpAnyH P .any ops (NoPanic Q) S fuel (upTo [i] l) (a.put d undef) w) : wpAnyH P .any ops (NoPanic Q) S F l a w := by
  subst hF
  exact skip_sound hs (fun _ _ _ _ _ h => h) i d hd hok hw hS h

theorem call_at (i : Nat) (d : Option Tmp) (f : Nat) (args : Array Value) (fuel : Nat) {F : Nat} {l : Array Bool} {a : Act} {w : World} (hF : F = fuel + 1)
    (hd : (ops[i]?).map (·.dst) = some d) (hr : Region.ready .any ops l = [i]) (hw : (ops[i]?).map (fun o => Region.wanted o (yielded ops a.tmps)) = some true)
    (hrun : (ops[i]?).map (fun o => (execOp a.eval o).run P w) = some (.ok (.enter f args) w))
    (hc : Calls P f args w (fun e w' => ∃ v, e = .returned v ∧ S w' ∧ wpAnyH P .any ops (NoPanic Q) S fuel (upTo [i] l) (a.put d v) w')) : wpAnyH P .any ops (NoPanic Q) S F l a w := by
  subst hF
  exact call_sound i d f args hd hr hw hrun hc

theorem sgr (rs : List (Nat × Nat)) (fuel : Nat) {F : Nat} {l : Array Bool} {a : Act} {w : World} (h5 : (F, Region.noSelect ops, (idxR rs).map (ops[·]?), (pickR ops.toList rs).all (fun o => plainB o.op), okSeg ops (idxR rs) l) = (fuel + (idxR rs).length, true, (pickR ops.toList rs).map some, true, true)) (hS : S w)
    (h : wpQuiet P ops S (fun a' => wpAnyH P .any ops (NoPanic Q) S fuel (upTo (idxR rs) l) a' w) (pickR ops.toList rs) a) : wpAnyH P .any ops (NoPanic Q) S F l a w := by
  simp only [Prod.mk.injEq] at h5
  exact seg_range rs fuel h5.1 h5.2.1 h5.2.2.1 h5.2.2.2.1 h5.2.2.2.2 hS h

theorem ska (i : Nat) (d : Option Tmp) (fuel : Nat) {F : Nat} {l : Array Bool} {a : Act} {w : World} (h5 : (F, Region.noSelect ops, (ops[i]?).map (·.dst), okSeg ops [i] l, (ops[i]?).map (fun o => Region.wanted o (yielded ops a.tmps))) = (fuel + 1, true, some d, true, some false)) (hS : S w)
    (h : wpAnyH P .any ops (NoPanic Q) S fuel (upTo [i] l) (a.put d undef) w) : wpAnyH P .any ops (NoPanic Q) S F l a w := by
  simp only [Prod.mk.injEq] at h5
  exact skip_at i d fuel h5.1 h5.2.1 h5.2.2.1 h5.2.2.2.1 h5.2.2.2.2 hS h

theorem cla (i : Nat) (d : Option Tmp) (f : Nat) (args : Array Value) (fuel : Nat) {F : Nat} {l : Array Bool} {a : Act} {w : World} (h5 : (F, (ops[i]?).map (·.dst), Region.ready .any ops l, (ops[i]?).map (fun o => Region.wanted o (yielded ops a.tmps)), (ops[i]?).map (fun o => (execOp a.eval o).run P w)) = (fuel + 1, some d, [i], some true, some (.ok (.enter f args) w)))
    (hc : Calls P f args w (fun e w' => ∃ v, e = .returned v ∧ S w' ∧ wpAnyH P .any ops (NoPanic Q) S fuel (upTo [i] l) (a.put d v) w')) : wpAnyH P .any ops (NoPanic Q) S F l a w := by
  simp only [Prod.mk.injEq] at h5
  exact call_at i d f args fuel h5.1 h5.2.1 h5.2.2.1 h5.2.2.2.1 h5.2.2.2.2 hc

/-- What one operation of a region is to come to. -/
def ThenGo (Q : Exit → Act → World → Prop) (K : Act → World → Prop) : Exit → Act → World → Prop
  | .normal, a, w => K a w
  | e, a, w => NoPanic Q e a w
theorem ThenGo.to {K : Act → World → Prop} {a : Act} {w : World} (h : K a w) : ThenGo Q K .normal a w := h

/-- An operation that alone may come up, whatever it does: walked as a list of one. -/
theorem one_at (i : Nat) (o : Oper) (fuel : Nat) {F : Nat} {l : Array Bool} {a : Act} {w : World} (hF : F = fuel + 1) (ho : ops[i]? = some o) (hr : Region.ready .any ops l = [i])
    (h : wpList P ops (ThenGo Q (fun a' w' => S w' ∧ wpAnyH P .any ops (NoPanic Q) S fuel (upTo [i] l) a' w')) [o] a w) : wpAnyH P .any ops (NoPanic Q) S F l a w := by
  subst hF
  refine wpAnyH_all hr (by simp) (fun j hj => ?_)
  simp only [List.mem_singleton] at hj
  subst hj
  unfold wpOp
  simp only [ho]
  simp only [wpList] at h
  split at h
  · rename_i hw
    rw [if_pos hw]
    rcases h with h | ⟨h1, h2⟩
    · left
      unfold Oper.wp at h ⊢
      revert h
      generalize (execOp a.eval o).run P w = r
      intro h
      unfold Oper.upon at h ⊢
      split at h
      · exact h
      · exact h
      · exact h
      · refine Calls.mono h fun e w' he => ?_
        cases e <;> exact he
      · exact h
      · exact h
      · exact h
    · exact Or.inr ⟨h1, h2⟩
  · rename_i hw
    rw [if_neg hw]
    exact h

theorem ona (i : Nat) {o : Oper} (fuel : Nat) {F : Nat} {l : Array Bool} {a : Act} {w : World} (ho : ops[i]? = some o) (h2 : (F, Region.ready .any ops l) = (fuel + 1, [i]))
    (h : wpList P ops (ThenGo Q (fun a' w' => S w' ∧ wpAnyH P .any ops (NoPanic Q) S fuel (upTo [i] l) a' w')) [o] a w) : wpAnyH P .any ops (NoPanic Q) S F l a w := by
  simp only [Prod.mk.injEq] at h2
  exact one_at i o fuel h2.1 ho h2.2 h

/-- All have come up. -/
theorem text_end {F : Nat} {l : Array Bool} {a : Act} {w : World} (hr : Region.ready .any ops l = []) (h : Q .normal a w) : wpAnyH P .any ops (NoPanic Q) S F l a w := wpAnyH_done hr (NoPanic.normal h) F

/-- The beginning. -/
theorem text_begin {id : Nat} {a : Act} {w : World} (hm : P.follows .mixedOrders = true)
    (h : wpAnyH P .any ops (NoPanic Q) S ops.size (Array.replicate ops.size false) a w.drew) : (Code.region id ops true).wp P Q a w :=
  wp_region_noPanic (wp_region_held hm h)

theorem noPanic_put : ∀ c a d v w, NoPanic Q (.panic c) (Act.put a d v) w → NoPanic Q (.panic c) a w := fun _ _ _ _ _ h => h

end

end Go.Proofs.Yticfbapipdhhmaa
