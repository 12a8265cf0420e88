/- A region that draws its order, reads a cell, and in the end stores over it; its calls may panic. As Text, in a second form: behind an operation the condition S holds, or the operation 'st' has come up. -/
import Derived.Test.YtkkdjgiencilbaaText
namespace Go.Proofs.Ytkkdjgiencilbaa
open Go.RowKit
set_option linter.unusedVariables false
set_option linter.unusedSimpArgs false

/-- The worlds of which p is so. -/
structure KeepP (p : World → Prop) where
  val : World
  isP : p val

section
variable {P : Program} {ops : Array Oper} {Q : Exit → Act → World → Prop} {S : World → Prop} {st : Nat}

/-- Whatever order is picked from here on, and behind every operation S holds, or st has come up. -/
def wpAnyX (P : Program) (ops : Array Oper) (Q : Exit → Act → World → Prop) (S : World → Prop) (st : Nat) : Nat → Array Bool → Act → World → Prop
  | 0, listed, a, w => Region.ready .any ops listed = [] ∧ Q .normal a w
  | fuel + 1, listed, a, w =>
    (Region.ready .any ops listed = [] → Q .normal a w) ∧
    ∀ i ∈ Region.ready .any ops listed, wpOp P ops Q i (fun a' w' => ((listed.setIfInBounds i true).getD st true = true ∨ S w') ∧ wpAnyX P ops Q S st fuel (listed.setIfInBounds i true) a' w') a w

theorem wpAny_of_X : ∀ (fuel : Nat) (listed : Array Bool) (a : Act) (w : World), wpAnyX P ops Q S st fuel listed a w → wpAny P .any ops Q fuel listed a w
  | 0, _, _, _, h => h
  | fuel + 1, _, _, _, h => ⟨h.1, fun i hi => wpOp_mono (fun a' w' h' => wpAny_of_X fuel _ a' w' h'.2) (h.2 i hi)⟩

/-- As OrdersHeld's 'wpAnyH_first': besides, st has not come up and waits for i. -/
theorem wpAnyX_first {i : Nat} {oi : Oper} {v : Value} (hi : ops[i]? = some oi) (hsel : ∀ (j : Nat) (o : Oper) cs b, ops[j]? = some o → o.op ≠ .select cs b)
    (hQ : ∀ c a w, Q (.panic c) (a.put oi.dst v) w → Q (.panic c) a w) (hist : i ≠ st) (hst : ∀ o, ops[st]? = some o → ∃ e ∈ o.after, Region.binds .any e = true ∧ e.on = i) :
    ∀ (fuel : Nat) (listed : Array Bool) (a : Act) (w : World),
      (∀ j oj, ops[j]? = some oj → j ≠ i → listed.getD j true = false → (∀ e ∈ oj.after, Region.binds .any e = true → e.on ≠ i) → oi.apart ops oj = true) →
      i ∈ Region.ready .any ops listed → YieldsIf P ops S oi v a → S w → listed.getD st true = false →
      wpAnyX P ops Q S st fuel (listed.setIfInBounds i true) (a.put oi.dst v) w → wpAnyX P ops Q S st (fuel + 1) listed a w := by
  intro fuel
  induction fuel with
  | zero =>
    intro listed a w _ hr hy hS hl H
    refine ⟨fun h => (by rw [h] at hr; cases hr), fun j hj => ?_⟩
    by_cases hji : j = i
    · subst hji; exact hy.wpOp hi hS ⟨Or.inr hS, H⟩
    · have := ready_mono hj hji
      rw [H.1] at this
      cases this
  | succ fuel ih =>
    intro listed a w hfree hr hy hS hl H
    refine ⟨fun h => (by rw [h] at hr; cases hr), fun j hj => ?_⟩
    by_cases hji : j = i
    · subst hji; exact hy.wpOp hi hS ⟨Or.inr hS, H⟩
    · have h1 := H.2 j (ready_mono hj hji)
      obtain ⟨hjun, oj, hoj, hall⟩ := mem_ready.1 hj
      have hnot : ∀ e ∈ oj.after, Region.binds .any e = true → e.on ≠ i := fun e he hb heq => by
        have h1 := hall e he hb
        have h0 := (mem_ready.1 hr).1
        rw [heq] at h1
        rcases Nat.lt_or_ge i listed.size with h' | h'
        · simp [h'] at h0 h1; rw [h0] at h1; cases h1
        · simp [Array.getElem?_eq_none h'] at h1
      have hjst : j ≠ st := by
        intro e
        subst e
        obtain ⟨e, he, hb, hon⟩ := hst oj hoj
        exact hnot e he hb hon
      have h2 := wpOp_putIf hoj (hfree j oj hoj hji hjun hnot) (fun cs b => hsel i oi cs b hi) (fun cs b => hsel j oj cs b hoj) hQ hy h1
      have hfree' : ∀ k ok, ops[k]? = some ok → k ≠ i → (listed.setIfInBounds j true).getD k true = false →
          (∀ e ∈ ok.after, Region.binds .any e = true → e.on ≠ i) → oi.apart ops ok = true := fun k ok hk hki hun hno => by
        refine hfree k ok hk hki ?_ hno
        by_cases hjk : j = k
        · subst hjk; exact hjun
        · rw [getD_set_ne true hjk] at hun; exact hun
      have hl' : (listed.setIfInBounds j true).getD st true = false := by rw [getD_set_ne true hjst]; exact hl
      refine wpOp_mono (fun a' w' h3 => ?_) h2
      have hS' : S w' := by
        rcases h3.2.1 with h4 | h4
        · rw [getD_set_ne true hjst, getD_set_ne true hist, hl] at h4
          cases h4
        · exact h4
      refine ⟨Or.inr hS', ih (listed.setIfInBounds j true) a' w' hfree' (ready_mono hr (Ne.symm hji)) h3.1 hS' hl' ?_⟩
      rw [Array.setIfInBounds_comm _ _ hji]
      exact h3.2.2

/-- A post whose word on a panic does not look at the temporaries. -/
def PanTo (Q : Exit → Act → World → Prop) (R : List PanicEntry → World → Prop) : Exit → Act → World → Prop
  | .panic c, a, w => a.defers = [] ∧ R c w
  | e, a, w => Q e a w
theorem put_defers_eq (a : Act) (d : Option Tmp) (v : Value) : (a.put d v).defers = a.defers := by cases d <;> rfl
theorem PanTo.put {R : List PanicEntry → World → Prop} : ∀ c (a : Act) (d : Option Tmp) (v : Value) w, PanTo Q R (.panic c) (a.put d v) w → PanTo Q R (.panic c) a w := fun c a d v w h => ⟨(put_defers_eq a d v) ▸ h.1, h.2⟩
variable {R : List PanicEntry → World → Prop}
theorem PanTo.imp (hR : ∀ c a w, a.defers = [] → R c w → Q (.panic c) a w) : ∀ (e : Exit) (a : Act) (w : World), PanTo Q R e a w → Q e a w := fun e a w h => by
  cases e <;> first | exact h | exact hR _ _ _ h.1 h.2

theorem beginX {id : Nat} {a : Act} {w : World} (st : Nat) (hm : P.follows .mixedOrders = true) (hR : ∀ c a w, a.defers = [] → R c w → Q (.panic c) a w)
    (h : wpAnyX P ops (PanTo Q R) S st ops.size (Array.replicate ops.size false) a w.drew) : (Code.region id ops true).wp P Q a w :=
  Code.wp_mono (PanTo.imp hR) (wp_region_any hm (wpAny_of_X _ _ _ _ h))

def waitsB (ops : Array Oper) (st i : Nat) : Bool := match ops[st]? with
  | some o => o.after.any (fun e => Region.binds .any e && e.on == i)
  | none => true
theorem waits_of {i : Nat} (h : waitsB ops st i = true) : ∀ o, ops[st]? = some o → ∃ e ∈ o.after, Region.binds .any e = true ∧ e.on = i := by
  intro o ho
  unfold waitsB at h
  rw [ho] at h
  obtain ⟨k, hk, _, _, hb⟩ := Array.any_iff_exists.1 h
  simp only [Bool.and_eq_true, beq_iff_eq] at hb
  exact ⟨o.after[k], Array.getElem_mem hk, hb⟩

def okSegX (ops : Array Oper) (st : Nat) : List Nat → Array Bool → Bool
  | [], _ => true
  | i :: r, l => Region.free .any ops l i && (Region.ready .any ops l).contains i && (i != st) && waitsB ops st i && !(l.getD st true) && okSegX ops st r (l.setIfInBounds i true)

theorem segX_sound (hs : Region.noSelect ops = true) :
    ∀ (idx : List Nat) (os : List Oper) (l : Array Bool) (a : Act) (w : World) (fuel : Nat), idx.map (ops[·]?) = os.map some → os.all (fun o => plainB o.op) = true → okSegX ops st idx l = true → S w →
      wpQuiet P ops S (fun a' => wpAnyX P ops (PanTo Q R) S st fuel (upTo idx l) a' w) os a → wpAnyX P ops (PanTo Q R) S st (fuel + idx.length) l a w := by
  intro idx
  induction idx with
  | nil =>
    intro os l a w fuel hos _ _ _ h
    cases os with
    | nil => exact h
    | cons o os => simp at hos
  | cons i r ih =>
    intro os l a w fuel hos hpl hok hS h
    cases os with
    | nil => simp at hos
    | cons o os =>
      simp only [List.map_cons, List.cons.injEq] at hos
      simp only [List.all_cons, Bool.and_eq_true] at hpl
      simp only [okSegX, Bool.and_eq_true, bne_iff_ne, ne_eq, Bool.not_eq_true'] at hok
      obtain ⟨⟨⟨⟨⟨hf, hr⟩, hne⟩, hwt⟩, hl⟩, hok'⟩ := hok
      simp only [wpQuiet] at h
      by_cases hw : Region.wanted o (yielded ops a.tmps) = true
      · rw [if_pos hw] at h
        obtain ⟨v, hv, hk⟩ := h
        refine wpAnyX_first (i := i) (oi := o) (v := v) hos.1 (Region.noSelect_spec hs) (fun c a w h => PanTo.put c a _ _ w h) hne (waits_of hwt) _ l a w (Region.free_spec hos.1 hf) (by simpa using hr) (Or.inl ⟨hw, fun u hu => ?_⟩) hS hl (ih os _ _ w fuel hos.2 hpl.2 hok' hS hk)
        have hq := hv u hu
        unfold Oper.quietAt at hq
        cases hrun : (execOp a.eval o).run P u with
        | ok n u' =>
          obtain ⟨x, rfl⟩ := plain_value hpl.1 hrun
          rw [hrun] at hq
          obtain ⟨e1, e2⟩ := hq
          rw [e1, e2]
        | halt x u' =>
          rw [hrun] at hq
          exact hq.elim
      · rw [if_neg hw] at h
        have hw' : Region.wanted o (yielded ops a.tmps) = false := by simpa using hw
        exact wpAnyX_first (i := i) (oi := o) (v := undef) hos.1 (Region.noSelect_spec hs) (fun c a w h => PanTo.put c a _ _ w h) hne (waits_of hwt) _ l a w (Region.free_spec hos.1 hf) (by simpa using hr) (Or.inr ⟨hw', rfl⟩) hS hl (ih os _ _ w fuel hos.2 hpl.2 hok' hS h)

theorem segX (rs : List (Nat × Nat)) (fuel : Nat) {F : Nat} {l : Array Bool} {a : Act} {w : World} (hF : F = fuel + (idxR rs).length) (hs : Region.noSelect ops = true) (hm : (idxR rs).map (ops[·]?) = (pickR ops.toList rs).map some)
    (hp : (pickR ops.toList rs).all (fun o => plainB o.op) = true) (hok : okSegX ops st (idxR rs) l = true) (hS : S w)
    (h : wpQuiet P ops S (fun a' => wpAnyX P ops (PanTo Q R) S st fuel (upTo (idxR rs) l) a' w) (pickR ops.toList rs) a) : wpAnyX P ops (PanTo Q R) S st F l a w := by
  subst hF
  exact segX_sound hs (idxR rs) _ l a w fuel hm hp hok hS h

/-- A call that alone may come up: it returns, or it panics. -/
theorem callX (i : Nat) (d : Option Tmp) (f : Nat) (args : Array Value) (fuel : Nat) {F : Nat} {l : Array Bool} {a : Act} {w : World} (hF : F = fuel + 1)
    (hd : (ops[i]?).map (·.dst) = some d) (hr : Region.ready .any ops l = [i]) (hw : (ops[i]?).map (fun o => Region.wanted o (yielded ops a.tmps)) = some true)
    (hrun : (ops[i]?).map (fun o => (execOp a.eval o).run P w) = some (.ok (.enter f args) w))
    (hdf : a.defers = []) (hc : Calls P f args w (fun e w' => (∃ v, e = .returned v ∧ S w' ∧ wpAnyX P ops (PanTo Q R) S st fuel (upTo [i] l) (a.put d v) w') ∨ ∃ c, e = .panicked c ∧ R c w')) : wpAnyX P ops (PanTo Q R) S st F l a w := by
  subst hF
  cases ho : ops[i]? with
  | none => rw [ho] at hd; simp at hd
  | some o =>
    rw [ho] at hd hw hrun
    simp only [Option.map_some, Option.some.injEq] at hd hw hrun
    subst hd
    refine ⟨fun h0 => (by rw [hr] at h0; cases h0), fun j hj => ?_⟩
    rw [hr] at hj
    simp only [List.mem_singleton] at hj
    subst hj
    unfold wpOp
    simp only [ho, hw, if_true]
    refine .inl ?_
    unfold Oper.wp
    rw [hrun]
    simp only [Oper.upon]
    refine hc.mono fun e w' he => ?_
    rcases he with ⟨v, rfl, h1, h2⟩ | ⟨c, rfl, h1⟩
    · exact ⟨Or.inr h1, h2⟩
    · exact ⟨hdf, h1⟩

def ThenX (Q : Exit → Act → World → Prop) (R : List PanicEntry → World → Prop) (K : Act → World → Prop) : Exit → Act → World → Prop
  | .normal, a, w => K a w
  | e, a, w => PanTo Q R e a w
theorem ThenX.to {K : Act → World → Prop} {a : Act} {w : World} (h : K a w) : ThenX Q R K .normal a w := h

theorem oneX (i : Nat) (o : Oper) (fuel : Nat) {F : Nat} {l : Array Bool} {a : Act} {w : World} (hF : F = fuel + 1) (ho : ops[i]? = some o) (hr : Region.ready .any ops l = [i])
    (h : wpList P ops (ThenX Q R (fun a' w' => ((upTo [i] l).getD st true = true ∨ S w') ∧ wpAnyX P ops (PanTo Q R) S st fuel (upTo [i] l) a' w')) [o] a w) : wpAnyX P ops (PanTo Q R) S st F l a w := by
  subst hF
  refine ⟨fun h0 => (by rw [hr] at h0; cases h0), fun j hj => ?_⟩
  rw [hr] at hj
  simp only [List.mem_singleton] at hj
  subst hj
  unfold wpOp
  simp only [ho]
  simp only [wpList] at h
  split at h
  · rename_i hw
    rw [if_pos hw]
    rcases h with h | ⟨h1, h2⟩
    · left
      unfold Oper.wp at h ⊢
      revert h
      generalize (execOp a.eval o).run P w = r
      intro h
      unfold Oper.upon at h ⊢
      split at h
      · exact h
      · exact h
      · exact h
      · refine Calls.mono h fun e w' he => ?_
        cases e <;> exact he
      · exact h
      · exact h
      · exact h
    · exact Or.inr ⟨h1, h2⟩
  · rename_i hw
    rw [if_neg hw]
    exact h

theorem endX {F : Nat} {l : Array Bool} {a : Act} {w : World} (hr : Region.ready .any ops l = []) (h : Q .normal a w) : wpAnyX P ops (PanTo Q R) S st F l a w := by
  cases F with
  | zero => exact ⟨hr, h⟩
  | succ F => exact ⟨fun _ => h, by rw [hr]; simp⟩

theorem sgX (rs : List (Nat × Nat)) (fuel : Nat) {F : Nat} {l : Array Bool} {a : Act} {w : World} (h5 : (F, Region.noSelect ops, (idxR rs).map (ops[·]?), (pickR ops.toList rs).all (fun o => plainB o.op), okSegX ops st (idxR rs) l) = (fuel + (idxR rs).length, true, (pickR ops.toList rs).map some, true, true)) (hS : S w)
    (h : wpQuiet P ops S (fun a' => wpAnyX P ops (PanTo Q R) S st fuel (upTo (idxR rs) l) a' w) (pickR ops.toList rs) a) : wpAnyX P ops (PanTo Q R) S st F l a w := by
  simp only [Prod.mk.injEq] at h5
  exact segX rs fuel h5.1 h5.2.1 h5.2.2.1 h5.2.2.2.1 h5.2.2.2.2 hS h

theorem clX (i : Nat) (d : Option Tmp) (f : Nat) (args : Array Value) (fuel : Nat) {F : Nat} {l : Array Bool} {a : Act} {w : World} (h5 : (F, (ops[i]?).map (·.dst), Region.ready .any ops l, (ops[i]?).map (fun o => Region.wanted o (yielded ops a.tmps)), (ops[i]?).map (fun o => (execOp a.eval o).run P w)) = (fuel + 1, some d, [i], some true, some (.ok (.enter f args) w)))
    (hdf : a.defers = []) (hc : Calls P f args w (fun e w' => (∃ v, e = .returned v ∧ S w' ∧ wpAnyX P ops (PanTo Q R) S st fuel (upTo [i] l) (a.put d v) w') ∨ ∃ c, e = .panicked c ∧ R c w')) : wpAnyX P ops (PanTo Q R) S st F l a w := by
  simp only [Prod.mk.injEq] at h5
  exact callX i d f args fuel h5.1 h5.2.1 h5.2.2.1 h5.2.2.2.1 h5.2.2.2.2 hdf hc

theorem onX (i : Nat) {o : Oper} (fuel : Nat) {F : Nat} {l : Array Bool} {a : Act} {w : World} (ho : ops[i]? = some o) (h2 : (F, Region.ready .any ops l) = (fuel + 1, [i]))
    (h : wpList P ops (ThenX Q R (fun a' w' => ((upTo [i] l).getD st true = true ∨ S w') ∧ wpAnyX P ops (PanTo Q R) S st fuel (upTo [i] l) a' w')) [o] a w) : wpAnyX P ops (PanTo Q R) S st F l a w := by
  simp only [Prod.mk.injEq] at h2
  exact oneX i o fuel h2.1 ho h2.2 h

end

end Go.Proofs.Ytkkdjgiencilbaa
