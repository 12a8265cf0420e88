/- What the draws of lists of transactions tell at whatever bytes; the draws of chapter 3 that need a transaction. -/
import Derived.Test.YtbdphnmkpkgdeaaDraw2c
namespace Go.Proofs.Ytbdphnmkpkgdeaa
open Go.RowKit Go.Maps
set_option linter.unusedVariables false
set_option linter.unusedSimpArgs false

/-- A list of transactions that is owned whole, its acts elsewhere than the list. -/
def TxnRow (base : Nat) (w : World) (v : Value) (ps : List TxnP) : Prop :=
  w.ownsRow base 35 4 v ps.length (txnCells ps) ∧ (∀ p ∈ ps, w.ownsRow base 90 3 p.sl p.d.acts.length (actCells p.d.acts) ∧ (p.sl.ownBlock = none ∨ p.sl.ownBlock ≠ v.ownBlock)) ∧ v ≠ .slice none 0 0

theorem TxnRow.at {base : Nat} {w : World} {v : Value} {ps : List TxnP} (h : TxnRow base w v ps) : TxnsAt w v (ps.map TxnP.d) := by
  obtain ⟨a, c, rfl⟩ := own_shape h.1
  refine ⟨a, c, ps, by simp, rfl, Lies.own h.1, fun p hp => ?_⟩
  exact Lies.own (h.2.1 p hp).1

theorem TxnRow.src {base b : Nat} {w w' : World} {v : Value} {ps : List TxnP} (h : TxnRow base w v ps) (hb : b < base) (hg : w.grownBy w' (some b)) : TxnRow base w' v ps :=
  ⟨h.1.kept hg (Or.inr (fun e => own_not3 h.1 (Or.inl hb) e.symm)), fun p hp => ⟨(h.2.1 p hp).1.kept hg (Or.inr (fun e => own_not3 (h.2.1 p hp).1 (Or.inl hb) e.symm)), (h.2.1 p hp).2⟩, h.2.2⟩

theorem TxnRow.below {base : Nat} {w w' : World} {v : Value} {ps : List TxnP} (h : TxnRow base w v ps) (hb : Below w.heap.size w w') : TxnRow base w' v ps :=
  ⟨own_below h.1 hb, fun p hp => ⟨own_below (h.2.1 p hp).1 hb, (h.2.1 p hp).2⟩, h.2.2⟩

theorem TxnRow.append {base : Nat} {w w' : World} {v v' : Value} {ps : List TxnP} (h : TxnRow base w v ps) (p : TxnP) (hp : w.ownsRow base 90 3 p.sl p.d.acts.length (actCells p.d.acts)) (hpn : p.sl.ownBlock = none ∨ p.sl.ownBlock ≠ v.ownBlock)
    (hown : w'.ownsRow base 35 4 v' (ps.length + 1) (txnCells ps ++ p.cells)) (hgrow : w.grownBy w' v.ownBlock) (hat : v'.ownBlock = v.ownBlock ∨ v'.ownBlock = some w.heap.size) (hnv : v' ≠ .slice none 0 0) : TxnRow base w' v' (ps ++ [p]) := by
  have key : ∀ r : TxnP, w.ownsRow base 90 3 r.sl r.d.acts.length (actCells r.d.acts) → (r.sl.ownBlock = none ∨ r.sl.ownBlock ≠ v.ownBlock) → w'.ownsRow base 90 3 r.sl r.d.acts.length (actCells r.d.acts) ∧ (r.sl.ownBlock = none ∨ r.sl.ownBlock ≠ v'.ownBlock) := by
    intro r hr hn
    refine ⟨hr.kept hgrow hn, ?_⟩
    rcases hn with e | e
    · exact Or.inl e
    · right
      rcases hat with e2 | e2
      · rw [e2]; exact e
      · rw [e2]
        intro e3
        have := (hr.lt _ e3).2
        omega
  refine ⟨by simpa [txnCells] using hown, fun r hr => ?_, hnv⟩
  simp only [List.mem_append, List.mem_singleton] at hr
  rcases hr with hr | rfl
  · exact key r (h.2.1 r hr).1 (h.2.1 r hr).2
  · exact key r hp hpn

theorem made61 : (madeCells #[Value.int .i64 0, .int .i64 0, .int .i64 0, .slice none 0 0] (61 * 4)).toList = txnCells (List.replicate 61 txnPNo) := by kernel_rfl

theorem sumA_le {ds : List TxnD} (h : ∀ d ∈ ds, d.acts.length ≤ 5) : sumA ds ≤ 5 * ds.length := by
  unfold sumA
  induction ds with
  | nil => simp
  | cons x r ih =>
    have := ih (fun d hd => h d (List.mem_cons_of_mem _ hd))
    have := h x (List.mem_cons_self ..)
    simp only [List.map_cons, List.sum_cons, List.length_cons]
    omega

end Go.Proofs.Ytbdphnmkpkgdeaa
