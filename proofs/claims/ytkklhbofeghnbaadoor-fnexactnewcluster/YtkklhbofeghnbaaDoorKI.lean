/- What the helpers of the laws do with an instance, in the form of kinds: count, compare, copy. No condition. -/
import Derived.Test.YtkklhbofeghnbaaDoorKRs
namespace Go.Proofs.YtkklhbofeghnbaaDoor
open Go.RowKit
open Go.BigFrame
set_option linter.unusedVariables false
set_option linter.unusedSimpArgs false

def InstQ.n (p : InstQ) : Nat := (p.batch.length + nmL TxnQ.n p.batch) + (p.rounds.length + nmL RoundQ.n p.rounds) + p.dec.length
def InstQ.wf (p : InstQ) : Prop := (p.batch.length ≤ 9223372036854775807 ∧ ∀ q ∈ p.batch, TxnQ.wf q) ∧ (p.rounds.length ≤ 9223372036854775807 ∧ ∀ q ∈ p.rounds, RoundQ.wf q) ∧ p.dec.length ≤ 9223372036854775807

set_option maxHeartbeats 1000000 in
theorem eqInstance_k (p p' : InstQ) (w : World) (h : instK.rd w p) (h' : instK.rd w p') (he : p.e = p'.e) (hl : InstQ.n p ≤ 1048576) :
    Calls Tryd.prog 28 #[.agg #[.bool p.has, p.vb, p.vr, p.vd], .agg #[.bool p'.has, p'.vb, p'.vr, p'.vd]] w fun e w' => e = .returned (.bool true) ∧ Below w.heap.size w w' := by
  obtain ⟨has, vb, batch, vr, rounds, vd, dec⟩ := p
  obtain ⟨has', vb', batch', vr', rounds', vd', dec'⟩ := p'
  simp only [InstQ.e, InstE.mk.injEq] at he
  obtain ⟨e_0, e_1, e_2, e_3⟩ := he
  dsimp only [InstQ.n] at hl
  obtain ⟨h_1, h_2, h_3⟩ : txnK.At w vb batch ∧ roundK.At w vr rounds ∧ intK.At w vd dec := h
  obtain ⟨g_1, g_2, g_3⟩ : txnK.At w vb' batch'  ∧ roundK.At w vr' rounds'  ∧ intK.At w vd' dec'  := h'
  subst e_0
  subst e_3
  have hq1 := fun w h1 h2 => eqTxns_k vb vb' batch batch' w h1 h2 e_1 (by omega)
  have hq2 := fun w h1 h2 => eqRounds_k vr vr' rounds rounds' w h1 h2 e_2 (by omega)
  have hq3 := fun w h1 h2 => eqInts_k vd vd' dec w h1 h2 (by omega)
  obtain ⟨a1, k1, rfl⟩ := h_1.shape
  obtain ⟨b1, m1, rfl⟩ := g_1.shape
  obtain ⟨a2, k2, rfl⟩ := h_2.shape
  obtain ⟨b2, m2, rfl⟩ := g_2.shape
  obtain ⟨a3, k3, rfl⟩ := h_3.shape
  obtain ⟨b3, m3, rfl⟩ := g_3.shape
  have B := (Blk.new w 39 #[.bool has, .slice a1 batch.length k1, .slice a2 rounds.length k2, .slice a3 dec.length k3]).below (w' := (w.alloc (.cells #[.bool has, .slice a1 batch.length k1, .slice a2 rounds.length k2, .slice a3 dec.length k3] 39)).alloc (.cells #[.bool has, .slice b1 batch'.length m1, .slice b2 rounds'.length m2, .slice b3 dec.length m3] 39)) (by go_grown)
  have C := Blk.new (w.alloc (.cells #[.bool has, .slice a1 batch.length k1, .slice a2 rounds.length k2, .slice a3 dec.length k3] 39)) 39 #[.bool has, .slice b1 batch'.length m1, .slice b2 rounds'.length m2, .slice b3 dec.length m3]
  have hB : Below w.heap.size w ((w.alloc (.cells #[.bool has, .slice a1 batch.length k1, .slice a2 rounds.length k2, .slice a3 dec.length k3] 39)).alloc (.cells #[.bool has, .slice b1 batch'.length m1, .slice b2 rounds'.length m2, .slice b3 dec.length m3] 39)) := by go_grown
  rw [World.size_alloc] at C
  have n0 : (has != has) = false := by simp
  clear e_1 e_2
  go_enter Tryd.func28, Tryd.ntmps28
  go_wp2_with fail
  generalize (w.alloc (.cells #[.bool has, .slice a1 batch.length k1, .slice a2 rounds.length k2, .slice a3 dec.length k3] 39)).alloc (.cells #[.bool has, .slice b1 batch'.length m1, .slice b2 rounds'.length m2, .slice b3 dec.length m3] 39) = W at *
  refine (hq1 W (h_1.below hB) (g_1.below hB)).mono ?_
  rintro e w1 ⟨rfl, hb1⟩
  replace B := B.below hb1
  replace C := C.below hb1
  replace hB := hB.trans (hb1.mono hB.size)
  clear hb1 hq1
  have p2 := B.cell 2 _ rfl
  have q2 := C.cell 2 _ rfl
  go_wp2_with fail
  clear p2 q2
  refine (hq2 w1 (h_2.below hB) (g_2.below hB)).mono ?_
  rintro e w2 ⟨rfl, hb2⟩
  replace B := B.below hb2
  replace C := C.below hb2
  replace hB := hB.trans (hb2.mono hB.size)
  clear hb2 hq2
  have p3 := B.cell 3 _ rfl
  have q3 := C.cell 3 _ rfl
  go_wp2_with fail
  clear p3 q3
  refine (hq3 w2 (h_3.below hB) (g_3.below hB)).mono ?_
  rintro e w3 ⟨rfl, hb3⟩
  replace B := B.below hb3
  replace C := C.below hb3
  replace hB := hB.trans (hb3.mono hB.size)
  clear hb3 hq3
  go_wp2
  go_ret
  exact ⟨rfl, hB⟩

end Go.Proofs.YtkklhbofeghnbaaDoor
