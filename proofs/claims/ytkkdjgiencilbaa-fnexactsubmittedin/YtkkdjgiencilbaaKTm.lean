/- What the helpers of the laws do with lists of transactions, in the form of kinds. No condition. -/
import Derived.Test.YtkkdjgiencilbaaKT
namespace Go.Proofs.Ytkkdjgiencilbaa
open Go.RowKit
open Go.BigFrame
set_option linter.unusedVariables false
set_option linter.unusedSimpArgs false

def mkTxn (c : Int) (p : TxnQ) : TxnQ := ⟨c, c + 1, c + 1 + 1, p.va, mkActs (c + 1 + 1 + 1) p.acts⟩
def nmTxn (p : TxnQ) : Nat := 1 + 1 + 1 + p.acts.length * 3
theorem mkTxn_foot (c : Int) (p : TxnQ) : txnK.foot (mkTxn c p) = txnK.foot p := by
  simp only [mkTxn, show ∀ p : TxnQ, txnK.foot p = actK.fp p.va p.acts from fun _ => rfl, mkActs_fp]

set_option maxHeartbeats 4000000 in
theorem markTxns_k (v : Value) (ps : List TxnQ) (c : Int) (w : World) (h : txnK.Own w v ps) (hnd : (txnK.fp v ps).Nodup) (hl : (ps.length + nmL TxnQ.n ps) ≤ 1048576) (h0 : 0 ≤ c) (h1 : c + (nmL nmTxn ps : Int) ≤ 1099511627776) :
    Calls Try.prog 51 #[v, .int .i64 c] w fun e w' => e = .returned (.int .i64 (c + (nmL nmTxn ps : Int))) ∧ txnK.Own w' v (mkL mkTxn nmTxn c ps) ∧ Out (txnK.fp v ps) w w' := by
  obtain ⟨a, cap, rfl⟩ := h.shape
  have hfph : ∀ k, k ≤ ps.length → txnK.fp (.slice a ps.length cap) (half mkTxn nmTxn c ps k) = txnK.fp (.slice a ps.length cap) ps := fun k hk => fp_half mkTxn_foot _ c ps k
  have HF : Hid (∀ k, k ≤ ps.length → txnK.fp (.slice a ps.length cap) (half mkTxn nmTxn c ps k) = txnK.fp (.slice a ps.length cap) ps) := hfph
  have HA : Hid (txnK.Own w (.slice a ps.length cap) (half mkTxn nmTxn c ps 0)) := by rw [half_zero]; exact h
  clear hfph h
  go_enter Try.func51, Try.ntmps51
  go_wp2
  go_loopw [1, 5] (fun j i wr => ∃ k : Nat, k ≤ ps.length ∧ j = .int .i64 (c + (nmL nmTxn (ps.take k) : Int)) ∧ i = .int .i64 k ∧ Hid (txnK.Own wr (.slice a ps.length cap) (half mkTxn nmTxn c ps k)) ∧ Hid (Out (txnK.fp (.slice a ps.length cap) ps) w wr)) (fun _ i _ => ps.length - (intOf i).toNat)
  case atStart => exact ⟨0, Nat.zero_le _, by simp [nmL], rfl, HA, Out.refl _ _⟩
  case round =>
    clear HA
    obtain ⟨k, hk, rfl, rfl, HO, HU⟩ := hrel
    by_cases hlt : k < ps.length
    · have hhl : (half mkTxn nmTxn c ps k).length = ps.length := half_length _ _ _ _ _ hk
      have hO := HO.out
      obtain ⟨g, rfl⟩ := hO.blkOf (by omega)
      have hndk : (txnK.fp (.slice (some ⟨g, 0, none⟩) ps.length cap) (half mkTxn nmTxn c ps k)).Nodup := by rw [HF.out k hk]; exact hnd
      have hsub : Hid (∀ x ∈ txnK.foot ps[k], x ∈ txnK.fp (.slice (some ⟨g, 0, none⟩) ps.length cap) ps) := fun x hx => by
        simp only [Kind.fp, List.mem_append, List.mem_flatMap]
        exact Or.inr ⟨_, List.getElem_mem hlt, hx⟩
      have hg0 : Hid (∀ x ∈ [g], x ∈ txnK.fp (.slice (some ⟨g, 0, none⟩) ps.length cap) ps) := fun x hx => by
        simp only [List.mem_singleton] at hx
        subst hx
        simp [Kind.fp, blk, Value.ownBlock]
      have hltH : k < (half mkTxn nmTxn c ps k).length := by omega
      have hget := half_get mkTxn nmTxn c ps k hlt
      have hOk : txnK.Own wr (.slice (some ⟨g, 0, none⟩) ps.length cap) ((half mkTxn nmTxn c ps k).set k ps[k]) := by
        have e : (half mkTxn nmTxn c ps k).set k ps[k] = half mkTxn nmTxn c ps k := by
          rw [← hget, List.set_getElem_self]
        rw [e]; exact hO
      have hnk : (txnK.fp (.slice (some ⟨g, 0, none⟩) ps.length cap) ((half mkTxn nmTxn c ps k).set k ps[k])).Nodup := by
        have e : (half mkTxn nmTxn c ps k).set k ps[k] = half mkTxn nmTxn c ps k := by
          rw [← hget, List.set_getElem_self]
        rw [e]; exact hndk
      clear hget hO hndk
      have hset := half_set mkTxn nmTxn c ps k hlt
      have hsu := nmL_succ nmTxn ps k hlt
      have hle := nmL_le nmTxn ps (k + 1)
      have hzl := nm_le TxnQ.n ps k hlt
      have HSU : Hid ((nmL nmTxn (ps.take (k + 1)) : Int) = (nmL nmTxn (ps.take k) : Int) + (nmTxn ps[k] : Int)) := show _ = _ by omega
      have hyb : (nmL nmTxn (ps.take k) : Int) + (nmTxn ps[k] : Int) ≤ nmL nmTxn ps := by omega
      have HSET : Hid ((half mkTxn nmTxn c ps k).set k (mkTxn (c + (nmL nmTxn (ps.take k) : Int)) ps[k]) = half mkTxn nmTxn c ps (k + 1)) := hset
      clear hset hsu hle HO
      generalize half mkTxn nmTxn c ps k = hs at *
      generalize hpk : ps[k] = p at *
      clear hpk
      obtain ⟨z_i, z_s, z_q, z_va, d_acts⟩ := p
      have hkL : k < hs.length := hltH
      dsimp only [nmTxn, TxnQ.n] at HSU hyb hzl
      generalize hy : (nmL nmTxn (ps.take k) : Int) = y at *
      have hy0 : 0 ≤ y := by omega
      clear hy
      obtain ⟨c0, f0⟩ := hOk.cell' hkL 0 (.int .i64 z_i) rfl
      obtain ⟨c1, f1⟩ := hOk.cell' hkL 1 (.int .i64 z_s) rfl
      obtain ⟨c2, f2⟩ := hOk.cell' hkL 2 (.int .i64 z_q) rfl
      obtain ⟨c3, f3⟩ := hOk.cell' hkL 3 (z_va) rfl
      have c0 : wr.cell? ⟨g, k * 4, none⟩ = _ := c0
      have f0 : wr.frozen? ⟨g, k * 4, none⟩ = _ := f0
      have c1 : wr.cell? ⟨g, k * 4 + 1, none⟩ = _ := c1
      have f1 : wr.frozen? ⟨g, k * 4 + 1, none⟩ = _ := f1
      have c2 : wr.cell? ⟨g, k * 4 + 2, none⟩ = _ := c2
      have f2 : wr.frozen? ⟨g, k * 4 + 2, none⟩ = _ := f2
      have c3 : wr.cell? ⟨g, k * 4 + 3, none⟩ = _ := c3
      have f3 : wr.frozen? ⟨g, k * 4 + 3, none⟩ = _ := f3
      obtain ⟨hOn, hnn⟩ := hOk.store' hnk hkL (⟨c + y, z_s, z_q, z_va, d_acts⟩ : TxnQ) 0 (.int .i64 (c + y)) (by decide) rfl rfl (fun _ h => h)
      have hOk : txnK.Own (wr.setCell ⟨g, k * 4, none⟩ (.int .i64 (c + y))) (.slice (some ⟨g, 0, none⟩) ps.length cap) (hs.set k (⟨c + y, z_s, z_q, z_va, d_acts⟩ : TxnQ)) := hOn
      have hnk := hnn
      obtain ⟨hOn, hnn⟩ := hOk.store' hnk hkL (⟨c + y, c + y + 1, z_q, z_va, d_acts⟩ : TxnQ) 1 (.int .i64 (c + y + 1)) (by decide) rfl rfl (fun _ h => h)
      have hOk : txnK.Own ((wr.setCell ⟨g, k * 4, none⟩ (.int .i64 (c + y))).setCell ⟨g, k * 4 + 1, none⟩ (.int .i64 (c + y + 1))) (.slice (some ⟨g, 0, none⟩) ps.length cap) (hs.set k (⟨c + y, c + y + 1, z_q, z_va, d_acts⟩ : TxnQ)) := hOn
      have hnk := hnn
      obtain ⟨hOn, hnn⟩ := hOk.store' hnk hkL (⟨c + y, c + y + 1, c + y + 1 + 1, z_va, d_acts⟩ : TxnQ) 2 (.int .i64 (c + y + 1 + 1)) (by decide) rfl rfl (fun _ h => h)
      have hOk : txnK.Own (((wr.setCell ⟨g, k * 4, none⟩ (.int .i64 (c + y))).setCell ⟨g, k * 4 + 1, none⟩ (.int .i64 (c + y + 1))).setCell ⟨g, k * 4 + 2, none⟩ (.int .i64 (c + y + 1 + 1))) (.slice (some ⟨g, 0, none⟩) ps.length cap) (hs.set k (⟨c + y, c + y + 1, c + y + 1 + 1, z_va, d_acts⟩ : TxnQ)) := hOn
      have hnk := hnn
      have HU : Hid (Out (txnK.fp (.slice (some ⟨g, 0, none⟩) ps.length cap) ps) w (((wr.setCell ⟨g, k * 4, none⟩ (.int .i64 (c + y))).setCell ⟨g, k * 4 + 1, none⟩ (.int .i64 (c + y + 1))).setCell ⟨g, k * 4 + 2, none⟩ (.int .i64 (c + y + 1 + 1)))) := (((HU.out.trans ((Out.setCell _ g (k * 4) (.int .i64 (c + y))).mono hg0.out)).trans ((Out.setCell _ g (k * 4 + 1) (.int .i64 (c + y + 1))).mono hg0.out)).trans ((Out.setCell _ g (k * 4 + 2) (.int .i64 (c + y + 1 + 1))).mono hg0.out))
      have he3 := hOk.elem' hkL
      have hl3 : actK.Own (((wr.setCell ⟨g, k * 4, none⟩ (.int .i64 (c + y))).setCell ⟨g, k * 4 + 1, none⟩ (.int .i64 (c + y + 1))).setCell ⟨g, k * 4 + 2, none⟩ (.int .i64 (c + y + 1 + 1))) z_va d_acts := he3
      have hmk := markActs_k z_va d_acts (c + y + 1 + 1 + 1) _ hl3  (by omega) (by omega) (by omega)
      obtain ⟨sa3, sc3, hsh3⟩ := hl3.shape
      subst hsh3

      clear he3 hl3
      go_wp2_with fail
      refine hmk.mono ?_
      rintro e w23 ⟨rfl, hm3, ho3⟩
      clear hmk
      obtain ⟨hOn, hnn⟩ := hOk.turn' hnk hkL (⟨c + y, c + y + 1, c + y + 1 + 1, .slice sa3 d_acts.length sc3, mkActs (c + y + 1 + 1 + 1) d_acts⟩ : TxnQ) ho3 (fun x hx => hx) rfl (by exact mkActs_fp _ _ _) (hm3)
      have HU : Hid (Out (txnK.fp (.slice (some ⟨g, 0, none⟩) ps.length cap) ps) w w23) := HU.out.trans (ho3.mono (fun x hx => hsub.out x (show x ∈ txnK.foot _ from (fun x hx => hx) x hx)))
      have hOk := hOn
      have hnk := hnn
      have R : Hid (txnK.Own w23 (.slice (some ⟨g, 0, none⟩) ps.length cap) (half mkTxn nmTxn c ps (k + 1))) := by rw [← HSET.out]; exact hOk
      clear hOk hnk HSET hsub hg0
      go_wp2
      go_roundw
      case rel => exact ⟨k + 1, by omega, by rw [HSU.out]; congr 1; omega, by go_num, R.out, HU.out⟩
      case measure => simp [intOf]; omega
    · have hkl : k = ps.length := by omega
      subst hkl
      have hO := HO.out
      rw [half_all] at hO
      rw [List.take_length]
      clear HF HO
      go_wp2
      go_ret
      exact ⟨rfl, hO, HU.out⟩

end Go.Proofs.Ytkkdjgiencilbaa
