/- Texts that stand together: data, memory, helpers. No condition. -/
import Derived.Test.YtkklhbofeghnbaaDoorKT
import Derived.Test.YtkklhbofeghnbaaDoorKRs
import Derived.Test.YtkklhbofeghnbaaDoorBlk5
import Derived.Test.YtkklhbofeghnbaaDoorKI
namespace Go.Proofs.YtkklhbofeghnbaaDoor
open Go.RowKit
open Go.BigFrame
set_option linter.unusedVariables false
set_option linter.unusedSimpArgs false

def mkTxn (c : Int) (p : TxnQ) : TxnQ := ⟨c, c + 1, c + 1 + 1, p.va, mkActs (c + 1 + 1 + 1) p.acts⟩
def nmTxn (p : TxnQ) : Nat := 1 + 1 + 1 + p.acts.length * 3
theorem mkTxn_foot (c : Int) (p : TxnQ) : txnK.foot (mkTxn c p) = txnK.foot p := by
  simp only [mkTxn, show ∀ p : TxnQ, txnK.foot p = actK.fp p.va p.acts from fun _ => rfl, mkActs_fp]

set_option maxHeartbeats 4000000 in
theorem markTxns_k (v : Value) (ps : List TxnQ) (c : Int) (w : World) (h : txnK.Own w v ps) (hnd : (txnK.fp v ps).Nodup) (hl : (ps.length + nmL TxnQ.n ps) ≤ 1048576) (h0 : 0 ≤ c) (h1 : c + (nmL nmTxn ps : Int) ≤ 1099511627776) :
    Calls Tryd.prog 30 #[v, .int .i64 c] w fun e w' => e = .returned (.int .i64 (c + (nmL nmTxn ps : Int))) ∧ txnK.Own w' v (mkL mkTxn nmTxn c ps) ∧ Out (txnK.fp v ps) w w' := by
  obtain ⟨a, cap, rfl⟩ := h.shape
  have hfph : ∀ k, k ≤ ps.length → txnK.fp (.slice a ps.length cap) (half mkTxn nmTxn c ps k) = txnK.fp (.slice a ps.length cap) ps := fun k hk => fp_half mkTxn_foot _ c ps k
  have HF : Hid (∀ k, k ≤ ps.length → txnK.fp (.slice a ps.length cap) (half mkTxn nmTxn c ps k) = txnK.fp (.slice a ps.length cap) ps) := hfph
  have HA : Hid (txnK.Own w (.slice a ps.length cap) (half mkTxn nmTxn c ps 0)) := by rw [half_zero]; exact h
  clear hfph h
  go_enter Tryd.func30, Tryd.ntmps30
  go_wp2
  go_loopw [1, 5] (fun j i wr => ∃ k : Nat, k ≤ ps.length ∧ j = .int .i64 (c + (nmL nmTxn (ps.take k) : Int)) ∧ i = .int .i64 k ∧ Hid (txnK.Own wr (.slice a ps.length cap) (half mkTxn nmTxn c ps k)) ∧ Hid (Out (txnK.fp (.slice a ps.length cap) ps) w wr)) (fun _ i _ => ps.length - (intOf i).toNat)
  case atStart => exact ⟨0, Nat.zero_le _, by simp [nmL], rfl, HA, Out.refl _ _⟩
  case round =>
    clear HA
    obtain ⟨k, hk, rfl, rfl, HO, HU⟩ := hrel
    by_cases hlt : k < ps.length
    · have hhl : (half mkTxn nmTxn c ps k).length = ps.length := half_length _ _ _ _ _ hk
      have hO := HO.out
      obtain ⟨g, rfl⟩ := hO.blkOf (by omega)
      have hndk : (txnK.fp (.slice (some ⟨g, 0, none⟩) ps.length cap) (half mkTxn nmTxn c ps k)).Nodup := by rw [HF.out k hk]; exact hnd
      have hsub : Hid (∀ x ∈ txnK.foot ps[k], x ∈ txnK.fp (.slice (some ⟨g, 0, none⟩) ps.length cap) ps) := fun x hx => by
        simp only [Kind.fp, List.mem_append, List.mem_flatMap]
        exact Or.inr ⟨_, List.getElem_mem hlt, hx⟩
      have hg0 : Hid (∀ x ∈ [g], x ∈ txnK.fp (.slice (some ⟨g, 0, none⟩) ps.length cap) ps) := fun x hx => by
        simp only [List.mem_singleton] at hx
        subst hx
        simp [Kind.fp, blk, Value.ownBlock]
      have hltH : k < (half mkTxn nmTxn c ps k).length := by omega
      have hget := half_get mkTxn nmTxn c ps k hlt
      have hOk : txnK.Own wr (.slice (some ⟨g, 0, none⟩) ps.length cap) ((half mkTxn nmTxn c ps k).set k ps[k]) := by
        have e : (half mkTxn nmTxn c ps k).set k ps[k] = half mkTxn nmTxn c ps k := by
          rw [← hget, List.set_getElem_self]
        rw [e]; exact hO
      have hnk : (txnK.fp (.slice (some ⟨g, 0, none⟩) ps.length cap) ((half mkTxn nmTxn c ps k).set k ps[k])).Nodup := by
        have e : (half mkTxn nmTxn c ps k).set k ps[k] = half mkTxn nmTxn c ps k := by
          rw [← hget, List.set_getElem_self]
        rw [e]; exact hndk
      clear hget hO hndk
      have hset := half_set mkTxn nmTxn c ps k hlt
      have hsu := nmL_succ nmTxn ps k hlt
      have hle := nmL_le nmTxn ps (k + 1)
      have hzl := nm_le TxnQ.n ps k hlt
      have HSU : Hid ((nmL nmTxn (ps.take (k + 1)) : Int) = (nmL nmTxn (ps.take k) : Int) + (nmTxn ps[k] : Int)) := show _ = _ by omega
      have hyb : (nmL nmTxn (ps.take k) : Int) + (nmTxn ps[k] : Int) ≤ nmL nmTxn ps := by omega
      have HSET : Hid ((half mkTxn nmTxn c ps k).set k (mkTxn (c + (nmL nmTxn (ps.take k) : Int)) ps[k]) = half mkTxn nmTxn c ps (k + 1)) := hset
      clear hset hsu hle HO
      generalize half mkTxn nmTxn c ps k = hs at *
      generalize hpk : ps[k] = p at *
      clear hpk
      obtain ⟨z_i, z_s, z_q, z_va, d_acts⟩ := p
      have hkL : k < hs.length := hltH
      dsimp only [nmTxn, TxnQ.n] at HSU hyb hzl
      generalize hy : (nmL nmTxn (ps.take k) : Int) = y at *
      have hy0 : 0 ≤ y := by omega
      clear hy
      obtain ⟨c0, f0⟩ := hOk.cell' hkL 0 (.int .i64 z_i) rfl
      obtain ⟨c1, f1⟩ := hOk.cell' hkL 1 (.int .i64 z_s) rfl
      obtain ⟨c2, f2⟩ := hOk.cell' hkL 2 (.int .i64 z_q) rfl
      obtain ⟨c3, f3⟩ := hOk.cell' hkL 3 (z_va) rfl
      have c0 : wr.cell? ⟨g, k * 4, none⟩ = _ := c0
      have f0 : wr.frozen? ⟨g, k * 4, none⟩ = _ := f0
      have c1 : wr.cell? ⟨g, k * 4 + 1, none⟩ = _ := c1
      have f1 : wr.frozen? ⟨g, k * 4 + 1, none⟩ = _ := f1
      have c2 : wr.cell? ⟨g, k * 4 + 2, none⟩ = _ := c2
      have f2 : wr.frozen? ⟨g, k * 4 + 2, none⟩ = _ := f2
      have c3 : wr.cell? ⟨g, k * 4 + 3, none⟩ = _ := c3
      have f3 : wr.frozen? ⟨g, k * 4 + 3, none⟩ = _ := f3
      obtain ⟨hOn, hnn⟩ := hOk.store' hnk hkL (⟨c + y, z_s, z_q, z_va, d_acts⟩ : TxnQ) 0 (.int .i64 (c + y)) (by decide) rfl rfl (fun _ h => h)
      have hOk : txnK.Own (wr.setCell ⟨g, k * 4, none⟩ (.int .i64 (c + y))) (.slice (some ⟨g, 0, none⟩) ps.length cap) (hs.set k (⟨c + y, z_s, z_q, z_va, d_acts⟩ : TxnQ)) := hOn
      have hnk := hnn
      obtain ⟨hOn, hnn⟩ := hOk.store' hnk hkL (⟨c + y, c + y + 1, z_q, z_va, d_acts⟩ : TxnQ) 1 (.int .i64 (c + y + 1)) (by decide) rfl rfl (fun _ h => h)
      have hOk : txnK.Own ((wr.setCell ⟨g, k * 4, none⟩ (.int .i64 (c + y))).setCell ⟨g, k * 4 + 1, none⟩ (.int .i64 (c + y + 1))) (.slice (some ⟨g, 0, none⟩) ps.length cap) (hs.set k (⟨c + y, c + y + 1, z_q, z_va, d_acts⟩ : TxnQ)) := hOn
      have hnk := hnn
      obtain ⟨hOn, hnn⟩ := hOk.store' hnk hkL (⟨c + y, c + y + 1, c + y + 1 + 1, z_va, d_acts⟩ : TxnQ) 2 (.int .i64 (c + y + 1 + 1)) (by decide) rfl rfl (fun _ h => h)
      have hOk : txnK.Own (((wr.setCell ⟨g, k * 4, none⟩ (.int .i64 (c + y))).setCell ⟨g, k * 4 + 1, none⟩ (.int .i64 (c + y + 1))).setCell ⟨g, k * 4 + 2, none⟩ (.int .i64 (c + y + 1 + 1))) (.slice (some ⟨g, 0, none⟩) ps.length cap) (hs.set k (⟨c + y, c + y + 1, c + y + 1 + 1, z_va, d_acts⟩ : TxnQ)) := hOn
      have hnk := hnn
      have HU : Hid (Out (txnK.fp (.slice (some ⟨g, 0, none⟩) ps.length cap) ps) w (((wr.setCell ⟨g, k * 4, none⟩ (.int .i64 (c + y))).setCell ⟨g, k * 4 + 1, none⟩ (.int .i64 (c + y + 1))).setCell ⟨g, k * 4 + 2, none⟩ (.int .i64 (c + y + 1 + 1)))) := (((HU.out.trans ((Out.setCell _ g (k * 4) (.int .i64 (c + y))).mono hg0.out)).trans ((Out.setCell _ g (k * 4 + 1) (.int .i64 (c + y + 1))).mono hg0.out)).trans ((Out.setCell _ g (k * 4 + 2) (.int .i64 (c + y + 1 + 1))).mono hg0.out))
      have he3 := hOk.elem' hkL
      have hl3 : actK.Own (((wr.setCell ⟨g, k * 4, none⟩ (.int .i64 (c + y))).setCell ⟨g, k * 4 + 1, none⟩ (.int .i64 (c + y + 1))).setCell ⟨g, k * 4 + 2, none⟩ (.int .i64 (c + y + 1 + 1))) z_va d_acts := he3
      have hmk := markActs_k z_va d_acts (c + y + 1 + 1 + 1) _ hl3  (by omega) (by omega) (by omega)
      obtain ⟨sa3, sc3, hsh3⟩ := hl3.shape
      subst hsh3

      clear he3 hl3
      go_wp2_with fail
      refine hmk.mono ?_
      rintro e w23 ⟨rfl, hm3, ho3⟩
      clear hmk
      obtain ⟨hOn, hnn⟩ := hOk.turn' hnk hkL (⟨c + y, c + y + 1, c + y + 1 + 1, .slice sa3 d_acts.length sc3, mkActs (c + y + 1 + 1 + 1) d_acts⟩ : TxnQ) ho3 (fun x hx => hx) rfl (by exact mkActs_fp _ _ _) (hm3)
      have HU : Hid (Out (txnK.fp (.slice (some ⟨g, 0, none⟩) ps.length cap) ps) w w23) := HU.out.trans (ho3.mono (fun x hx => hsub.out x (show x ∈ txnK.foot _ from (fun x hx => hx) x hx)))
      have hOk := hOn
      have hnk := hnn
      have R : Hid (txnK.Own w23 (.slice (some ⟨g, 0, none⟩) ps.length cap) (half mkTxn nmTxn c ps (k + 1))) := by rw [← HSET.out]; exact hOk
      clear hOk hnk HSET hsub hg0
      go_wp2
      go_roundw
      case rel => exact ⟨k + 1, by omega, by rw [HSU.out]; congr 1; omega, by go_num, R.out, HU.out⟩
      case measure => simp [intOf]; omega
    · have hkl : k = ps.length := by omega
      subst hkl
      have hO := HO.out
      rw [half_all] at hO
      rw [List.take_length]
      clear HF HO
      go_wp2
      go_ret
      exact ⟨rfl, hO, HU.out⟩

end Go.Proofs.YtkklhbofeghnbaaDoor

namespace Go.Proofs.YtkklhbofeghnbaaDoor
open Go.RowKit
open Go.BigFrame
set_option linter.unusedVariables false
set_option linter.unusedSimpArgs false

set_option maxHeartbeats 2000000 in
theorem heldTxns_k (v : Value) (ps : List TxnQ) (c : Int) (w : World) (h : txnK.At w v (mkL mkTxn nmTxn c ps)) (hl : (ps.length + nmL TxnQ.n ps) ≤ 1048576) (h0 : 0 ≤ c) (h1 : c + (nmL nmTxn ps : Int) ≤ 1099511627776) :
    Calls Tryd.prog 35 #[v, .int .i64 c] w fun e w' => e = .returned (.int .i64 (c + (nmL nmTxn ps : Int))) ∧ Below w.heap.size w w' := by
  obtain ⟨a, cap, rfl⟩ := h.shape
  have hmk := mkL_length mkTxn nmTxn c ps
  rw [hmk] at h ⊢
  have HM : Hid ((mkL mkTxn nmTxn c ps).length = ps.length) := hmk
  clear hmk
  go_enter Tryd.func35, Tryd.ntmps35
  go_wp2
  go_loopw [1, 5] (fun j i wr => ∃ k : Nat, k ≤ ps.length ∧ j = .int .i64 (c + (nmL nmTxn (ps.take k) : Int)) ∧ i = .int .i64 k ∧ Below w.heap.size w wr) (fun _ i _ => ps.length - (intOf i).toNat)
  case atStart => exact ⟨0, Nat.zero_le _, by simp [nmL], rfl, Below.refl _ _⟩
  case round =>
    obtain ⟨k, hk, rfl, rfl, hb⟩ := hrel
    by_cases hlt : k < ps.length
    · have hltm : k < (mkL mkTxn nmTxn c ps).length := by have := HM.out; omega
      obtain ⟨b, off, rfl, hbs, hc, hrd⟩ := (h.below hb).cell (by decide) k hltm
      rw [mkL_get mkTxn nmTxn c ps k hlt] at hc hrd
      have hsu := nmL_succ nmTxn ps k hlt
      have hle := nmL_le nmTxn ps (k + 1)
      have hzl := nm_le TxnQ.n ps k hlt
      have HSU : Hid ((nmL nmTxn (ps.take (k + 1)) : Int) = (nmL nmTxn (ps.take k) : Int) + (nmTxn ps[k] : Int)) := show _ = _ by omega
      have hyb : (nmL nmTxn (ps.take k) : Int) + (nmTxn ps[k] : Int) ≤ nmL nmTxn ps := by omega
      clear hsu hle h
      generalize hpk : ps[k] = p at *
      clear hpk
      obtain ⟨z_i, z_s, z_q, z_va, d_acts⟩ := p
      dsimp only [nmTxn, TxnQ.n] at HSU hyb hzl
      generalize hy : (nmL nmTxn (ps.take k) : Int) = y at *
      have hy0 : 0 ≤ y := by omega
      clear hy
      have hc' : ∀ j x, (txnK.cells (mkTxn (c + y) (⟨z_i, z_s, z_q, z_va, d_acts⟩ : TxnQ)))[j]? = some x → wr.cell? ⟨b, off + k * 4 + j, none⟩ = some x := hc
      clear hc
      have c0 := hc' 0 (.int .i64 (c + y)) rfl
      have c1 := hc' 1 (.int .i64 (c + y + 1)) rfl
      have c2 := hc' 2 (.int .i64 (c + y + 1 + 1)) rfl
      have c3 := hc' 3 (z_va) rfl
      have r3 : actK.At wr z_va (mkActs (c + y + 1 + 1 + 1) d_acts) := hrd
      have hh3 := fun w h => heldActs_k z_va d_acts (c + y + 1 + 1 + 1) w h (by omega) (by omega) (by omega)
      obtain ⟨sa3, sc3, hsh3⟩ := r3.shape
      subst hsh3
      rw [Nat.add_zero] at c0
      clear hc'
      have nn3 : ¬ (c + y + 1 + 1 + 1 + ((d_acts.length * 3 : Nat) : Int) < 0) := by omega
      go_wp2_with fail
      refine (hh3 wr r3).mono ?_
      rintro e w3 ⟨rfl, hb3⟩
      replace hb := hb.trans (hb3.mono hb.size)
      clear hb3 hh3 c0 c1 c2 c3
      go_wp2
      go_roundw
      case rel => exact ⟨k + 1, by omega, by rw [HSU.out]; congr 1; omega, by go_num, hb⟩
      case measure => simp [intOf]; omega
    · have hkl : k = ps.length := by omega
      subst hkl
      rw [List.take_length]
      go_wp2
      go_ret
      exact ⟨rfl, hb⟩

end Go.Proofs.YtkklhbofeghnbaaDoor

namespace Go.Proofs.YtkklhbofeghnbaaDoor
open Go.RowKit
open Go.BigFrame
set_option linter.unusedVariables false
set_option linter.unusedSimpArgs false

theorem nd_right {A B : List Nat} (h : (A ++ B).Nodup) : ∀ k ∈ B, k ∉ A := fun k hk hk2 => (List.nodup_append.1 h).2.2 k hk2 k hk rfl
theorem nd_left {A B : List Nat} (h : (A ++ B).Nodup) : ∀ k ∈ A, k ∉ B := fun k hk hk2 => (List.nodup_append.1 h).2.2 k hk k hk2 rfl
theorem foot_nodup {P : Type} {K : Kind P} {v : Value} {hs : List P} {k : Nat} {p : P} (h : (K.fp v (hs.set k p)).Nodup) (hk : k < hs.length) : (K.foot p).Nodup := by
  have h2 := (List.nodup_append.1 h).2.1
  rw [set_split hs k hk p] at h2
  simp only [List.flatMap_append, List.flatMap_cons] at h2
  exact (List.nodup_append.1 (List.nodup_append.1 h2).2.1).1

def mkRound (c : Int) (p : RoundQ) : RoundQ := ⟨p.vr, mkInts (c) p.rep, p.vp, mkInts (c + ((p.rep.length : Nat) : Int)) p.pro⟩
def nmRound (p : RoundQ) : Nat := p.rep.length + p.pro.length
theorem mkRound_foot (c : Int) (p : RoundQ) : roundK.foot (mkRound c p) = roundK.foot p := by
  simp only [mkRound, show ∀ p : RoundQ, roundK.foot p = intK.fp p.vr p.rep ++ intK.fp p.vp p.pro from fun _ => rfl, mkInts_fp, mkInts_fp]

set_option maxHeartbeats 4000000 in
theorem markRounds_k (v : Value) (ps : List RoundQ) (c : Int) (w : World) (h : roundK.Own w v ps) (hnd : (roundK.fp v ps).Nodup) (hl : (ps.length + nmL RoundQ.n ps) ≤ 1048576) (h0 : 0 ≤ c) (h1 : c + (nmL nmRound ps : Int) ≤ 1099511627776) :
    Calls Tryd.prog 31 #[v, .int .i64 c] w fun e w' => e = .returned (.int .i64 (c + (nmL nmRound ps : Int))) ∧ roundK.Own w' v (mkL mkRound nmRound c ps) ∧ Out (roundK.fp v ps) w w' := by
  obtain ⟨a, cap, rfl⟩ := h.shape
  have hfph : ∀ k, k ≤ ps.length → roundK.fp (.slice a ps.length cap) (half mkRound nmRound c ps k) = roundK.fp (.slice a ps.length cap) ps := fun k hk => fp_half mkRound_foot _ c ps k
  have HF : Hid (∀ k, k ≤ ps.length → roundK.fp (.slice a ps.length cap) (half mkRound nmRound c ps k) = roundK.fp (.slice a ps.length cap) ps) := hfph
  have HA : Hid (roundK.Own w (.slice a ps.length cap) (half mkRound nmRound c ps 0)) := by rw [half_zero]; exact h
  clear hfph h
  go_enter Tryd.func31, Tryd.ntmps31
  go_wp2
  go_loopw [1, 5] (fun j i wr => ∃ k : Nat, k ≤ ps.length ∧ j = .int .i64 (c + (nmL nmRound (ps.take k) : Int)) ∧ i = .int .i64 k ∧ Hid (roundK.Own wr (.slice a ps.length cap) (half mkRound nmRound c ps k)) ∧ Hid (Out (roundK.fp (.slice a ps.length cap) ps) w wr)) (fun _ i _ => ps.length - (intOf i).toNat)
  case atStart => exact ⟨0, Nat.zero_le _, by simp [nmL], rfl, HA, Out.refl _ _⟩
  case round =>
    clear HA
    obtain ⟨k, hk, rfl, rfl, HO, HU⟩ := hrel
    by_cases hlt : k < ps.length
    · have hhl : (half mkRound nmRound c ps k).length = ps.length := half_length _ _ _ _ _ hk
      have hO := HO.out
      obtain ⟨g, rfl⟩ := hO.blkOf (by omega)
      have hndk : (roundK.fp (.slice (some ⟨g, 0, none⟩) ps.length cap) (half mkRound nmRound c ps k)).Nodup := by rw [HF.out k hk]; exact hnd
      have hsub : Hid (∀ x ∈ roundK.foot ps[k], x ∈ roundK.fp (.slice (some ⟨g, 0, none⟩) ps.length cap) ps) := fun x hx => by
        simp only [Kind.fp, List.mem_append, List.mem_flatMap]
        exact Or.inr ⟨_, List.getElem_mem hlt, hx⟩
      have hg0 : Hid (∀ x ∈ [g], x ∈ roundK.fp (.slice (some ⟨g, 0, none⟩) ps.length cap) ps) := fun x hx => by
        simp only [List.mem_singleton] at hx
        subst hx
        simp [Kind.fp, blk, Value.ownBlock]
      have hltH : k < (half mkRound nmRound c ps k).length := by omega
      have hget := half_get mkRound nmRound c ps k hlt
      have hOk : roundK.Own wr (.slice (some ⟨g, 0, none⟩) ps.length cap) ((half mkRound nmRound c ps k).set k ps[k]) := by
        have e : (half mkRound nmRound c ps k).set k ps[k] = half mkRound nmRound c ps k := by
          rw [← hget, List.set_getElem_self]
        rw [e]; exact hO
      have hnk : (roundK.fp (.slice (some ⟨g, 0, none⟩) ps.length cap) ((half mkRound nmRound c ps k).set k ps[k])).Nodup := by
        have e : (half mkRound nmRound c ps k).set k ps[k] = half mkRound nmRound c ps k := by
          rw [← hget, List.set_getElem_self]
        rw [e]; exact hndk
      clear hget hO hndk
      have hset := half_set mkRound nmRound c ps k hlt
      have hsu := nmL_succ nmRound ps k hlt
      have hle := nmL_le nmRound ps (k + 1)
      have hzl := nm_le RoundQ.n ps k hlt
      have HSU : Hid ((nmL nmRound (ps.take (k + 1)) : Int) = (nmL nmRound (ps.take k) : Int) + (nmRound ps[k] : Int)) := show _ = _ by omega
      have hyb : (nmL nmRound (ps.take k) : Int) + (nmRound ps[k] : Int) ≤ nmL nmRound ps := by omega
      have HSET : Hid ((half mkRound nmRound c ps k).set k (mkRound (c + (nmL nmRound (ps.take k) : Int)) ps[k]) = half mkRound nmRound c ps (k + 1)) := hset
      clear hset hsu hle HO
      generalize half mkRound nmRound c ps k = hs at *
      generalize hpk : ps[k] = p at *
      clear hpk
      obtain ⟨z_vr, d_rep, z_vp, d_pro⟩ := p
      have hkL : k < hs.length := hltH
      dsimp only [nmRound, RoundQ.n] at HSU hyb hzl
      generalize hy : (nmL nmRound (ps.take k) : Int) = y at *
      have hy0 : 0 ≤ y := by omega
      clear hy
      obtain ⟨c0, f0⟩ := hOk.cell' hkL 0 (z_vr) rfl
      have c0 : wr.cell? ⟨g, k * 2, none⟩ = _ := c0
      have f0 : wr.frozen? ⟨g, k * 2, none⟩ = _ := f0
      have he0 := hOk.elem' hkL
      have hl0 : intK.Own wr z_vr d_rep := he0.1
      have hmk := markInts_k z_vr d_rep (c + y) _ hl0  (by omega) (by omega) (by omega)
      obtain ⟨sa0, sc0, hsh0⟩ := hl0.shape
      subst hsh0

      clear he0 hl0
      go_wp2_with fail
      refine hmk.mono ?_
      rintro e w20 ⟨rfl, hm0, ho0⟩
      clear hmk
      obtain ⟨hOn, hnn⟩ := hOk.turn' hnk hkL (⟨.slice sa0 d_rep.length sc0, mkInts (c + y) d_rep, z_vp, d_pro⟩ : RoundQ) ho0 (fun x hx => List.mem_append_left _ hx) rfl (by simp only [show ∀ p : RoundQ, roundK.foot p = intK.fp p.vr p.rep ++ intK.fp p.vp p.pro from fun _ => rfl, mkInts_fp]) (⟨hm0, (hOk.elem' hkL).2.out ho0 (nd_right (foot_nodup hnk hkL))⟩)
      have HU : Hid (Out (roundK.fp (.slice (some ⟨g, 0, none⟩) ps.length cap) ps) w w20) := HU.out.trans (ho0.mono (fun x hx => hsub.out x (show x ∈ roundK.foot _ from (fun x hx => List.mem_append_left _ hx) x hx)))
      have hOk := hOn
      have hnk := hnn
      obtain ⟨c1, f1⟩ := hOk.cell' hkL 1 (z_vp) rfl
      have c1 : w20.cell? ⟨g, k * 2 + 1, none⟩ = _ := c1
      have f1 : w20.frozen? ⟨g, k * 2 + 1, none⟩ = _ := f1
      have he1 := hOk.elem' hkL
      have hl1 : intK.Own w20 z_vp d_pro := he1.2
      have hmk := markInts_k z_vp d_pro (c + y + ((d_rep.length : Nat) : Int)) _ hl1  (by omega) (by omega) (by omega)
      obtain ⟨sa1, sc1, hsh1⟩ := hl1.shape
      subst hsh1

      clear he1 hl1
      go_wp2_with fail
      refine hmk.mono ?_
      rintro e w21 ⟨rfl, hm1, ho1⟩
      clear hmk
      obtain ⟨hOn, hnn⟩ := hOk.turn' hnk hkL (⟨.slice sa0 d_rep.length sc0, mkInts (c + y) d_rep, .slice sa1 d_pro.length sc1, mkInts (c + y + ((d_rep.length : Nat) : Int)) d_pro⟩ : RoundQ) ho1 (fun x hx => List.mem_append_right _ (hx)) rfl (by simp only [show ∀ p : RoundQ, roundK.foot p = intK.fp p.vr p.rep ++ intK.fp p.vp p.pro from fun _ => rfl, mkInts_fp]) (⟨(hOk.elem' hkL).1.out ho1 (nd_left (foot_nodup hnk hkL)), hm1⟩)
      have HU : Hid (Out (roundK.fp (.slice (some ⟨g, 0, none⟩) ps.length cap) ps) w w21) := HU.out.trans (ho1.mono (fun x hx => hsub.out x (show x ∈ roundK.foot _ from (fun x hx => List.mem_append_right _ (hx)) x hx)))
      have hOk := hOn
      have hnk := hnn
      have R : Hid (roundK.Own w21 (.slice (some ⟨g, 0, none⟩) ps.length cap) (half mkRound nmRound c ps (k + 1))) := by rw [← HSET.out]; exact hOk
      clear hOk hnk HSET hsub hg0
      go_wp2
      go_roundw
      case rel => exact ⟨k + 1, by omega, by rw [HSU.out]; congr 1; omega, by go_num, R.out, HU.out⟩
      case measure => simp [intOf]; omega
    · have hkl : k = ps.length := by omega
      subst hkl
      have hO := HO.out
      rw [half_all] at hO
      rw [List.take_length]
      clear HF HO
      go_wp2
      go_ret
      exact ⟨rfl, hO, HU.out⟩

end Go.Proofs.YtkklhbofeghnbaaDoor

namespace Go.Proofs.YtkklhbofeghnbaaDoor
open Go.RowKit
open Go.BigFrame
set_option linter.unusedVariables false
set_option linter.unusedSimpArgs false

set_option maxHeartbeats 2000000 in
theorem heldRounds_k (v : Value) (ps : List RoundQ) (c : Int) (w : World) (h : roundK.At w v (mkL mkRound nmRound c ps)) (hl : (ps.length + nmL RoundQ.n ps) ≤ 1048576) (h0 : 0 ≤ c) (h1 : c + (nmL nmRound ps : Int) ≤ 1099511627776) :
    Calls Tryd.prog 36 #[v, .int .i64 c] w fun e w' => e = .returned (.int .i64 (c + (nmL nmRound ps : Int))) ∧ Below w.heap.size w w' := by
  obtain ⟨a, cap, rfl⟩ := h.shape
  have hmk := mkL_length mkRound nmRound c ps
  rw [hmk] at h ⊢
  have HM : Hid ((mkL mkRound nmRound c ps).length = ps.length) := hmk
  clear hmk
  go_enter Tryd.func36, Tryd.ntmps36
  go_wp2
  go_loopw [1, 5] (fun j i wr => ∃ k : Nat, k ≤ ps.length ∧ j = .int .i64 (c + (nmL nmRound (ps.take k) : Int)) ∧ i = .int .i64 k ∧ Below w.heap.size w wr) (fun _ i _ => ps.length - (intOf i).toNat)
  case atStart => exact ⟨0, Nat.zero_le _, by simp [nmL], rfl, Below.refl _ _⟩
  case round =>
    obtain ⟨k, hk, rfl, rfl, hb⟩ := hrel
    by_cases hlt : k < ps.length
    · have hltm : k < (mkL mkRound nmRound c ps).length := by have := HM.out; omega
      obtain ⟨b, off, rfl, hbs, hc, hrd⟩ := (h.below hb).cell (by decide) k hltm
      rw [mkL_get mkRound nmRound c ps k hlt] at hc hrd
      have hsu := nmL_succ nmRound ps k hlt
      have hle := nmL_le nmRound ps (k + 1)
      have hzl := nm_le RoundQ.n ps k hlt
      have HSU : Hid ((nmL nmRound (ps.take (k + 1)) : Int) = (nmL nmRound (ps.take k) : Int) + (nmRound ps[k] : Int)) := show _ = _ by omega
      have hyb : (nmL nmRound (ps.take k) : Int) + (nmRound ps[k] : Int) ≤ nmL nmRound ps := by omega
      clear hsu hle h
      generalize hpk : ps[k] = p at *
      clear hpk
      obtain ⟨z_vr, d_rep, z_vp, d_pro⟩ := p
      dsimp only [nmRound, RoundQ.n] at HSU hyb hzl
      generalize hy : (nmL nmRound (ps.take k) : Int) = y at *
      have hy0 : 0 ≤ y := by omega
      clear hy
      have hc' : ∀ j x, (roundK.cells (mkRound (c + y) (⟨z_vr, d_rep, z_vp, d_pro⟩ : RoundQ)))[j]? = some x → wr.cell? ⟨b, off + k * 2 + j, none⟩ = some x := hc
      clear hc
      have c0 := hc' 0 (z_vr) rfl
      have c1 := hc' 1 (z_vp) rfl
      obtain ⟨r0, r1⟩ : intK.At wr z_vr (mkInts (c + y) d_rep) ∧ intK.At wr z_vp (mkInts (c + y + ((d_rep.length : Nat) : Int)) d_pro) := hrd
      have hh0 := fun w h => heldInts_k z_vr d_rep (c + y) w h (by omega) (by omega) (by omega)
      have hh1 := fun w h => heldInts_k z_vp d_pro (c + y + ((d_rep.length : Nat) : Int)) w h (by omega) (by omega) (by omega)
      obtain ⟨sa0, sc0, hsh0⟩ := r0.shape
      subst hsh0
      obtain ⟨sa1, sc1, hsh1⟩ := r1.shape
      subst hsh1
      rw [Nat.add_zero] at c0
      clear hc'
      have nn0 : ¬ (c + y + ((d_rep.length : Nat) : Int) < 0) := by omega
      go_wp2_with fail
      refine (hh0 wr r0).mono ?_
      rintro e w0 ⟨rfl, hb0⟩
      replace hb := hb.trans (hb0.mono hb.size)
      replace c1 := (hb0.cell (p := ⟨b, _, none⟩) (World.block_lt_of_cell? _ _ c1)).trans c1
      replace r1 := r1.below hb0
      clear hb0 hh0 c0
      have nn1 : ¬ (c + y + ((d_rep.length : Nat) : Int) + ((d_pro.length : Nat) : Int) < 0) := by omega
      go_wp2_with fail
      refine (hh1 w0 r1).mono ?_
      rintro e w1 ⟨rfl, hb1⟩
      replace hb := hb.trans (hb1.mono hb.size)
      clear hb1 hh1 c1
      go_wp2
      go_roundw
      case rel => exact ⟨k + 1, by omega, by rw [HSU.out]; congr 1; omega, by go_num, hb⟩
      case measure => simp [intOf]; omega
    · have hkl : k = ps.length := by omega
      subst hkl
      rw [List.take_length]
      go_wp2
      go_ret
      exact ⟨rfl, hb⟩

end Go.Proofs.YtkklhbofeghnbaaDoor

namespace Go.Proofs.YtkklhbofeghnbaaDoor
open Go.RowKit
set_option linter.unusedVariables false
set_option linter.unusedSimpArgs false

end Go.Proofs.YtkklhbofeghnbaaDoor

namespace Go.Proofs.YtkklhbofeghnbaaDoor
open Go.RowKit
open Go.BigFrame
set_option linter.unusedVariables false
set_option linter.unusedSimpArgs false

def mkInst (c : Int) (p : InstQ) : InstQ := ⟨p.has, p.vb, mkL mkTxn nmTxn c p.batch, p.vr, mkL mkRound nmRound (c + (nmL nmTxn p.batch : Int)) p.rounds, p.vd, mkInts (c + (nmL nmTxn p.batch : Int) + (nmL nmRound p.rounds : Int)) p.dec⟩
def nmInst (p : InstQ) : Nat := nmL nmTxn p.batch + nmL nmRound p.rounds + p.dec.length
theorem mkInst_foot (c : Int) (p : InstQ) : instK.foot (mkInst c p) = instK.foot p := by
  simp only [mkInst, show ∀ p : InstQ, instK.foot p = txnK.fp p.vb p.batch ++ (roundK.fp p.vr p.rounds ++ intK.fp p.vd p.dec) from fun _ => rfl, fp_mkL mkTxn_foot, fp_mkL mkRound_foot, mkInts_fp]
theorem nmTxn_le (ps : List TxnQ) : nmL nmTxn ps ≤ 3 * (ps.length + nmL TxnQ.n ps) := by
  induction ps with
  | nil => simp [nmL]
  | cons p r ih =>
    simp only [nmL, List.map_cons, List.sum_cons, List.length_cons] at ih ⊢
    simp only [nmTxn, TxnQ.n] at ih ⊢
    omega
theorem nmRound_le (ps : List RoundQ) : nmL nmRound ps ≤ nmL RoundQ.n ps := by
  induction ps with
  | nil => simp [nmL]
  | cons p r ih =>
    simp only [nmL, List.map_cons, List.sum_cons] at ih ⊢
    simp only [nmRound, RoundQ.n] at ih ⊢
    omega
theorem nmInst_le (p : InstQ) : nmInst p ≤ 3 * p.n := by
  have h1 := nmTxn_le p.batch
  have h2 := nmRound_le p.rounds
  unfold nmInst InstQ.n
  omega

theorem inst_n {q p : InstQ} (h : q.e = p.e) : q.n = p.n := by
  simp only [InstQ.e, InstE.mk.injEq] at h
  obtain ⟨_, h1, h2, h3⟩ := h
  have t1 : q.batch.length = p.batch.length := by simpa using congrArg List.length h1
  have t2 : nmL TxnQ.n q.batch = nmL TxnQ.n p.batch := by
    have := congrArg (fun l => nmL (fun d : TxnD => d.acts.length) l) h1
    simp only [nmL, List.map_map] at this
    exact this
  have t3 : q.rounds.length = p.rounds.length := by simpa using congrArg List.length h2
  have t4 : nmL RoundQ.n q.rounds = nmL RoundQ.n p.rounds := by
    have := congrArg (fun l => nmL (fun d : RoundE => d.rep.length + d.pro.length) l) h2
    simp only [nmL, List.map_map] at this
    exact this
  unfold InstQ.n
  rw [t1, t2, t3, t4, h3]

/-- An answer that holds an instance: the cells. -/
abbrev resC (code cc : Int) (cd ck : Bool) (cx : Int) (p : InstQ) : Array Value := #[.int .i64 code, .int .i64 cc, .bool cd, .bool ck, .int .i64 cx, .bool p.has, p.vb, p.vr, p.vd]

end Go.Proofs.YtkklhbofeghnbaaDoor
