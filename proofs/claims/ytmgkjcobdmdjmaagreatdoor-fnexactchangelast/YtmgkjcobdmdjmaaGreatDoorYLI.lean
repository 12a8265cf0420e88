/- Texts joined, with what the law reaches alone. -/
import Derived.Test.YtmgkjcobdmdjmaaGreatDoorYLD
import Derived.Test.YtmgkjcobdmdjmaaGreatDoorYLA
import Derived.Test.YtmgkjcobdmdjmaaGreatDoorYLH
namespace Go.Proofs.YtmgkjcobdmdjmaaGreatDoor
open Go.RowKit
open Go.BigFrame
set_option linter.unusedVariables false
set_option maxRecDepth 100000
set_option linter.unusedSimpArgs false
def mkTxn (c : Int) (p : TxnQ) : TxnQ := ⟨c, c + 1, c + 1 + 1, p.va, mkActs (c + 1 + 1 + 1) p.acts⟩

def nmTxn (p : TxnQ) : Nat := 1 + 1 + 1 + p.acts.length * 3

theorem mkTxn_foot (c : Int) (p : TxnQ) : txnK.foot (mkTxn c p) = txnK.foot p := by
  simp only [mkTxn, show ∀ p : TxnQ, txnK.foot p = actK.fp p.va p.acts from fun _ => rfl, mkActs_fp]

set_option maxHeartbeats 4000000 in
theorem markTxns_k (v : Value) (ps : List TxnQ) (c : Int) (w : World) (h : txnK.Own w v ps) (hnd : (txnK.fp v ps).Nodup) (hl : (ps.length + nmL TxnQ.n ps) ≤ 1048576) (h0 : 0 ≤ c) (h1 : c + (nmL nmTxn ps : Int) ≤ 1099511627776) :
    Calls Tryz.prog 106 #[v, .int .i64 c] w fun e w' => e = .returned (.int .i64 (c + (nmL nmTxn ps : Int))) ∧ txnK.Own w' v (mkL mkTxn nmTxn c ps) ∧ Out (txnK.fp v ps) w w' := by
  obtain ⟨a, cap, rfl⟩ := h.shape
  have hfph : ∀ k, k ≤ ps.length → txnK.fp (.slice a ps.length cap) (half mkTxn nmTxn c ps k) = txnK.fp (.slice a ps.length cap) ps := fun k hk => fp_half mkTxn_foot _ c ps k
  have HF : Hid (∀ k, k ≤ ps.length → txnK.fp (.slice a ps.length cap) (half mkTxn nmTxn c ps k) = txnK.fp (.slice a ps.length cap) ps) := hfph
  have HA : Hid (txnK.Own w (.slice a ps.length cap) (half mkTxn nmTxn c ps 0)) := by rw [half_zero]; exact h
  clear hfph h
  go_enter Tryz.func106, Tryz.ntmps106
  go_wp2
  go_loopw [1, 5] (fun j i wr => ∃ k : Nat, k ≤ ps.length ∧ j = .int .i64 (c + (nmL nmTxn (ps.take k) : Int)) ∧ i = .int .i64 k ∧ Hid (txnK.Own wr (.slice a ps.length cap) (half mkTxn nmTxn c ps k)) ∧ Hid (Out (txnK.fp (.slice a ps.length cap) ps) w wr)) (fun _ i _ => ps.length - (intOf i).toNat)
  case atStart => exact ⟨0, Nat.zero_le _, by simp [nmL], rfl, HA, Out.refl _ _⟩
  case round =>
    clear HA
    obtain ⟨k, hk, rfl, rfl, HO, HU⟩ := hrel
    by_cases hlt : k < ps.length
    · have hhl : (half mkTxn nmTxn c ps k).length = ps.length := half_length _ _ _ _ _ hk
      have hO := HO.out
      obtain ⟨g, rfl⟩ := hO.blkOf (by omega)
      have hndk : (txnK.fp (.slice (some ⟨g, 0, none⟩) ps.length cap) (half mkTxn nmTxn c ps k)).Nodup := by rw [HF.out k hk]; exact hnd
      have hsub : Hid (∀ x ∈ txnK.foot ps[k], x ∈ txnK.fp (.slice (some ⟨g, 0, none⟩) ps.length cap) ps) := fun x hx => by
        simp only [Kind.fp, List.mem_append, List.mem_flatMap]
        exact Or.inr ⟨_, List.getElem_mem hlt, hx⟩
      have hg0 : Hid (∀ x ∈ [g], x ∈ txnK.fp (.slice (some ⟨g, 0, none⟩) ps.length cap) ps) := fun x hx => by
        simp only [List.mem_singleton] at hx
        subst hx
        simp [Kind.fp, blk, Value.ownBlock]
      have hltH : k < (half mkTxn nmTxn c ps k).length := by omega
      have hget := half_get mkTxn nmTxn c ps k hlt
      have hOk : txnK.Own wr (.slice (some ⟨g, 0, none⟩) ps.length cap) ((half mkTxn nmTxn c ps k).set k ps[k]) := by
        have e : (half mkTxn nmTxn c ps k).set k ps[k] = half mkTxn nmTxn c ps k := by
          rw [← hget, List.set_getElem_self]
        rw [e]; exact hO
      have hnk : (txnK.fp (.slice (some ⟨g, 0, none⟩) ps.length cap) ((half mkTxn nmTxn c ps k).set k ps[k])).Nodup := by
        have e : (half mkTxn nmTxn c ps k).set k ps[k] = half mkTxn nmTxn c ps k := by
          rw [← hget, List.set_getElem_self]
        rw [e]; exact hndk
      clear hget hO hndk
      have hset := half_set mkTxn nmTxn c ps k hlt
      have hsu := nmL_succ nmTxn ps k hlt
      have hle := nmL_le nmTxn ps (k + 1)
      have hzl := nm_le TxnQ.n ps k hlt
      have HSU : Hid ((nmL nmTxn (ps.take (k + 1)) : Int) = (nmL nmTxn (ps.take k) : Int) + (nmTxn ps[k] : Int)) := show _ = _ by omega
      have hyb : (nmL nmTxn (ps.take k) : Int) + (nmTxn ps[k] : Int) ≤ nmL nmTxn ps := by omega
      have HSET : Hid ((half mkTxn nmTxn c ps k).set k (mkTxn (c + (nmL nmTxn (ps.take k) : Int)) ps[k]) = half mkTxn nmTxn c ps (k + 1)) := hset
      clear hset hsu hle HO
      generalize half mkTxn nmTxn c ps k = hs at *
      generalize hpk : ps[k] = p at *
      clear hpk
      obtain ⟨z_i, z_s, z_q, z_va, d_acts⟩ := p
      have hkL : k < hs.length := hltH
      dsimp only [nmTxn, TxnQ.n] at HSU hyb hzl
      generalize hy : (nmL nmTxn (ps.take k) : Int) = y at *
      have hy0 : 0 ≤ y := by omega
      clear hy
      obtain ⟨c0, f0⟩ := hOk.cell' hkL 0 (.int .i64 z_i) rfl
      obtain ⟨c1, f1⟩ := hOk.cell' hkL 1 (.int .i64 z_s) rfl
      obtain ⟨c2, f2⟩ := hOk.cell' hkL 2 (.int .i64 z_q) rfl
      obtain ⟨c3, f3⟩ := hOk.cell' hkL 3 (z_va) rfl
      have c0 : wr.cell? ⟨g, k * 4, none⟩ = _ := c0
      have f0 : wr.frozen? ⟨g, k * 4, none⟩ = _ := f0
      have c1 : wr.cell? ⟨g, k * 4 + 1, none⟩ = _ := c1
      have f1 : wr.frozen? ⟨g, k * 4 + 1, none⟩ = _ := f1
      have c2 : wr.cell? ⟨g, k * 4 + 2, none⟩ = _ := c2
      have f2 : wr.frozen? ⟨g, k * 4 + 2, none⟩ = _ := f2
      have c3 : wr.cell? ⟨g, k * 4 + 3, none⟩ = _ := c3
      have f3 : wr.frozen? ⟨g, k * 4 + 3, none⟩ = _ := f3
      obtain ⟨hOn, hnn⟩ := hOk.store' hnk hkL (⟨c + y, z_s, z_q, z_va, d_acts⟩ : TxnQ) 0 (.int .i64 (c + y)) (by decide) rfl rfl (fun _ h => h)
      have hOk : txnK.Own (wr.setCell ⟨g, k * 4, none⟩ (.int .i64 (c + y))) (.slice (some ⟨g, 0, none⟩) ps.length cap) (hs.set k (⟨c + y, z_s, z_q, z_va, d_acts⟩ : TxnQ)) := hOn
      have hnk := hnn
      obtain ⟨hOn, hnn⟩ := hOk.store' hnk hkL (⟨c + y, c + y + 1, z_q, z_va, d_acts⟩ : TxnQ) 1 (.int .i64 (c + y + 1)) (by decide) rfl rfl (fun _ h => h)
      have hOk : txnK.Own ((wr.setCell ⟨g, k * 4, none⟩ (.int .i64 (c + y))).setCell ⟨g, k * 4 + 1, none⟩ (.int .i64 (c + y + 1))) (.slice (some ⟨g, 0, none⟩) ps.length cap) (hs.set k (⟨c + y, c + y + 1, z_q, z_va, d_acts⟩ : TxnQ)) := hOn
      have hnk := hnn
      obtain ⟨hOn, hnn⟩ := hOk.store' hnk hkL (⟨c + y, c + y + 1, c + y + 1 + 1, z_va, d_acts⟩ : TxnQ) 2 (.int .i64 (c + y + 1 + 1)) (by decide) rfl rfl (fun _ h => h)
      have hOk : txnK.Own (((wr.setCell ⟨g, k * 4, none⟩ (.int .i64 (c + y))).setCell ⟨g, k * 4 + 1, none⟩ (.int .i64 (c + y + 1))).setCell ⟨g, k * 4 + 2, none⟩ (.int .i64 (c + y + 1 + 1))) (.slice (some ⟨g, 0, none⟩) ps.length cap) (hs.set k (⟨c + y, c + y + 1, c + y + 1 + 1, z_va, d_acts⟩ : TxnQ)) := hOn
      have hnk := hnn
      have HU : Hid (Out (txnK.fp (.slice (some ⟨g, 0, none⟩) ps.length cap) ps) w (((wr.setCell ⟨g, k * 4, none⟩ (.int .i64 (c + y))).setCell ⟨g, k * 4 + 1, none⟩ (.int .i64 (c + y + 1))).setCell ⟨g, k * 4 + 2, none⟩ (.int .i64 (c + y + 1 + 1)))) := (((HU.out.trans ((Out.setCell _ g (k * 4) (.int .i64 (c + y))).mono hg0.out)).trans ((Out.setCell _ g (k * 4 + 1) (.int .i64 (c + y + 1))).mono hg0.out)).trans ((Out.setCell _ g (k * 4 + 2) (.int .i64 (c + y + 1 + 1))).mono hg0.out))
      have he3 := hOk.elem' hkL
      have hl3 : actK.Own (((wr.setCell ⟨g, k * 4, none⟩ (.int .i64 (c + y))).setCell ⟨g, k * 4 + 1, none⟩ (.int .i64 (c + y + 1))).setCell ⟨g, k * 4 + 2, none⟩ (.int .i64 (c + y + 1 + 1))) z_va d_acts := he3
      have hmk := markActs_k z_va d_acts (c + y + 1 + 1 + 1) _ hl3  (by omega) (by omega) (by omega)
      obtain ⟨sa3, sc3, hsh3⟩ := hl3.shape
      subst hsh3

      clear he3 hl3
      go_wp2_with fail
      refine hmk.mono ?_
      rintro e w23 ⟨rfl, hm3, ho3⟩
      clear hmk
      obtain ⟨hOn, hnn⟩ := hOk.turn' hnk hkL (⟨c + y, c + y + 1, c + y + 1 + 1, .slice sa3 d_acts.length sc3, mkActs (c + y + 1 + 1 + 1) d_acts⟩ : TxnQ) ho3 (fun x hx => hx) rfl (by exact mkActs_fp _ _ _) (hm3)
      have HU : Hid (Out (txnK.fp (.slice (some ⟨g, 0, none⟩) ps.length cap) ps) w w23) := HU.out.trans (ho3.mono (fun x hx => hsub.out x (show x ∈ txnK.foot _ from (fun x hx => hx) x hx)))
      have hOk := hOn
      have hnk := hnn
      have R : Hid (txnK.Own w23 (.slice (some ⟨g, 0, none⟩) ps.length cap) (half mkTxn nmTxn c ps (k + 1))) := by rw [← HSET.out]; exact hOk
      clear hOk hnk HSET hsub hg0
      go_wp2
      go_roundw
      case rel => exact ⟨k + 1, by omega, by rw [HSU.out]; congr 1; omega, by go_num, R.out, HU.out⟩
      case measure => simp [intOf]; omega
    · have hkl : k = ps.length := by omega
      subst hkl
      have hO := HO.out
      rw [half_all] at hO
      rw [List.take_length]
      clear HF HO
      go_wp2
      go_ret
      exact ⟨rfl, hO, HU.out⟩

end Go.Proofs.YtmgkjcobdmdjmaaGreatDoor
namespace Go.Proofs.YtmgkjcobdmdjmaaGreatDoor
open Go.RowKit
open Go.BigFrame
set_option linter.unusedVariables false
set_option maxRecDepth 100000
set_option linter.unusedSimpArgs false
set_option maxHeartbeats 2000000 in
theorem heldTxns_k (v : Value) (ps : List TxnQ) (c : Int) (w : World) (h : txnK.At w v (mkL mkTxn nmTxn c ps)) (hl : (ps.length + nmL TxnQ.n ps) ≤ 1048576) (h0 : 0 ≤ c) (h1 : c + (nmL nmTxn ps : Int) ≤ 1099511627776) :
    Calls Tryz.prog 109 #[v, .int .i64 c] w fun e w' => e = .returned (.int .i64 (c + (nmL nmTxn ps : Int))) ∧ Below w.heap.size w w' := by
  obtain ⟨a, cap, rfl⟩ := h.shape
  have hmk := mkL_length mkTxn nmTxn c ps
  rw [hmk] at h ⊢
  have HM : Hid ((mkL mkTxn nmTxn c ps).length = ps.length) := hmk
  clear hmk
  go_enter Tryz.func109, Tryz.ntmps109
  go_wp2
  go_loopw [1, 5] (fun j i wr => ∃ k : Nat, k ≤ ps.length ∧ j = .int .i64 (c + (nmL nmTxn (ps.take k) : Int)) ∧ i = .int .i64 k ∧ Below w.heap.size w wr) (fun _ i _ => ps.length - (intOf i).toNat)
  case atStart => exact ⟨0, Nat.zero_le _, by simp [nmL], rfl, Below.refl _ _⟩
  case round =>
    obtain ⟨k, hk, rfl, rfl, hb⟩ := hrel
    by_cases hlt : k < ps.length
    · have hltm : k < (mkL mkTxn nmTxn c ps).length := by have := HM.out; omega
      obtain ⟨b, off, rfl, hbs, hc, hrd⟩ := (h.below hb).cell (by decide) k hltm
      rw [mkL_get mkTxn nmTxn c ps k hlt] at hc hrd
      have hsu := nmL_succ nmTxn ps k hlt
      have hle := nmL_le nmTxn ps (k + 1)
      have hzl := nm_le TxnQ.n ps k hlt
      have HSU : Hid ((nmL nmTxn (ps.take (k + 1)) : Int) = (nmL nmTxn (ps.take k) : Int) + (nmTxn ps[k] : Int)) := show _ = _ by omega
      have hyb : (nmL nmTxn (ps.take k) : Int) + (nmTxn ps[k] : Int) ≤ nmL nmTxn ps := by omega
      clear hsu hle h
      generalize hpk : ps[k] = p at *
      clear hpk
      obtain ⟨z_i, z_s, z_q, z_va, d_acts⟩ := p
      dsimp only [nmTxn, TxnQ.n] at HSU hyb hzl
      generalize hy : (nmL nmTxn (ps.take k) : Int) = y at *
      have hy0 : 0 ≤ y := by omega
      clear hy
      have hc' : ∀ j x, (txnK.cells (mkTxn (c + y) (⟨z_i, z_s, z_q, z_va, d_acts⟩ : TxnQ)))[j]? = some x → wr.cell? ⟨b, off + k * 4 + j, none⟩ = some x := hc
      clear hc
      have c0 := hc' 0 (.int .i64 (c + y)) rfl
      have c1 := hc' 1 (.int .i64 (c + y + 1)) rfl
      have c2 := hc' 2 (.int .i64 (c + y + 1 + 1)) rfl
      have c3 := hc' 3 (z_va) rfl
      have r3 : actK.At wr z_va (mkActs (c + y + 1 + 1 + 1) d_acts) := hrd
      have hh3 := fun w h => heldActs_k z_va d_acts (c + y + 1 + 1 + 1) w h (by omega) (by omega) (by omega)
      obtain ⟨sa3, sc3, hsh3⟩ := r3.shape
      subst hsh3
      rw [Nat.add_zero] at c0
      clear hc'
      have nn3 : ¬ (c + y + 1 + 1 + 1 + ((d_acts.length * 3 : Nat) : Int) < 0) := by omega
      go_wp2_with fail
      refine (hh3 wr r3).mono ?_
      rintro e w3 ⟨rfl, hb3⟩
      replace hb := hb.trans (hb3.mono hb.size)
      clear hb3 hh3 c0 c1 c2 c3
      go_wp2
      go_roundw
      case rel => exact ⟨k + 1, by omega, by rw [HSU.out]; congr 1; omega, by go_num, hb⟩
      case measure => simp [intOf]; omega
    · have hkl : k = ps.length := by omega
      subst hkl
      rw [List.take_length]
      go_wp2
      go_ret
      exact ⟨rfl, hb⟩

end Go.Proofs.YtmgkjcobdmdjmaaGreatDoor
namespace Go.Proofs.YtmgkjcobdmdjmaaGreatDoor
open Go.RowKit
open Go.BigFrame
set_option linter.unusedVariables false
set_option maxRecDepth 100000
set_option linter.unusedSimpArgs false
theorem nd_right {A B : List Nat} (h : (A ++ B).Nodup) : ∀ k ∈ B, k ∉ A := fun k hk hk2 => (List.nodup_append.1 h).2.2 k hk2 k hk rfl

theorem nd_left {A B : List Nat} (h : (A ++ B).Nodup) : ∀ k ∈ A, k ∉ B := fun k hk hk2 => (List.nodup_append.1 h).2.2 k hk k hk2 rfl

theorem foot_nodup {P : Type} {K : Kind P} {v : Value} {hs : List P} {k : Nat} {p : P} (h : (K.fp v (hs.set k p)).Nodup) (hk : k < hs.length) : (K.foot p).Nodup := by
  have h2 := (List.nodup_append.1 h).2.1
  rw [set_split hs k hk p] at h2
  simp only [List.flatMap_append, List.flatMap_cons] at h2
  exact (List.nodup_append.1 (List.nodup_append.1 h2).2.1).1

def mkRound (c : Int) (p : RoundQ) : RoundQ := ⟨p.vr, mkInts (c) p.rep, p.vp, mkInts (c + ((p.rep.length : Nat) : Int)) p.pro⟩

def nmRound (p : RoundQ) : Nat := p.rep.length + p.pro.length

theorem mkRound_foot (c : Int) (p : RoundQ) : roundK.foot (mkRound c p) = roundK.foot p := by
  simp only [mkRound, show ∀ p : RoundQ, roundK.foot p = intK.fp p.vr p.rep ++ intK.fp p.vp p.pro from fun _ => rfl, mkInts_fp, mkInts_fp]

set_option maxHeartbeats 4000000 in
theorem markRounds_k (v : Value) (ps : List RoundQ) (c : Int) (w : World) (h : roundK.Own w v ps) (hnd : (roundK.fp v ps).Nodup) (hl : (ps.length + nmL RoundQ.n ps) ≤ 1048576) (h0 : 0 ≤ c) (h1 : c + (nmL nmRound ps : Int) ≤ 1099511627776) :
    Calls Tryz.prog 107 #[v, .int .i64 c] w fun e w' => e = .returned (.int .i64 (c + (nmL nmRound ps : Int))) ∧ roundK.Own w' v (mkL mkRound nmRound c ps) ∧ Out (roundK.fp v ps) w w' := by
  obtain ⟨a, cap, rfl⟩ := h.shape
  have hfph : ∀ k, k ≤ ps.length → roundK.fp (.slice a ps.length cap) (half mkRound nmRound c ps k) = roundK.fp (.slice a ps.length cap) ps := fun k hk => fp_half mkRound_foot _ c ps k
  have HF : Hid (∀ k, k ≤ ps.length → roundK.fp (.slice a ps.length cap) (half mkRound nmRound c ps k) = roundK.fp (.slice a ps.length cap) ps) := hfph
  have HA : Hid (roundK.Own w (.slice a ps.length cap) (half mkRound nmRound c ps 0)) := by rw [half_zero]; exact h
  clear hfph h
  go_enter Tryz.func107, Tryz.ntmps107
  go_wp2
  go_loopw [1, 5] (fun j i wr => ∃ k : Nat, k ≤ ps.length ∧ j = .int .i64 (c + (nmL nmRound (ps.take k) : Int)) ∧ i = .int .i64 k ∧ Hid (roundK.Own wr (.slice a ps.length cap) (half mkRound nmRound c ps k)) ∧ Hid (Out (roundK.fp (.slice a ps.length cap) ps) w wr)) (fun _ i _ => ps.length - (intOf i).toNat)
  case atStart => exact ⟨0, Nat.zero_le _, by simp [nmL], rfl, HA, Out.refl _ _⟩
  case round =>
    clear HA
    obtain ⟨k, hk, rfl, rfl, HO, HU⟩ := hrel
    by_cases hlt : k < ps.length
    · have hhl : (half mkRound nmRound c ps k).length = ps.length := half_length _ _ _ _ _ hk
      have hO := HO.out
      obtain ⟨g, rfl⟩ := hO.blkOf (by omega)
      have hndk : (roundK.fp (.slice (some ⟨g, 0, none⟩) ps.length cap) (half mkRound nmRound c ps k)).Nodup := by rw [HF.out k hk]; exact hnd
      have hsub : Hid (∀ x ∈ roundK.foot ps[k], x ∈ roundK.fp (.slice (some ⟨g, 0, none⟩) ps.length cap) ps) := fun x hx => by
        simp only [Kind.fp, List.mem_append, List.mem_flatMap]
        exact Or.inr ⟨_, List.getElem_mem hlt, hx⟩
      have hg0 : Hid (∀ x ∈ [g], x ∈ roundK.fp (.slice (some ⟨g, 0, none⟩) ps.length cap) ps) := fun x hx => by
        simp only [List.mem_singleton] at hx
        subst hx
        simp [Kind.fp, blk, Value.ownBlock]
      have hltH : k < (half mkRound nmRound c ps k).length := by omega
      have hget := half_get mkRound nmRound c ps k hlt
      have hOk : roundK.Own wr (.slice (some ⟨g, 0, none⟩) ps.length cap) ((half mkRound nmRound c ps k).set k ps[k]) := by
        have e : (half mkRound nmRound c ps k).set k ps[k] = half mkRound nmRound c ps k := by
          rw [← hget, List.set_getElem_self]
        rw [e]; exact hO
      have hnk : (roundK.fp (.slice (some ⟨g, 0, none⟩) ps.length cap) ((half mkRound nmRound c ps k).set k ps[k])).Nodup := by
        have e : (half mkRound nmRound c ps k).set k ps[k] = half mkRound nmRound c ps k := by
          rw [← hget, List.set_getElem_self]
        rw [e]; exact hndk
      clear hget hO hndk
      have hset := half_set mkRound nmRound c ps k hlt
      have hsu := nmL_succ nmRound ps k hlt
      have hle := nmL_le nmRound ps (k + 1)
      have hzl := nm_le RoundQ.n ps k hlt
      have HSU : Hid ((nmL nmRound (ps.take (k + 1)) : Int) = (nmL nmRound (ps.take k) : Int) + (nmRound ps[k] : Int)) := show _ = _ by omega
      have hyb : (nmL nmRound (ps.take k) : Int) + (nmRound ps[k] : Int) ≤ nmL nmRound ps := by omega
      have HSET : Hid ((half mkRound nmRound c ps k).set k (mkRound (c + (nmL nmRound (ps.take k) : Int)) ps[k]) = half mkRound nmRound c ps (k + 1)) := hset
      clear hset hsu hle HO
      generalize half mkRound nmRound c ps k = hs at *
      generalize hpk : ps[k] = p at *
      clear hpk
      obtain ⟨z_vr, d_rep, z_vp, d_pro⟩ := p
      have hkL : k < hs.length := hltH
      dsimp only [nmRound, RoundQ.n] at HSU hyb hzl
      generalize hy : (nmL nmRound (ps.take k) : Int) = y at *
      have hy0 : 0 ≤ y := by omega
      clear hy
      obtain ⟨c0, f0⟩ := hOk.cell' hkL 0 (z_vr) rfl
      have c0 : wr.cell? ⟨g, k * 2, none⟩ = _ := c0
      have f0 : wr.frozen? ⟨g, k * 2, none⟩ = _ := f0
      have he0 := hOk.elem' hkL
      have hl0 : intK.Own wr z_vr d_rep := he0.1
      have hmk := markInts_k z_vr d_rep (c + y) _ hl0  (by omega) (by omega) (by omega)
      obtain ⟨sa0, sc0, hsh0⟩ := hl0.shape
      subst hsh0

      clear he0 hl0
      go_wp2_with fail
      refine hmk.mono ?_
      rintro e w20 ⟨rfl, hm0, ho0⟩
      clear hmk
      obtain ⟨hOn, hnn⟩ := hOk.turn' hnk hkL (⟨.slice sa0 d_rep.length sc0, mkInts (c + y) d_rep, z_vp, d_pro⟩ : RoundQ) ho0 (fun x hx => List.mem_append_left _ hx) rfl (by simp only [show ∀ p : RoundQ, roundK.foot p = intK.fp p.vr p.rep ++ intK.fp p.vp p.pro from fun _ => rfl, mkInts_fp]) (⟨hm0, (hOk.elem' hkL).2.out ho0 (nd_right (foot_nodup hnk hkL))⟩)
      have HU : Hid (Out (roundK.fp (.slice (some ⟨g, 0, none⟩) ps.length cap) ps) w w20) := HU.out.trans (ho0.mono (fun x hx => hsub.out x (show x ∈ roundK.foot _ from (fun x hx => List.mem_append_left _ hx) x hx)))
      have hOk := hOn
      have hnk := hnn
      obtain ⟨c1, f1⟩ := hOk.cell' hkL 1 (z_vp) rfl
      have c1 : w20.cell? ⟨g, k * 2 + 1, none⟩ = _ := c1
      have f1 : w20.frozen? ⟨g, k * 2 + 1, none⟩ = _ := f1
      have he1 := hOk.elem' hkL
      have hl1 : intK.Own w20 z_vp d_pro := he1.2
      have hmk := markInts_k z_vp d_pro (c + y + ((d_rep.length : Nat) : Int)) _ hl1  (by omega) (by omega) (by omega)
      obtain ⟨sa1, sc1, hsh1⟩ := hl1.shape
      subst hsh1

      clear he1 hl1
      go_wp2_with fail
      refine hmk.mono ?_
      rintro e w21 ⟨rfl, hm1, ho1⟩
      clear hmk
      obtain ⟨hOn, hnn⟩ := hOk.turn' hnk hkL (⟨.slice sa0 d_rep.length sc0, mkInts (c + y) d_rep, .slice sa1 d_pro.length sc1, mkInts (c + y + ((d_rep.length : Nat) : Int)) d_pro⟩ : RoundQ) ho1 (fun x hx => List.mem_append_right _ (hx)) rfl (by simp only [show ∀ p : RoundQ, roundK.foot p = intK.fp p.vr p.rep ++ intK.fp p.vp p.pro from fun _ => rfl, mkInts_fp]) (⟨(hOk.elem' hkL).1.out ho1 (nd_left (foot_nodup hnk hkL)), hm1⟩)
      have HU : Hid (Out (roundK.fp (.slice (some ⟨g, 0, none⟩) ps.length cap) ps) w w21) := HU.out.trans (ho1.mono (fun x hx => hsub.out x (show x ∈ roundK.foot _ from (fun x hx => List.mem_append_right _ (hx)) x hx)))
      have hOk := hOn
      have hnk := hnn
      have R : Hid (roundK.Own w21 (.slice (some ⟨g, 0, none⟩) ps.length cap) (half mkRound nmRound c ps (k + 1))) := by rw [← HSET.out]; exact hOk
      clear hOk hnk HSET hsub hg0
      go_wp2
      go_roundw
      case rel => exact ⟨k + 1, by omega, by rw [HSU.out]; congr 1; omega, by go_num, R.out, HU.out⟩
      case measure => simp [intOf]; omega
    · have hkl : k = ps.length := by omega
      subst hkl
      have hO := HO.out
      rw [half_all] at hO
      rw [List.take_length]
      clear HF HO
      go_wp2
      go_ret
      exact ⟨rfl, hO, HU.out⟩

end Go.Proofs.YtmgkjcobdmdjmaaGreatDoor
namespace Go.Proofs.YtmgkjcobdmdjmaaGreatDoor
open Go.RowKit
open Go.BigFrame
set_option linter.unusedVariables false
set_option maxRecDepth 100000
set_option linter.unusedSimpArgs false
set_option maxHeartbeats 2000000 in
theorem heldRounds_k (v : Value) (ps : List RoundQ) (c : Int) (w : World) (h : roundK.At w v (mkL mkRound nmRound c ps)) (hl : (ps.length + nmL RoundQ.n ps) ≤ 1048576) (h0 : 0 ≤ c) (h1 : c + (nmL nmRound ps : Int) ≤ 1099511627776) :
    Calls Tryz.prog 164 #[v, .int .i64 c] w fun e w' => e = .returned (.int .i64 (c + (nmL nmRound ps : Int))) ∧ Below w.heap.size w w' := by
  obtain ⟨a, cap, rfl⟩ := h.shape
  have hmk := mkL_length mkRound nmRound c ps
  rw [hmk] at h ⊢
  have HM : Hid ((mkL mkRound nmRound c ps).length = ps.length) := hmk
  clear hmk
  go_enter Tryz.func164, Tryz.ntmps164
  go_wp2
  go_loopw [1, 5] (fun j i wr => ∃ k : Nat, k ≤ ps.length ∧ j = .int .i64 (c + (nmL nmRound (ps.take k) : Int)) ∧ i = .int .i64 k ∧ Below w.heap.size w wr) (fun _ i _ => ps.length - (intOf i).toNat)
  case atStart => exact ⟨0, Nat.zero_le _, by simp [nmL], rfl, Below.refl _ _⟩
  case round =>
    obtain ⟨k, hk, rfl, rfl, hb⟩ := hrel
    by_cases hlt : k < ps.length
    · have hltm : k < (mkL mkRound nmRound c ps).length := by have := HM.out; omega
      obtain ⟨b, off, rfl, hbs, hc, hrd⟩ := (h.below hb).cell (by decide) k hltm
      rw [mkL_get mkRound nmRound c ps k hlt] at hc hrd
      have hsu := nmL_succ nmRound ps k hlt
      have hle := nmL_le nmRound ps (k + 1)
      have hzl := nm_le RoundQ.n ps k hlt
      have HSU : Hid ((nmL nmRound (ps.take (k + 1)) : Int) = (nmL nmRound (ps.take k) : Int) + (nmRound ps[k] : Int)) := show _ = _ by omega
      have hyb : (nmL nmRound (ps.take k) : Int) + (nmRound ps[k] : Int) ≤ nmL nmRound ps := by omega
      clear hsu hle h
      generalize hpk : ps[k] = p at *
      clear hpk
      obtain ⟨z_vr, d_rep, z_vp, d_pro⟩ := p
      dsimp only [nmRound, RoundQ.n] at HSU hyb hzl
      generalize hy : (nmL nmRound (ps.take k) : Int) = y at *
      have hy0 : 0 ≤ y := by omega
      clear hy
      have hc' : ∀ j x, (roundK.cells (mkRound (c + y) (⟨z_vr, d_rep, z_vp, d_pro⟩ : RoundQ)))[j]? = some x → wr.cell? ⟨b, off + k * 2 + j, none⟩ = some x := hc
      clear hc
      have c0 := hc' 0 (z_vr) rfl
      have c1 := hc' 1 (z_vp) rfl
      obtain ⟨r0, r1⟩ : intK.At wr z_vr (mkInts (c + y) d_rep) ∧ intK.At wr z_vp (mkInts (c + y + ((d_rep.length : Nat) : Int)) d_pro) := hrd
      have hh0 := fun w h => heldInts_k z_vr d_rep (c + y) w h (by omega) (by omega) (by omega)
      have hh1 := fun w h => heldInts_k z_vp d_pro (c + y + ((d_rep.length : Nat) : Int)) w h (by omega) (by omega) (by omega)
      obtain ⟨sa0, sc0, hsh0⟩ := r0.shape
      subst hsh0
      obtain ⟨sa1, sc1, hsh1⟩ := r1.shape
      subst hsh1
      rw [Nat.add_zero] at c0
      clear hc'
      have nn0 : ¬ (c + y + ((d_rep.length : Nat) : Int) < 0) := by omega
      go_wp2_with fail
      refine (hh0 wr r0).mono ?_
      rintro e w0 ⟨rfl, hb0⟩
      replace hb := hb.trans (hb0.mono hb.size)
      replace c1 := (hb0.cell (p := ⟨b, _, none⟩) (World.block_lt_of_cell? _ _ c1)).trans c1
      replace r1 := r1.below hb0
      clear hb0 hh0 c0
      have nn1 : ¬ (c + y + ((d_rep.length : Nat) : Int) + ((d_pro.length : Nat) : Int) < 0) := by omega
      go_wp2_with fail
      refine (hh1 w0 r1).mono ?_
      rintro e w1 ⟨rfl, hb1⟩
      replace hb := hb.trans (hb1.mono hb.size)
      clear hb1 hh1 c1
      go_wp2
      go_roundw
      case rel => exact ⟨k + 1, by omega, by rw [HSU.out]; congr 1; omega, by go_num, hb⟩
      case measure => simp [intOf]; omega
    · have hkl : k = ps.length := by omega
      subst hkl
      rw [List.take_length]
      go_wp2
      go_ret
      exact ⟨rfl, hb⟩

end Go.Proofs.YtmgkjcobdmdjmaaGreatDoor
namespace Go.Proofs.YtmgkjcobdmdjmaaGreatDoor
open Go.RowKit
set_option linter.unusedVariables false
set_option maxRecDepth 100000
set_option linter.unusedSimpArgs false
end Go.Proofs.YtmgkjcobdmdjmaaGreatDoor
namespace Go.Proofs.YtmgkjcobdmdjmaaGreatDoor
open Go.RowKit
open Go.BigFrame
set_option linter.unusedVariables false
set_option maxRecDepth 100000
set_option linter.unusedSimpArgs false
def mkInst (c : Int) (p : InstQ) : InstQ := ⟨p.has, p.vb, mkL mkTxn nmTxn c p.batch, p.vr, mkL mkRound nmRound (c + (nmL nmTxn p.batch : Int)) p.rounds, p.vd, mkInts (c + (nmL nmTxn p.batch : Int) + (nmL nmRound p.rounds : Int)) p.dec⟩

def nmInst (p : InstQ) : Nat := nmL nmTxn p.batch + nmL nmRound p.rounds + p.dec.length

theorem nmTxn_le (ps : List TxnQ) : nmL nmTxn ps ≤ 3 * (ps.length + nmL TxnQ.n ps) := by
  induction ps with
  | nil => simp [nmL]
  | cons p r ih =>
    simp only [nmL, List.map_cons, List.sum_cons, List.length_cons] at ih ⊢
    simp only [nmTxn, TxnQ.n] at ih ⊢
    omega

theorem nmRound_le (ps : List RoundQ) : nmL nmRound ps ≤ nmL RoundQ.n ps := by
  induction ps with
  | nil => simp [nmL]
  | cons p r ih =>
    simp only [nmL, List.map_cons, List.sum_cons] at ih ⊢
    simp only [nmRound, RoundQ.n] at ih ⊢
    omega

theorem nmInst_le (p : InstQ) : nmInst p ≤ 3 * p.n := by
  have h1 := nmTxn_le p.batch
  have h2 := nmRound_le p.rounds
  unfold nmInst InstQ.n
  omega

theorem inst_n {q p : InstQ} (h : q.e = p.e) : q.n = p.n := by
  simp only [InstQ.e, InstE.mk.injEq] at h
  obtain ⟨_, h1, h2, h3⟩ := h
  have t1 : q.batch.length = p.batch.length := by simpa using congrArg List.length h1
  have t2 : nmL TxnQ.n q.batch = nmL TxnQ.n p.batch := by
    have := congrArg (fun l => nmL (fun d : TxnD => d.acts.length) l) h1
    simp only [nmL, List.map_map] at this
    exact this
  have t3 : q.rounds.length = p.rounds.length := by simpa using congrArg List.length h2
  have t4 : nmL RoundQ.n q.rounds = nmL RoundQ.n p.rounds := by
    have := congrArg (fun l => nmL (fun d : RoundE => d.rep.length + d.pro.length) l) h2
    simp only [nmL, List.map_map] at this
    exact this
  unfold InstQ.n
  rw [t1, t2, t3, t4, h3]

set_option maxHeartbeats 2000000 in
theorem markInstance_k (p : InstQ) (c : Int) (w : World) (h : instK.own w p) (hnd : (instK.foot p).Nodup) (hl : InstQ.n p ≤ 1048576) (h0 : 0 ≤ c) (h1 : c ≤ 1000000000) :
    Calls Tryz.prog 54 #[.agg #[.bool p.has, p.vb, p.vr, p.vd], .int .i64 c] w fun e w' => e = .returned (.int .i64 (c + (nmInst p : Int))) ∧ instK.own w' (mkInst c p) ∧ Out (instK.foot p) w w' := by
  have hm := nmInst_le p
  obtain ⟨has, vb, batch, vr, rounds, vd, dec⟩ := p
  obtain ⟨o1, o2, o3⟩ : txnK.Own w vb batch ∧ roundK.Own w vr rounds ∧ intK.Own w vd dec := h
  obtain ⟨n1, n23, d1⟩ := List.nodup_append.1 hnd
  obtain ⟨n2, n3, d2⟩ := List.nodup_append.1 n23
  have d12 : ∀ k ∈ roundK.fp vr rounds, k ∉ txnK.fp vb batch := fun k hk hk2 => d1 k hk2 k (List.mem_append_left _ hk) rfl
  have d13 : ∀ k ∈ intK.fp vd dec, k ∉ txnK.fp vb batch := fun k hk hk2 => d1 k hk2 k (List.mem_append_right _ hk) rfl
  have d21 : ∀ k ∈ txnK.fp vb batch, k ∉ roundK.fp vr rounds := fun k hk hk2 => d1 k hk k (List.mem_append_left _ hk2) rfl
  have d23 : ∀ k ∈ intK.fp vd dec, k ∉ roundK.fp vr rounds := fun k hk hk2 => d2 k hk2 k hk rfl
  have d31 : ∀ k ∈ txnK.fp vb batch, k ∉ intK.fp vd dec := fun k hk hk2 => d1 k hk k (List.mem_append_right _ hk2) rfl
  have d32 : ∀ k ∈ roundK.fp vr rounds, k ∉ intK.fp vd dec := fun k hk hk2 => d2 k hk k hk2 rfl
  have n1 : (txnK.fp vb batch).Nodup := n1
  have n2 : (roundK.fp vr rounds).Nodup := n2
  clear hnd d1 d2 n23 n3
  dsimp only [InstQ.n, nmInst] at hl hm
  have hF : Hid (∀ {w w' : World}, Out (txnK.fp vb batch) w w' → Out (instK.foot ⟨has, vb, batch, vr, rounds, vd, dec⟩) w w') := fun h => h.mono (fun k hk => List.mem_append_left _ hk)
  have hF2 : Hid (∀ {w w' : World}, Out (roundK.fp vr rounds) w w' → Out (instK.foot ⟨has, vb, batch, vr, rounds, vd, dec⟩) w w') := fun h => h.mono (fun k hk => List.mem_append_right _ (List.mem_append_left _ hk))
  have hF3 : Hid (∀ {w w' : World}, Out (intK.fp vd dec) w w' → Out (instK.foot ⟨has, vb, batch, vr, rounds, vd, dec⟩) w w') := fun h => h.mono (fun k hk => List.mem_append_right _ (List.mem_append_right _ hk))
  have hm1 := fun w h => markTxns_k vb batch c w h n1 (by omega) h0 (by omega)
  have hm2 := fun w h => markRounds_k vr rounds (c + (nmL nmTxn batch : Int)) w h n2 (by omega) (by omega) (by omega)
  have hm3 := fun w h => markInts_k vd dec (c + (nmL nmTxn batch : Int) + (nmL nmRound rounds : Int)) w h (by omega) (by omega) (by omega)
  have e1 : txnK.fp vb (mkL mkTxn nmTxn c batch) = txnK.fp vb batch := fp_mkL mkTxn_foot _ _ _
  have e2 : ∀ c, roundK.fp vr (mkL mkRound nmRound c rounds) = roundK.fp vr rounds := fun c => fp_mkL mkRound_foot _ _ _
  obtain ⟨a1, k1, rfl⟩ := o1.shape
  obtain ⟨a2, k2, rfl⟩ := o2.shape
  obtain ⟨a3, k3, rfl⟩ := o3.shape
  have B := Blk.new w 28 #[.bool has, .slice a1 batch.length k1, .slice a2 rounds.length k2, .slice a3 dec.length k3]
  have hB : Below w.heap.size w (w.alloc (.cells #[.bool has, .slice a1 batch.length k1, .slice a2 rounds.length k2, .slice a3 dec.length k3] 28)) := by go_grown
  have hlt1 := o1.lt
  have hlt2 := o2.lt
  have hlt3 := o3.lt
  have HB : Hid (w.heap.size ∉ txnK.fp (.slice a1 batch.length k1) batch ∧ w.heap.size ∉ roundK.fp (.slice a2 rounds.length k2) rounds) := And.intro (fun e => Nat.lt_irrefl _ (hlt1 _ e)) (fun e => Nat.lt_irrefl _ (hlt2 _ e))
  clear hlt1 hlt2 hlt3
  replace o1 := o1.below hB
  replace o2 := o2.below hB
  replace o3 := o3.below hB
  have HU : Hid (Out (instK.foot ⟨has, .slice a1 batch.length k1, batch, .slice a2 rounds.length k2, rounds, .slice a3 dec.length k3, dec⟩) w _) := Out.of_below hB
  clear hB
  go_enter Tryz.func54, Tryz.ntmps54
  go_wp2_with fail
  generalize w.alloc (.cells #[.bool has, .slice a1 batch.length k1, .slice a2 rounds.length k2, .slice a3 dec.length k3] 28) = W at *
  refine (hm1 W o1).mono ?_
  rintro e w1 ⟨rfl, O1, u1⟩
  replace o2 := o2.out u1 d12
  replace o3 := o3.out u1 d13
  replace B : Blk w1 _ _ _ := (u1.block _ B.lt HB.out.1).trans B
  have HU1 : Hid (Out (instK.foot ⟨has, .slice a1 batch.length k1, batch, .slice a2 rounds.length k2, rounds, .slice a3 dec.length k3, dec⟩) w w1) := HU.out.trans (hF.out u1)
  clear hm1 o1 HU u1
  have p2 := B.cell 2 _ rfl
  generalize hC1 : (nmL nmTxn batch : Int) = C1 at *
  go_wp2_with fail
  clear p2
  refine (hm2 w1 o2).mono ?_
  rintro e w2 ⟨rfl, O2, u2⟩
  replace O1 := O1.out u2 (by rw [e1]; exact d21)
  replace o3 := o3.out u2 d23
  replace B : Blk w2 _ _ _ := (u2.block _ B.lt HB.out.2).trans B
  have HU2 : Hid (Out (instK.foot ⟨has, .slice a1 batch.length k1, batch, .slice a2 rounds.length k2, rounds, .slice a3 dec.length k3, dec⟩) w w2) := HU1.out.trans (hF2.out u2)
  clear hm2 o2 HU1 u2
  have p3 := B.cell 3 _ rfl
  generalize hC2 : (nmL nmRound rounds : Int) = C2 at *
  go_wp2_with fail
  clear p3
  refine (hm3 w2 o3).mono ?_
  rintro e w3 ⟨rfl, O3, u3⟩
  replace O1 := O1.out u3 (by rw [e1]; exact d31)
  replace O2 := O2.out u3 (by rw [e2]; exact d32)
  have HU3 : Hid (Out (instK.foot ⟨has, .slice a1 batch.length k1, batch, .slice a2 rounds.length k2, rounds, .slice a3 dec.length k3, dec⟩) w w3) := HU2.out.trans (hF3.out u3)
  have R : Hid (instK.own w3 (mkInst c ⟨has, .slice a1 batch.length k1, batch, .slice a2 rounds.length k2, rounds, .slice a3 dec.length k3, dec⟩)) := by
    refine ⟨O1, ?_, ?_⟩
    · dsimp only [mkInst]
      rw [hC1]
      exact O2
    · dsimp only [mkInst]
      rw [hC1, hC2]
      exact O3
  clear hm3 o3 HU2 u3 B O1 O2 O3 HB hF hF2 hF3 e1 e2
  go_wp2
  go_ret
  refine ⟨?_, R.out, HU3.out⟩
  dsimp only [nmInst]
  have e : c + C1 + C2 + (dec.length : Int) = c + ((nmL nmTxn batch + nmL nmRound rounds + dec.length : Nat) : Int) := by omega
  rw [e]
  rfl

end Go.Proofs.YtmgkjcobdmdjmaaGreatDoor
namespace Go.Proofs.YtmgkjcobdmdjmaaGreatDoor
open Go.RowKit
open Go.BigFrame
set_option linter.unusedVariables false
set_option maxRecDepth 100000
set_option linter.unusedSimpArgs false
theorem txnF_nil (i s q : Int) : txnF i s q [] ≠ 0 := by
  unfold txnF
  split <;> simp

theorem bat_pos {bt : List TxnQ} (h : batF (bt.map TxnQ.e) = 0) : ∀ p ∈ bt, 0 < p.acts.length := by
  intro p hp
  have ha : allF (bt.map TxnQ.e) = 0 := by
    unfold batF at h
    split at h
    · omega
    · split at h
      · assumption
      · exact h
  have hz : ∀ (ds : List TxnD), allF ds = 0 → ∀ d ∈ ds, d.F = 0 := by
    intro ds
    induction ds with
    | nil => intro _ d hd; simp at hd
    | cons x r ih =>
      intro h d hd
      simp only [allF] at h
      by_cases hx : x.F = 0
      · rw [if_pos hx] at h
        rcases List.mem_cons.1 hd with rfl | hd
        · exact hx
        · exact ih h d hd
      · rw [if_neg hx] at h
        exact absurd h hx
  have hf := hz _ ha p.e (List.mem_map.2 ⟨p, hp, rfl⟩)
  show 0 < p.acts.length
  have hf' : txnF p.i p.s p.q p.acts = 0 := hf
  rcases Nat.eq_zero_or_pos p.acts.length with h0 | h0
  · exfalso
    have : p.acts = [] := List.eq_nil_of_length_eq_zero h0
    rw [this] at hf'
    exact txnF_nil _ _ _ hf'
  · exact h0

end Go.Proofs.YtmgkjcobdmdjmaaGreatDoor
namespace Go.Proofs.YtmgkjcobdmdjmaaGreatDoor
open Go.RowKit
set_option linter.unusedVariables false
set_option maxRecDepth 100000
set_option linter.unusedSimpArgs false
section
variable {P : Program} {ops : Array Oper} {Q : Exit → Act → World → Prop} {S : World → Prop} {st : Nat}
/-- Whatever order is picked from here on, and behind every operation S holds, or st has come up. -/
def wpAnyX (P : Program) (ops : Array Oper) (Q : Exit → Act → World → Prop) (S : World → Prop) (st : Nat) : Nat → Array Bool → Act → World → Prop
  | 0, listed, a, w => Region.ready .any ops listed = [] ∧ Q .normal a w
  | fuel + 1, listed, a, w =>
    (Region.ready .any ops listed = [] → Q .normal a w) ∧
    ∀ i ∈ Region.ready .any ops listed, wpOp P ops Q i (fun a' w' => ((listed.setIfInBounds i true).getD st true = true ∨ S w') ∧ wpAnyX P ops Q S st fuel (listed.setIfInBounds i true) a' w') a w

theorem wpAny_of_X : ∀ (fuel : Nat) (listed : Array Bool) (a : Act) (w : World), wpAnyX P ops Q S st fuel listed a w → wpAny P .any ops Q fuel listed a w
  | 0, _, _, _, h => h
  | fuel + 1, _, _, _, h => ⟨h.1, fun i hi => wpOp_mono (fun a' w' h' => wpAny_of_X fuel _ a' w' h'.2) (h.2 i hi)⟩

/-- As OrdersHeld's 'wpAnyH_first': besides, st has not come up and waits for i. -/
theorem wpAnyX_first {i : Nat} {oi : Oper} {v : Value} (hi : ops[i]? = some oi) (hsel : ∀ (j : Nat) (o : Oper) cs b, ops[j]? = some o → o.op ≠ .select cs b)
    (hQ : ∀ c a w, Q (.panic c) (a.put oi.dst v) w → Q (.panic c) a w) (hist : i ≠ st) (hst : ∀ o, ops[st]? = some o → ∃ e ∈ o.after, Region.binds .any e = true ∧ e.on = i) :
    ∀ (fuel : Nat) (listed : Array Bool) (a : Act) (w : World),
      (∀ j oj, ops[j]? = some oj → j ≠ i → listed.getD j true = false → (∀ e ∈ oj.after, Region.binds .any e = true → e.on ≠ i) → oi.apart ops oj = true) →
      i ∈ Region.ready .any ops listed → YieldsIf P ops S oi v a → S w → listed.getD st true = false →
      wpAnyX P ops Q S st fuel (listed.setIfInBounds i true) (a.put oi.dst v) w → wpAnyX P ops Q S st (fuel + 1) listed a w := by
  intro fuel
  induction fuel with
  | zero =>
    intro listed a w _ hr hy hS hl H
    refine ⟨fun h => (by rw [h] at hr; cases hr), fun j hj => ?_⟩
    by_cases hji : j = i
    · subst hji; exact hy.wpOp hi hS ⟨Or.inr hS, H⟩
    · have := ready_mono hj hji
      rw [H.1] at this
      cases this
  | succ fuel ih =>
    intro listed a w hfree hr hy hS hl H
    refine ⟨fun h => (by rw [h] at hr; cases hr), fun j hj => ?_⟩
    by_cases hji : j = i
    · subst hji; exact hy.wpOp hi hS ⟨Or.inr hS, H⟩
    · have h1 := H.2 j (ready_mono hj hji)
      obtain ⟨hjun, oj, hoj, hall⟩ := mem_ready.1 hj
      have hnot : ∀ e ∈ oj.after, Region.binds .any e = true → e.on ≠ i := fun e he hb heq => by
        have h1 := hall e he hb
        have h0 := (mem_ready.1 hr).1
        rw [heq] at h1
        rcases Nat.lt_or_ge i listed.size with h' | h'
        · simp [h'] at h0 h1; rw [h0] at h1; cases h1
        · simp [Array.getElem?_eq_none h'] at h1
      have hjst : j ≠ st := by
        intro e
        subst e
        obtain ⟨e, he, hb, hon⟩ := hst oj hoj
        exact hnot e he hb hon
      have h2 := wpOp_putIf hoj (hfree j oj hoj hji hjun hnot) (fun cs b => hsel i oi cs b hi) (fun cs b => hsel j oj cs b hoj) hQ hy h1
      have hfree' : ∀ k ok, ops[k]? = some ok → k ≠ i → (listed.setIfInBounds j true).getD k true = false →
          (∀ e ∈ ok.after, Region.binds .any e = true → e.on ≠ i) → oi.apart ops ok = true := fun k ok hk hki hun hno => by
        refine hfree k ok hk hki ?_ hno
        by_cases hjk : j = k
        · subst hjk; exact hjun
        · rw [getD_set_ne true hjk] at hun; exact hun
      have hl' : (listed.setIfInBounds j true).getD st true = false := by rw [getD_set_ne true hjst]; exact hl
      refine wpOp_mono (fun a' w' h3 => ?_) h2
      have hS' : S w' := by
        rcases h3.2.1 with h4 | h4
        · rw [getD_set_ne true hjst, getD_set_ne true hist, hl] at h4
          cases h4
        · exact h4
      refine ⟨Or.inr hS', ih (listed.setIfInBounds j true) a' w' hfree' (ready_mono hr (Ne.symm hji)) h3.1 hS' hl' ?_⟩
      rw [Array.setIfInBounds_comm _ _ hji]
      exact h3.2.2

/-- A post whose word on a panic does not look at the temporaries. -/
def PanTo (Q : Exit → Act → World → Prop) (R : List PanicEntry → World → Prop) : Exit → Act → World → Prop
  | .panic c, a, w => a.defers = [] ∧ R c w
  | e, a, w => Q e a w

theorem put_defers_eq (a : Act) (d : Option Tmp) (v : Value) : (a.put d v).defers = a.defers := by cases d <;> rfl

theorem PanTo.put {R : List PanicEntry → World → Prop} : ∀ c (a : Act) (d : Option Tmp) (v : Value) w, PanTo Q R (.panic c) (a.put d v) w → PanTo Q R (.panic c) a w := fun c a d v w h => ⟨(put_defers_eq a d v) ▸ h.1, h.2⟩

variable {R : List PanicEntry → World → Prop}
theorem PanTo.imp (hR : ∀ c a w, a.defers = [] → R c w → Q (.panic c) a w) : ∀ (e : Exit) (a : Act) (w : World), PanTo Q R e a w → Q e a w := fun e a w h => by
  cases e <;> first | exact h | exact hR _ _ _ h.1 h.2

theorem beginX {id : Nat} {a : Act} {w : World} (st : Nat) (hm : P.follows .mixedOrders = true) (hR : ∀ c a w, a.defers = [] → R c w → Q (.panic c) a w)
    (h : wpAnyX P ops (PanTo Q R) S st ops.size (Array.replicate ops.size false) a w.drew) : (Code.region id ops true).wp P Q a w :=
  Code.wp_mono (PanTo.imp hR) (wp_region_any hm (wpAny_of_X _ _ _ _ h))

def waitsB (ops : Array Oper) (st i : Nat) : Bool := match ops[st]? with
  | some o => o.after.any (fun e => Region.binds .any e && e.on == i)
  | none => true

theorem waits_of {i : Nat} (h : waitsB ops st i = true) : ∀ o, ops[st]? = some o → ∃ e ∈ o.after, Region.binds .any e = true ∧ e.on = i := by
  intro o ho
  unfold waitsB at h
  rw [ho] at h
  obtain ⟨k, hk, _, _, hb⟩ := Array.any_iff_exists.1 h
  simp only [Bool.and_eq_true, beq_iff_eq] at hb
  exact ⟨o.after[k], Array.getElem_mem hk, hb⟩

def okSegX (ops : Array Oper) (st : Nat) : List Nat → Array Bool → Bool
  | [], _ => true
  | i :: r, l => Region.free .any ops l i && (Region.ready .any ops l).contains i && (i != st) && waitsB ops st i && !(l.getD st true) && okSegX ops st r (l.setIfInBounds i true)

theorem segX_sound (hs : Region.noSelect ops = true) :
    ∀ (idx : List Nat) (os : List Oper) (l : Array Bool) (a : Act) (w : World) (fuel : Nat), idx.map (ops[·]?) = os.map some → os.all (fun o => plainB o.op) = true → okSegX ops st idx l = true → S w →
      wpQuiet P ops S (fun a' => wpAnyX P ops (PanTo Q R) S st fuel (upTo idx l) a' w) os a → wpAnyX P ops (PanTo Q R) S st (fuel + idx.length) l a w := by
  intro idx
  induction idx with
  | nil =>
    intro os l a w fuel hos _ _ _ h
    cases os with
    | nil => exact h
    | cons o os => simp at hos
  | cons i r ih =>
    intro os l a w fuel hos hpl hok hS h
    cases os with
    | nil => simp at hos
    | cons o os =>
      simp only [List.map_cons, List.cons.injEq] at hos
      simp only [List.all_cons, Bool.and_eq_true] at hpl
      simp only [okSegX, Bool.and_eq_true, bne_iff_ne, ne_eq, Bool.not_eq_true'] at hok
      obtain ⟨⟨⟨⟨⟨hf, hr⟩, hne⟩, hwt⟩, hl⟩, hok'⟩ := hok
      simp only [wpQuiet] at h
      by_cases hw : Region.wanted o (yielded ops a.tmps) = true
      · rw [if_pos hw] at h
        obtain ⟨v, hv, hk⟩ := h
        refine wpAnyX_first (i := i) (oi := o) (v := v) hos.1 (Region.noSelect_spec hs) (fun c a w h => PanTo.put c a _ _ w h) hne (waits_of hwt) _ l a w (Region.free_spec hos.1 hf) (by simpa using hr) (Or.inl ⟨hw, fun u hu => ?_⟩) hS hl (ih os _ _ w fuel hos.2 hpl.2 hok' hS hk)
        have hq := hv u hu
        unfold Oper.quietAt at hq
        cases hrun : (execOp a.eval o).run P u with
        | ok n u' =>
          obtain ⟨x, rfl⟩ := plain_value hpl.1 hrun
          rw [hrun] at hq
          obtain ⟨e1, e2⟩ := hq
          rw [e1, e2]
        | halt x u' =>
          rw [hrun] at hq
          exact hq.elim
      · rw [if_neg hw] at h
        have hw' : Region.wanted o (yielded ops a.tmps) = false := by simpa using hw
        exact wpAnyX_first (i := i) (oi := o) (v := undef) hos.1 (Region.noSelect_spec hs) (fun c a w h => PanTo.put c a _ _ w h) hne (waits_of hwt) _ l a w (Region.free_spec hos.1 hf) (by simpa using hr) (Or.inr ⟨hw', rfl⟩) hS hl (ih os _ _ w fuel hos.2 hpl.2 hok' hS h)

theorem segX (rs : List (Nat × Nat)) (fuel : Nat) {F : Nat} {l : Array Bool} {a : Act} {w : World} (hF : F = fuel + (idxR rs).length) (hs : Region.noSelect ops = true) (hm : (idxR rs).map (ops[·]?) = (pickR ops.toList rs).map some)
    (hp : (pickR ops.toList rs).all (fun o => plainB o.op) = true) (hok : okSegX ops st (idxR rs) l = true) (hS : S w)
    (h : wpQuiet P ops S (fun a' => wpAnyX P ops (PanTo Q R) S st fuel (upTo (idxR rs) l) a' w) (pickR ops.toList rs) a) : wpAnyX P ops (PanTo Q R) S st F l a w := by
  subst hF
  exact segX_sound hs (idxR rs) _ l a w fuel hm hp hok hS h

/-- A call that alone may come up: it returns, or it panics. -/
theorem callX (i : Nat) (d : Option Tmp) (f : Nat) (args : Array Value) (fuel : Nat) {F : Nat} {l : Array Bool} {a : Act} {w : World} (hF : F = fuel + 1)
    (hd : (ops[i]?).map (·.dst) = some d) (hr : Region.ready .any ops l = [i]) (hw : (ops[i]?).map (fun o => Region.wanted o (yielded ops a.tmps)) = some true)
    (hrun : (ops[i]?).map (fun o => (execOp a.eval o).run P w) = some (.ok (.enter f args) w))
    (hdf : a.defers = []) (hc : Calls P f args w (fun e w' => (∃ v, e = .returned v ∧ S w' ∧ wpAnyX P ops (PanTo Q R) S st fuel (upTo [i] l) (a.put d v) w') ∨ ∃ c, e = .panicked c ∧ R c w')) : wpAnyX P ops (PanTo Q R) S st F l a w := by
  subst hF
  cases ho : ops[i]? with
  | none => rw [ho] at hd; simp at hd
  | some o =>
    rw [ho] at hd hw hrun
    simp only [Option.map_some, Option.some.injEq] at hd hw hrun
    subst hd
    refine ⟨fun h0 => (by rw [hr] at h0; cases h0), fun j hj => ?_⟩
    rw [hr] at hj
    simp only [List.mem_singleton] at hj
    subst hj
    unfold wpOp
    simp only [ho, hw, if_true]
    refine .inl ?_
    unfold Oper.wp
    rw [hrun]
    simp only [Oper.upon]
    refine hc.mono fun e w' he => ?_
    rcases he with ⟨v, rfl, h1, h2⟩ | ⟨c, rfl, h1⟩
    · exact ⟨Or.inr h1, h2⟩
    · exact ⟨hdf, h1⟩

def ThenX (Q : Exit → Act → World → Prop) (R : List PanicEntry → World → Prop) (K : Act → World → Prop) : Exit → Act → World → Prop
  | .normal, a, w => K a w
  | e, a, w => PanTo Q R e a w

theorem ThenX.to {K : Act → World → Prop} {a : Act} {w : World} (h : K a w) : ThenX Q R K .normal a w := h

theorem oneX (i : Nat) (o : Oper) (fuel : Nat) {F : Nat} {l : Array Bool} {a : Act} {w : World} (hF : F = fuel + 1) (ho : ops[i]? = some o) (hr : Region.ready .any ops l = [i])
    (h : wpList P ops (ThenX Q R (fun a' w' => ((upTo [i] l).getD st true = true ∨ S w') ∧ wpAnyX P ops (PanTo Q R) S st fuel (upTo [i] l) a' w')) [o] a w) : wpAnyX P ops (PanTo Q R) S st F l a w := by
  subst hF
  refine ⟨fun h0 => (by rw [hr] at h0; cases h0), fun j hj => ?_⟩
  rw [hr] at hj
  simp only [List.mem_singleton] at hj
  subst hj
  unfold wpOp
  simp only [ho]
  simp only [wpList] at h
  split at h
  · rename_i hw
    rw [if_pos hw]
    rcases h with h | ⟨h1, h2⟩
    · left
      unfold Oper.wp at h ⊢
      revert h
      generalize (execOp a.eval o).run P w = r
      intro h
      unfold Oper.upon at h ⊢
      split at h
      · exact h
      · exact h
      · exact h
      · refine Calls.mono h fun e w' he => ?_
        cases e <;> exact he
      · exact h
      · exact h
      · exact h
    · exact Or.inr ⟨h1, h2⟩
  · rename_i hw
    rw [if_neg hw]
    exact h

theorem endX {F : Nat} {l : Array Bool} {a : Act} {w : World} (hr : Region.ready .any ops l = []) (h : Q .normal a w) : wpAnyX P ops (PanTo Q R) S st F l a w := by
  cases F with
  | zero => exact ⟨hr, h⟩
  | succ F => exact ⟨fun _ => h, by rw [hr]; simp⟩

end
end Go.Proofs.YtmgkjcobdmdjmaaGreatDoor
namespace Go.Proofs.YtmgkjcobdmdjmaaGreatDoor
open Go.RowKit
open Go.BigFrame
set_option linter.unusedVariables false
set_option maxRecDepth 100000
set_option linter.unusedSimpArgs false
set_option maxHeartbeats 8000000 in
theorem l6Copy_any (p : InstQ) (w : World) (h : instK.rd w p) (hl : p.n ≤ 1048576) (hne : ∀ t ∈ p.batch, 0 < t.acts.length) (hro : ∀ r ∈ p.rounds, 0 < r.rep.length ∧ 0 < r.pro.length) (hd0 : 0 < p.dec.length) :
    Calls Tryz.prog 96 #[.agg #[.bool p.has, p.vb, p.vr, p.vd]] w fun e w' => ∃ q : InstQ, e = .returned (.agg #[.bool q.has, q.vb, q.vr, q.vd]) ∧ q.e = p.e ∧ instK.own w' q ∧ (instK.foot q).Nodup ∧ (∀ k ∈ instK.foot q, w.heap.size ≤ k) ∧ Below w.heap.size w w' := by
  obtain ⟨has, vb, batch, vr, rounds, vd, dec⟩ := p
  obtain ⟨h1, h2, h3⟩ : txnK.At w vb batch ∧ roundK.At w vr rounds ∧ intK.At w vd dec := h
  obtain ⟨ba, bk, rfl⟩ := h1.shape
  obtain ⟨va, vk, rfl⟩ := h2.shape
  obtain ⟨da, dk, rfl⟩ := h3.shape
  dsimp only [InstQ.n] at hl hne hro hd0
  have hc1 := fun w (hT : txnK.At w (.slice ba batch.length bk) batch) => l2CopyAll_any _ batch w hT hne (by omega)
  have hc3 := fun w (hT : intK.At w (.slice da dec.length dk) dec) => l1Ints_any _ dec w hT hd0 (by omega)
  have hB : Below w.heap.size w ((w.alloc (.cells #[.bool has, .slice ba batch.length bk, .slice va rounds.length vk, .slice da dec.length dk] 28)).alloc (.cells #[.bool false, .slice none 0 0, .slice none 0 0, .slice none 0 0] 28)) := by go_grown
  have Bx := Blk.new w 28 #[.bool has, .slice ba batch.length bk, .slice va rounds.length vk, .slice da dec.length dk]
  have hbb : Below (w.alloc (.cells #[.bool has, .slice ba batch.length bk, .slice va rounds.length vk, .slice da dec.length dk] 28)).heap.size (w.alloc (.cells #[.bool has, .slice ba batch.length bk, .slice va rounds.length vk, .slice da dec.length dk] 28)) ((w.alloc (.cells #[.bool has, .slice ba batch.length bk, .slice va rounds.length vk, .slice da dec.length dk] 28)).alloc (.cells #[.bool false, .slice none 0 0, .slice none 0 0, .slice none 0 0] 28)) := by go_grown
  have Rb := Blk.new (w.alloc (.cells #[.bool has, .slice ba batch.length bk, .slice va rounds.length vk, .slice da dec.length dk] 28)) 28 #[.bool false, .slice none 0 0, .slice none 0 0, .slice none 0 0]
  rw [World.size_alloc] at Rb
  replace Bx := Bx.below hbb
  clear hbb
  have hws : w.heap.size + 2 ≤ ((w.alloc (.cells #[.bool has, .slice ba batch.length bk, .slice va rounds.length vk, .slice da dec.length dk] 28)).alloc (.cells #[.bool false, .slice none 0 0, .slice none 0 0, .slice none 0 0] 28)).heap.size := by simp
  go_enter Tryz.func96, Tryz.ntmps96
  go_wp2_with fail
  generalize ((w.alloc (.cells #[.bool has, .slice ba batch.length bk, .slice va rounds.length vk, .slice da dec.length dk] 28)).alloc (.cells #[.bool false, .slice none 0 0, .slice none 0 0, .slice none 0 0] 28)) = W at *
  refine region_vals [some 5, some 6, some 7, some 8, some 9, some 10, some 11, some 12, some 13, some 3] (fun vs w' => ∃ (s1 : Option Addr) (t1 : Nat) (q1 : List TxnQ) (a3 : Option Addr) (c3 g : Nat), vs = [.pointer (some ⟨w.heap.size, 0, none⟩), .bool has, .pointer (some ⟨w.heap.size, 1, none⟩), .slice ba batch.length bk, .slice s1 q1.length t1, .pointer (some ⟨w.heap.size, 3, none⟩), .slice da dec.length dk, .slice a3 dec.length c3, .agg #[.bool has, .slice s1 q1.length t1, .slice none 0 0, .slice a3 dec.length c3], .pointer (some ⟨g, 0, none⟩)] ∧ W.heap.size ≤ g ∧ Blk w' g 28 #[.bool has, .slice s1 q1.length t1, .slice none 0 0, .slice a3 dec.length c3] ∧ q1.map TxnQ.e = batch.map TxnQ.e ∧ txnK.Own w' (.slice s1 q1.length t1) q1 ∧ (txnK.fp (.slice s1 q1.length t1) q1).Nodup ∧ (∀ k ∈ txnK.fp (.slice s1 q1.length t1) q1, W.heap.size ≤ k) ∧ (∀ k ∈ txnK.fp (.slice s1 q1.length t1) q1, k ≠ g) ∧ intK.Own w' (.slice a3 dec.length c3) dec ∧ (∀ k ∈ intK.fp (.slice a3 dec.length c3) dec, W.heap.size ≤ k) ∧ (∀ k ∈ intK.fp (.slice a3 dec.length c3) dec, k ≠ g) ∧ (∀ x ∈ txnK.fp (.slice s1 q1.length t1) q1, ∀ y ∈ intK.fp (.slice a3 dec.length c3) dec, x ≠ y) ∧ Below W.heap.size W w') ?_ ?_
  · have hW : Below W.heap.size W W.drew := (Below.refl _ _).drew
    have hnn : Nonempty (Lat W) := ⟨⟨W, Below.refl _ _⟩⟩
    have p0 := Bx.lat 0 _ rfl
    have p1 := Bx.lat 1 _ rfl
    have p3 := Bx.lat 3 _ rfl
    refine text_begin (S := fun w' => ∃ u : Lat W, w' = u.val) (by kernel_rfl) ?_
    refine seg_range [(0, 4), (5, 2)] 5 (by kernel_rfl) (by kernel_rfl) (by kernel_rfl) (by kernel_rfl) (by kernel_rfl) ⟨⟨_, hW⟩, rfl⟩ ?_
    simp only [pickR, List.toList_toArray, List.flatMap_cons, List.flatMap_nil, List.drop_succ_cons, List.drop_zero, List.take_succ_cons, List.take_zero, List.cons_append, List.nil_append, List.append_nil]
    repeat go_big_quiet_step (fail)
    refine wpQuiet_nil ?_
    clear p0 p1 p3
    generalize W.drew = wd at hW ⊢
    refine two_at 4 9 4 (by kernel_rfl) (by kernel_rfl) ?_ ?_
    · skip
      refine op_call 4 (some 9) 143 #[.slice ba batch.length bk] (by kernel_rfl) (by kernel_rfl) (by kernel_rfl) ?_
      refine (hc1 _ (h1.below (hB.trans (hW.mono hB.size)))).mono ?_
      rintro e x0 ⟨v1, q1, rfl, e1, o1, n1, g1, hb⟩
      obtain ⟨s1, t1, rfl⟩ := o1.shape
      have L1 : ∀ k ∈ txnK.fp (.slice s1 q1.length t1) q1, W.heap.size ≤ k := fun k hk => by have := g1 k hk; have := hW.size; omega
      clear g1
      replace hW := hW.trans (hb.mono hW.size)
      clear hb
      refine ⟨_, rfl, ⟨⟨_, hW⟩, rfl⟩, ?_⟩
      simp only [Act.put, List.getElem_toArray, List.getElem_cons_succ, List.getElem_cons_zero, List.setIfInBounds_toArray, List.set_cons_zero, List.set_cons_succ]
      refine two_at 7 9 3 (by kernel_rfl) (by kernel_rfl) ?_ ?_
      · skip
        refine op_call 7 (some 12) 156 #[.slice da dec.length dk] (by kernel_rfl) (by kernel_rfl) (by kernel_rfl) ?_
        refine (hc3 _ (h3.below (hB.trans (hW.mono hB.size)))).mono ?_
        rintro e x1 ⟨a3, c3, rfl, o3, g3, hb⟩
        have L3 : ∀ k ∈ intK.fp (.slice a3 dec.length c3) dec, W.heap.size ≤ k := fun k hk => by have := g3 k hk; have := hW.size; omega
        have D13 : ∀ x ∈ txnK.fp (.slice s1 q1.length t1) q1, ∀ y ∈ intK.fp (.slice a3 dec.length c3) dec, x ≠ y := fun x hx y hy e => by have := o1.lt x hx; have := g3 y hy; omega
        replace o1 := o1.below hb
        clear g3
        replace hW := hW.trans (hb.mono hW.size)
        clear hb
        refine ⟨_, rfl, ⟨⟨_, hW⟩, rfl⟩, ?_⟩
        simp only [Act.put, List.getElem_toArray, List.getElem_cons_succ, List.getElem_cons_zero, List.setIfInBounds_toArray, List.set_cons_zero, List.set_cons_succ]
        refine quiet_at 8 (some 13) (.agg #[.bool has, .slice s1 q1.length t1, .slice none 0 0, .slice a3 dec.length c3]) 2 (by kernel_rfl) (by kernel_rfl) (by kernel_rfl) (by kernel_rfl) (by kernel_rfl) (fun u _ => by kernel_rfl) ⟨⟨_, hW⟩, rfl⟩ ?_
        simp only [Act.put, List.getElem_toArray, List.getElem_cons_succ, List.getElem_cons_zero, List.setIfInBounds_toArray, List.set_cons_zero, List.set_cons_succ]
        refine one_at 9 _ 1 (by kernel_rfl) rfl (by kernel_rfl) ?_
        have Bz := Blk.new x1 28 #[.bool false, .slice none 0 0, .slice none 0 0, .slice none 0 0]
        have hzz : W.heap.size ≤ x1.heap.size := hW.size
        have N1 : ∀ k ∈ txnK.fp (.slice s1 q1.length t1) q1, k ≠ x1.heap.size := fun k hk e => by have := o1.lt k hk; omega
        have N3 : ∀ k ∈ intK.fp (.slice a3 dec.length c3) dec, k ≠ x1.heap.size := fun k hk e => by have := o3.lt k hk; omega
        have hba : Below x1.heap.size x1 (x1.alloc (.cells #[.bool false, .slice none 0 0, .slice none 0 0, .slice none 0 0] 28)) := by go_grown
        replace o1 := o1.below hba
        replace o3 := o3.below hba
        replace hW := hW.trans (hba.mono hW.size)
        clear hba
        go_wp2
        refine ThenGo.to ⟨⟨⟨_, hW⟩, rfl⟩, ?_⟩
        generalize hG2 : x1.heap.size = g at *
        clear hG2
        generalize x1.alloc (.cells #[.bool false, .slice none 0 0, .slice none 0 0, .slice none 0 0] 28) = Y2 at *
        refine one_at 10 _ 0 (by kernel_rfl) rfl (by kernel_rfl) ?_
        have hou := out_row Y2 g #[.bool has, .slice s1 q1.length t1, .slice none 0 0, .slice a3 dec.length c3]
        have hgW : W.heap.size ≤ g := by omega
        have Rz := Bz.row #[.bool has, .slice s1 q1.length t1, .slice none 0 0, .slice a3 dec.length c3]
        replace hW := below_row hW hgW #[.bool has, .slice s1 q1.length t1, .slice none 0 0, .slice a3 dec.length c3]
        replace o1 := o1.out hou (fun k hk => by simp only [List.mem_singleton]; exact N1 k hk)
        replace o3 := o3.out hou (fun k hk => by simp only [List.mem_singleton]; exact N3 k hk)
        refine st_row (by kernel_rfl) 28 _ _ rfl _ #[.bool has, .slice s1 q1.length t1, .slice none 0 0, .slice a3 dec.length c3] rfl rfl 28 _ Bz sz_inst rfl (by simp [Value.oneCell']) ?_
        refine ThenGo.to ⟨⟨⟨_, hW⟩, rfl⟩, ?_⟩
        refine text_end (by kernel_rfl) ?_
        refine ⟨rfl, _, ⟨s1, t1, q1, a3, c3, g, rfl, hgW, Rz, e1, o1, n1, L1, N1, o3, L3, N3, D13, hW⟩, ?_⟩
        simp only [putAll, Act.put, List.getElem_toArray, List.getElem_cons_succ, List.getElem_cons_zero, List.setIfInBounds_toArray, List.set_cons_zero, List.set_cons_succ]
        try rfl
      · skip
        refine op_one 9 _ rfl ?_
        have Bz := Blk.new x0 28 #[.bool false, .slice none 0 0, .slice none 0 0, .slice none 0 0]
        have hzz : W.heap.size ≤ x0.heap.size := hW.size
        have N1 : ∀ k ∈ txnK.fp (.slice s1 q1.length t1) q1, k ≠ x0.heap.size := fun k hk e => by have := o1.lt k hk; omega
        have hba : Below x0.heap.size x0 (x0.alloc (.cells #[.bool false, .slice none 0 0, .slice none 0 0, .slice none 0 0] 28)) := by go_grown
        replace o1 := o1.below hba
        replace hW := hW.trans (hba.mono hW.size)
        clear hba
        go_wp2
        refine ThenGo.to ⟨⟨⟨_, hW⟩, rfl⟩, ?_⟩
        generalize hG1 : x0.heap.size = g at *
        clear hG1
        generalize x0.alloc (.cells #[.bool false, .slice none 0 0, .slice none 0 0, .slice none 0 0] 28) = Y1 at *
        refine call_at 7 (some 12) 156 #[.slice da dec.length dk] 2 (by kernel_rfl) (by kernel_rfl) (by kernel_rfl) (by kernel_rfl) (by kernel_rfl) ?_
        refine (hc3 _ (h3.below (hB.trans (hW.mono hB.size)))).mono ?_
        rintro e x2 ⟨a3, c3, rfl, o3, g3, hb⟩
        have L3 : ∀ k ∈ intK.fp (.slice a3 dec.length c3) dec, W.heap.size ≤ k := fun k hk => by have := g3 k hk; have := hW.size; omega
        have D13 : ∀ x ∈ txnK.fp (.slice s1 q1.length t1) q1, ∀ y ∈ intK.fp (.slice a3 dec.length c3) dec, x ≠ y := fun x hx y hy e => by have := o1.lt x hx; have := g3 y hy; omega
        have N3 : ∀ k ∈ intK.fp (.slice a3 dec.length c3) dec, k ≠ g := fun k hk e => by have := g3 k hk; have := Bz.lt; omega
        replace Bz := Bz.below hb
        replace o1 := o1.below hb
        clear g3
        replace hW := hW.trans (hb.mono hW.size)
        clear hb
        refine ⟨_, rfl, ⟨⟨_, hW⟩, rfl⟩, ?_⟩
        simp only [Act.put, List.getElem_toArray, List.getElem_cons_succ, List.getElem_cons_zero, List.setIfInBounds_toArray, List.set_cons_zero, List.set_cons_succ]
        refine quiet_at 8 (some 13) (.agg #[.bool has, .slice s1 q1.length t1, .slice none 0 0, .slice a3 dec.length c3]) 1 (by kernel_rfl) (by kernel_rfl) (by kernel_rfl) (by kernel_rfl) (by kernel_rfl) (fun u _ => by kernel_rfl) ⟨⟨_, hW⟩, rfl⟩ ?_
        simp only [Act.put, List.getElem_toArray, List.getElem_cons_succ, List.getElem_cons_zero, List.setIfInBounds_toArray, List.set_cons_zero, List.set_cons_succ]
        refine one_at 10 _ 0 (by kernel_rfl) rfl (by kernel_rfl) ?_
        have hou := out_row x2 g #[.bool has, .slice s1 q1.length t1, .slice none 0 0, .slice a3 dec.length c3]
        have hgW : W.heap.size ≤ g := by omega
        have Rz := Bz.row #[.bool has, .slice s1 q1.length t1, .slice none 0 0, .slice a3 dec.length c3]
        replace hW := below_row hW hgW #[.bool has, .slice s1 q1.length t1, .slice none 0 0, .slice a3 dec.length c3]
        replace o1 := o1.out hou (fun k hk => by simp only [List.mem_singleton]; exact N1 k hk)
        replace o3 := o3.out hou (fun k hk => by simp only [List.mem_singleton]; exact N3 k hk)
        refine st_row (by kernel_rfl) 28 _ _ rfl _ #[.bool has, .slice s1 q1.length t1, .slice none 0 0, .slice a3 dec.length c3] rfl rfl 28 _ Bz sz_inst rfl (by simp [Value.oneCell']) ?_
        refine ThenGo.to ⟨⟨⟨_, hW⟩, rfl⟩, ?_⟩
        refine text_end (by kernel_rfl) ?_
        refine ⟨rfl, _, ⟨s1, t1, q1, a3, c3, g, rfl, hgW, Rz, e1, o1, n1, L1, N1, o3, L3, N3, D13, hW⟩, ?_⟩
        simp only [putAll, Act.put, List.getElem_toArray, List.getElem_cons_succ, List.getElem_cons_zero, List.setIfInBounds_toArray, List.set_cons_zero, List.set_cons_succ]
        try rfl
    · skip
      refine op_one 9 _ rfl ?_
      have Bz := Blk.new wd 28 #[.bool false, .slice none 0 0, .slice none 0 0, .slice none 0 0]
      have hzz : W.heap.size ≤ wd.heap.size := hW.size
      have hba : Below wd.heap.size wd (wd.alloc (.cells #[.bool false, .slice none 0 0, .slice none 0 0, .slice none 0 0] 28)) := by go_grown
      replace hW := hW.trans (hba.mono hW.size)
      clear hba
      go_wp2
      refine ThenGo.to ⟨⟨⟨_, hW⟩, rfl⟩, ?_⟩
      generalize hG0 : wd.heap.size = g at *
      clear hG0
      generalize wd.alloc (.cells #[.bool false, .slice none 0 0, .slice none 0 0, .slice none 0 0] 28) = Y0 at *
      refine call_at 4 (some 9) 143 #[.slice ba batch.length bk] 3 (by kernel_rfl) (by kernel_rfl) (by kernel_rfl) (by kernel_rfl) (by kernel_rfl) ?_
      refine (hc1 _ (h1.below (hB.trans (hW.mono hB.size)))).mono ?_
      rintro e x1 ⟨v1, q1, rfl, e1, o1, n1, g1, hb⟩
      obtain ⟨s1, t1, rfl⟩ := o1.shape
      have L1 : ∀ k ∈ txnK.fp (.slice s1 q1.length t1) q1, W.heap.size ≤ k := fun k hk => by have := g1 k hk; have := hW.size; omega
      have N1 : ∀ k ∈ txnK.fp (.slice s1 q1.length t1) q1, k ≠ g := fun k hk e => by have := g1 k hk; have := Bz.lt; omega
      replace Bz := Bz.below hb
      clear g1
      replace hW := hW.trans (hb.mono hW.size)
      clear hb
      refine ⟨_, rfl, ⟨⟨_, hW⟩, rfl⟩, ?_⟩
      simp only [Act.put, List.getElem_toArray, List.getElem_cons_succ, List.getElem_cons_zero, List.setIfInBounds_toArray, List.set_cons_zero, List.set_cons_succ]
      refine call_at 7 (some 12) 156 #[.slice da dec.length dk] 2 (by kernel_rfl) (by kernel_rfl) (by kernel_rfl) (by kernel_rfl) (by kernel_rfl) ?_
      refine (hc3 _ (h3.below (hB.trans (hW.mono hB.size)))).mono ?_
      rintro e x2 ⟨a3, c3, rfl, o3, g3, hb⟩
      have L3 : ∀ k ∈ intK.fp (.slice a3 dec.length c3) dec, W.heap.size ≤ k := fun k hk => by have := g3 k hk; have := hW.size; omega
      have D13 : ∀ x ∈ txnK.fp (.slice s1 q1.length t1) q1, ∀ y ∈ intK.fp (.slice a3 dec.length c3) dec, x ≠ y := fun x hx y hy e => by have := o1.lt x hx; have := g3 y hy; omega
      have N3 : ∀ k ∈ intK.fp (.slice a3 dec.length c3) dec, k ≠ g := fun k hk e => by have := g3 k hk; have := Bz.lt; omega
      replace Bz := Bz.below hb
      replace o1 := o1.below hb
      clear g3
      replace hW := hW.trans (hb.mono hW.size)
      clear hb
      refine ⟨_, rfl, ⟨⟨_, hW⟩, rfl⟩, ?_⟩
      simp only [Act.put, List.getElem_toArray, List.getElem_cons_succ, List.getElem_cons_zero, List.setIfInBounds_toArray, List.set_cons_zero, List.set_cons_succ]
      refine quiet_at 8 (some 13) (.agg #[.bool has, .slice s1 q1.length t1, .slice none 0 0, .slice a3 dec.length c3]) 1 (by kernel_rfl) (by kernel_rfl) (by kernel_rfl) (by kernel_rfl) (by kernel_rfl) (fun u _ => by kernel_rfl) ⟨⟨_, hW⟩, rfl⟩ ?_
      simp only [Act.put, List.getElem_toArray, List.getElem_cons_succ, List.getElem_cons_zero, List.setIfInBounds_toArray, List.set_cons_zero, List.set_cons_succ]
      refine one_at 10 _ 0 (by kernel_rfl) rfl (by kernel_rfl) ?_
      have hou := out_row x2 g #[.bool has, .slice s1 q1.length t1, .slice none 0 0, .slice a3 dec.length c3]
      have hgW : W.heap.size ≤ g := by omega
      have Rz := Bz.row #[.bool has, .slice s1 q1.length t1, .slice none 0 0, .slice a3 dec.length c3]
      replace hW := below_row hW hgW #[.bool has, .slice s1 q1.length t1, .slice none 0 0, .slice a3 dec.length c3]
      replace o1 := o1.out hou (fun k hk => by simp only [List.mem_singleton]; exact N1 k hk)
      replace o3 := o3.out hou (fun k hk => by simp only [List.mem_singleton]; exact N3 k hk)
      refine st_row (by kernel_rfl) 28 _ _ rfl _ #[.bool has, .slice s1 q1.length t1, .slice none 0 0, .slice a3 dec.length c3] rfl rfl 28 _ Bz sz_inst rfl (by simp [Value.oneCell']) ?_
      refine ThenGo.to ⟨⟨⟨_, hW⟩, rfl⟩, ?_⟩
      refine text_end (by kernel_rfl) ?_
      refine ⟨rfl, _, ⟨s1, t1, q1, a3, c3, g, rfl, hgW, Rz, e1, o1, n1, L1, N1, o3, L3, N3, D13, hW⟩, ?_⟩
      simp only [putAll, Act.put, List.getElem_toArray, List.getElem_cons_succ, List.getElem_cons_zero, List.setIfInBounds_toArray, List.set_cons_zero, List.set_cons_succ]
      try rfl
  rintro vs X ⟨s1, t1, q1, a3, c3, g, rfl, hg, Bg, e1, o1, n1, L1, N1, o3, L3, N3, D13, hX⟩
  simp only [putAll, Act.put, List.setIfInBounds_toArray, List.set_cons_zero, List.set_cons_succ]
  have hBX : Below w.heap.size w X := hB.trans (hX.mono hB.size)
  have RbX := Rb.below hX
  have BxX := Bx.below hX
  have h2X := h2
  have hgX := Bg.lt
  have hXs := hX.size
  obtain ⟨i0, hi, hz0, hz1, hz2⟩ := info_parts infoRound
  obtain ⟨hn1, hn2⟩ := Kind.own_nil (K := roundK) X
  have HN0 : Hid ((roundK.fp (.slice none 0 0) ([] : List RoundQ)).Nodup ∧ ∀ k ∈ roundK.fp (.slice none 0 0) ([] : List RoundQ), X.heap.size ≤ k) := by
    rw [hn2]
    exact ⟨by simp, by simp⟩
  have HQ1 : Hid (q1.map TxnQ.e = batch.map TxnQ.e ∧ txnK.Own X (.slice s1 q1.length t1) q1 ∧ (txnK.fp (.slice s1 q1.length t1) q1).Nodup ∧ (∀ k ∈ txnK.fp (.slice s1 q1.length t1) q1, W.heap.size ≤ k) ∧ (∀ k ∈ txnK.fp (.slice s1 q1.length t1) q1, k ≠ g) ∧ intK.Own X (.slice a3 dec.length c3) dec ∧ (∀ k ∈ intK.fp (.slice a3 dec.length c3) dec, W.heap.size ≤ k) ∧ (∀ k ∈ intK.fp (.slice a3 dec.length c3) dec, k ≠ g) ∧ (∀ x ∈ txnK.fp (.slice s1 q1.length t1) q1, ∀ y ∈ intK.fp (.slice a3 dec.length c3) dec, x ≠ y)) := ⟨e1, o1, n1, L1, N1, o3, L3, N3, D13⟩
  clear hn2 hc1 hc3 Rb Bx hB hX e1 o1 n1 L1 N1 o3 L3 N3 D13 h1 h3
  go_wp2
  go_loopw [4] (fun j wr => ∃ (k : Nat) (v2 : Value) (qs : List RoundQ), k ≤ rounds.length ∧ j = .int .i64 k ∧ Hid (qs.map RoundQ.e = (rounds.take k).map RoundQ.e) ∧ roundK.Own wr v2 qs ∧ Hid ((roundK.fp v2 qs).Nodup ∧ ∀ k ∈ roundK.fp v2 qs, X.heap.size ≤ k) ∧ Hid (Blk wr g 28 #[.bool has, .slice s1 q1.length t1, v2, .slice a3 dec.length c3]) ∧ Hid (Out [g] X wr)) (fun j _ => rounds.length - (intOf j).toNat)
  case atStart => exact ⟨0, .slice none 0 0, [], Nat.zero_le _, rfl, (rfl : _ = _), hn1, HN0, Bg, Out.refl _ _⟩
  case round =>
    clear HN0 hn1 Bg
    obtain ⟨k, v2, qs, hk, rfl, HE, hO, HN, HBg, HO⟩ := hrel
    obtain ⟨sa, sc, rfl⟩ := hO.shape
    have hBr : Below w.heap.size w wr := Out.keep hBX HO.out hBX.size (fun x hx => by simp only [List.mem_singleton] at hx; omega)
    have hXr := HO.out.size
    have Bxr : Blk wr w.heap.size 28 #[.bool has, .slice ba batch.length bk, .slice va rounds.length vk, .slice da dec.length dk] := (HO.out.block _ BxX.lt (by simp only [List.mem_singleton]; omega)).trans BxX
    have HLO : Hid (∀ x ∈ blk (.slice sa qs.length sc), X.heap.size ≤ x) := fun x hx => HN.out.2 x (by simp only [Kind.fp, List.mem_append]; exact Or.inl hx)
    have b2 := Bxr.cell 2 _ rfl
    by_cases hlt : k < rounds.length
    · obtain ⟨rb, ro, rfl, hbs, hc, hrd⟩ := (h2.below hBr).cell (by decide) k hlt
      have hrbw : rb < w.heap.size := by
        obtain ⟨rb', ro', e', hbs', _, _⟩ := h2.cell (by decide) k hlt
        simp only [Option.some.injEq, Addr.mk.injEq, and_true] at e'
        omega
      have hc' : ∀ j x, (roundK.cells rounds[k])[j]? = some x → wr.cell? ⟨rb, ro + k * 2 + j, none⟩ = some x := hc
      have f0 := hc' 0 (rounds[k].vr) rfl
      have f1 := hc' 1 (rounds[k].vp) rfl
      have n1 := nm_le RoundQ.n rounds k hlt
      have hpos := hro _ (List.getElem_mem hlt)
      have HQL : Hid (qs.length ≤ 1048576) := by
        have := congrArg List.length HE.out
        rw [List.length_map, List.length_map, List.length_take] at this
        show qs.length ≤ 1048576
        omega
      have HPE : Hid (∀ p' : RoundQ, p'.e = RoundQ.e rounds[k] → (qs ++ [p']).map RoundQ.e = (rounds.take (k + 1)).map RoundQ.e) := fun p' hp' => by
        rw [List.take_succ_eq_append_getElem hlt, List.map_append, List.map_append, HE.out, List.map_singleton, List.map_singleton, hp']
      clear HE hc hc'
      generalize rounds[k] = p at *
      obtain ⟨pv, pr, pw, pp⟩ := p
      obtain ⟨u1, u2⟩ : intK.At wr pv pr ∧ intK.At wr pw pp := hrd
      obtain ⟨x1', j1, rfl⟩ := u1.shape
      obtain ⟨x2', j2, rfl⟩ := u2.shape
      dsimp only [RoundQ.n] at f0 f1 n1 hpos
      rw [Nat.add_zero] at f0
      have hcA := fun w (hT : intK.At w (.slice x1' pr.length j1) pr) => l1Ints_any _ pr w hT hpos.1 (by omega)
      have hcB := fun w (hT : intK.At w (.slice x2' pp.length j2) pp) => l1Ints_any _ pp w hT hpos.2 (by omega)
      have hFg : g ∉ blk (.slice sa qs.length sc) := fun hx => by have := HLO.out g hx; omega
      have hFw : w.heap.size ∉ blk (.slice sa qs.length sc) := fun hx => by have := HLO.out _ hx; omega
      have hFr : rb ∉ blk (.slice sa qs.length sc) := fun hx => by have := HLO.out rb hx; omega
      have HF : Hid (∀ x ∈ roundK.fp (.slice sa qs.length sc) qs, x < wr.heap.size) := hO.lt
      have m0 := lato_cell (F := blk (.slice sa qs.length sc)) (HBg.out.cell 2 _ rfl) hFg
      have m1 := lato_cell (F := blk (.slice sa qs.length sc)) b2 hFw
      have m2 := lato_cell (F := blk (.slice sa qs.length sc)) f0 hFr
      have m3 := lato_cell (F := blk (.slice sa qs.length sc)) f1 hFr
      have hlti : (k : Int) < (rounds.length : Int) := by omega
      have hnn : Nonempty (LatO (blk (.slice sa qs.length sc)) wr) := ⟨⟨wr, Out.refl _ _⟩⟩
      have hW : Below wr.heap.size wr wr.drew := (Below.refl _ _).drew
      have hnw : ∀ w', Below wr.heap.size wr w' → ∃ u : LatO (blk (.slice sa qs.length sc)) wr, w' = u.val := fun w' hw' => ⟨⟨w', Out.of_below hw'⟩, rfl⟩
      clear f0 f1
      go_wp2_with fail
      clear b2
      refine beginX (S := fun w' => ∃ u : LatO (blk (.slice sa qs.length sc)) wr, w' = u.val) (R := fun _ _ => False) 20 (by kernel_rfl) (fun _ _ _ _ h => h.elim) ?_
      refine segX [(0, 8), (9, 6)] 7 (by kernel_rfl) (by kernel_rfl) (by kernel_rfl) (by kernel_rfl) (by kernel_rfl) (hnw _ hW) ?_
      simp only [pickR, List.toList_toArray, List.flatMap_cons, List.flatMap_nil, List.drop_succ_cons, List.drop_zero, List.take_succ_cons, List.take_zero, List.cons_append, List.nil_append, List.append_nil]
      repeat go_big_quiet_step (fail)
      refine wpQuiet_nil ?_
      refine callX 8 (some 29) 156 #[.slice x1' pr.length j1] 6 (by kernel_rfl) (by kernel_rfl) (by kernel_rfl) (by kernel_rfl) (by kernel_rfl) rfl ?_
      refine (hcA _ (u1.below hW)).mono ?_
      rintro e w8 ⟨x1, y1, rfl, oa, ga, hb8⟩
      have LA : ∀ x ∈ intK.fp (.slice x1 pr.length y1) pr, wr.heap.size ≤ x := fun x hx => by have := ga x hx; have := hW.size; omega
      have MA := oa.lt
      replace hW := hW.trans (hb8.mono hW.size)
      clear hb8 ga
      refine Or.inl ⟨_, rfl, hnw _ hW, ?_⟩
      simp only [Act.put, List.getElem_toArray, List.getElem_cons_succ, List.getElem_cons_zero, List.setIfInBounds_toArray, List.set_cons_zero, List.set_cons_succ]
      refine callX 15 (some 36) 156 #[.slice x2' pp.length j2] 5 (by kernel_rfl) (by kernel_rfl) (by kernel_rfl) (by kernel_rfl) (by kernel_rfl) rfl ?_
      refine (hcB _ (u2.below hW)).mono ?_
      rintro e w9 ⟨x2, y2, rfl, ob, gb, hb9⟩
      have LB : ∀ x ∈ intK.fp (.slice x2 pp.length y2) pp, wr.heap.size ≤ x := fun x hx => by have := gb x hx; have := hW.size; omega
      have hdis : ∀ x ∈ intK.fp (.slice x1 pr.length y1) pr, ∀ y ∈ intK.fp (.slice x2 pp.length y2) pp, x ≠ y := fun x hx y hy e => by have := MA x hx; have := gb y hy; omega
      replace oa := oa.below hb9
      replace hW := hW.trans (hb9.mono hW.size)
      clear hb9 gb MA
      refine Or.inl ⟨_, rfl, hnw _ hW, ?_⟩
      simp only [Act.put, List.getElem_toArray, List.getElem_cons_succ, List.getElem_cons_zero, List.setIfInBounds_toArray, List.set_cons_zero, List.set_cons_succ]
      refine oneX 16 _ 4 (by kernel_rfl) rfl (by kernel_rfl) ?_
      go_wp2
      refine ThenX.to ⟨Or.inr (hnw _ hW), ?_⟩
      refine oneX 17 _ 3 (by kernel_rfl) rfl (by kernel_rfl) ?_
      have hbA : Below w9.heap.size w9 (w9.alloc (.cells #[.slice x1 pr.length y1, .slice x2 pp.length y2] 125)) := by go_grown
      replace hW := hW.trans (hbA.mono hW.size)
      replace oa := oa.below hbA
      replace ob := ob.below hbA
      have hsrc : ∀ j u, [Value.slice x1 pr.length y1, .slice x2 pp.length y2][j]? = some u → (w9.alloc (.cells #[.slice x1 pr.length y1, .slice x2 pp.length y2] 125)).cell? ((⟨w9.heap.size, 0, none⟩ : Addr).add j) = some u := by
        intro j u hj; match j, hj with | 0, hj => simp at hj; subst hj; simp [Addr.add] | 1, hj => simp at hj; subst hj; simp [Addr.add]
      go_wp2
      refine ThenX.to ⟨Or.inr (hnw _ hW), ?_⟩
      generalize w9.alloc (.cells #[.slice x1 pr.length y1, .slice x2 pp.length y2] 125) = Z at *
      clear hbA
      have hO3 := hO.below hW
      have hrow0 := hO3.1
      have hsZ := hW.size
      refine oneX 18 _ 2 (by kernel_rfl) rfl (by kernel_rfl) ?_
      refine wpList_append_own_at _ rfl _ _ 25 rfl 0 125 i0 (.agg #[.slice none 0 0, .slice none 0 0]) 2 48 Tryz.underlying25 hi hz0 hz1 hz2 rfl (by decide) _ qs.length (roundK.row qs) rfl hrow0 ⟨w9.heap.size, 0, none⟩ 1 1 [.slice x1 pr.length y1, .slice x2 pp.length y2] rfl rfl hsrc ?c2 ?c3 ?c4 ?c5 ?_
      case c2 => intro u hu; simp at hu; rcases hu with rfl | rfl <;> rfl
      case c3 => have := HQL.out; unfold maxLen; omega
      case c4 => have := HQL.out; omega
      case c5 => omega
      intro v' w5 hown hgrow hnil hat
      clear hnil hrow0 hsrc
      obtain ⟨hO5, hn5, hlo5, hou⟩ := hO3.snoc (p := ⟨.slice x1 pr.length y1, pr, .slice x2 pp.length y2, pp⟩) (B := X.heap.size) HN.out.1 HN.out.2 ⟨oa, ob⟩ (List.nodup_append.2 ⟨intK_nodup _ _, intK_nodup _ _, hdis⟩) (fun x hx hx' => by
        have := HF.out x hx'
        rcases List.mem_append.1 hx with hx | hx
        · have := LA x hx; omega
        · have := LB x hx; omega) (fun x hx => by
        rcases List.mem_append.1 hx with hx | hx
        · have := LA x hx; omega
        · have := LB x hx; omega) (by omega) hown hgrow hat
      obtain ⟨na, nc, rfl⟩ := hO5.shape
      rw [List.length_append, List.length_singleton] at hO5 hn5 hlo5
      have hO9 : Out (blk (.slice sa qs.length sc)) wr w5 := (Out.of_below hW).trans hou
      have Bg5 : Blk w5 g 28 #[.bool has, .slice s1 q1.length t1, .slice sa qs.length sc, .slice a3 dec.length c3] := (hO9.block g (by omega) hFg).trans HBg.out
      have HE5 : Hid ((qs ++ [(⟨.slice x1 pr.length y1, pr, .slice x2 pp.length y2, pp⟩ : RoundQ)]).map RoundQ.e = (rounds.take (k + 1)).map RoundQ.e) := HPE.out _ rfl
      have HN5 : Hid ((roundK.fp (.slice na (qs.length + 1) nc) (qs ++ [(⟨.slice x1 pr.length y1, pr, .slice x2 pp.length y2, pp⟩ : RoundQ)])).Nodup ∧ ∀ k ∈ roundK.fp (.slice na (qs.length + 1) nc) (qs ++ [(⟨.slice x1 pr.length y1, pr, .slice x2 pp.length y2, pp⟩ : RoundQ)]), X.heap.size ≤ k) := ⟨hn5, hlo5⟩
      have hX5 : Out [g] X w5 := by
        refine ⟨hO9.os.trans HO.out.os, hO9.tape.trans HO.out.tape, hO9.output.trans HO.out.output, Nat.le_trans hXr hO9.size, fun x hx hn => ?_⟩
        exact (hO9.block x (by omega) (fun hx' => by have := HLO.out x hx'; omega)).trans (HO.out.block x hx hn)
      clear hn5 hlo5 hou HPE HN HF oa ob LA LB hdis hown hgrow hat hO3 hO m0 m1 m2 m3 hcA hcB
      go_wp2
      refine ThenX.to ⟨Or.inr ⟨⟨_, hO9⟩, rfl⟩, ?_⟩
      simp only [Act.put, List.getElem_toArray, List.getElem_cons_succ, List.getElem_cons_zero, List.setIfInBounds_toArray, List.set_cons_zero, List.set_cons_succ]
      refine oneX 19 _ 1 (by kernel_rfl) rfl (by kernel_rfl) ?_
      go_wp2
      refine ThenX.to ⟨Or.inr ⟨⟨_, hO9⟩, rfl⟩, ?_⟩
      refine oneX 20 _ 0 (by kernel_rfl) rfl (by kernel_rfl) ?_
      have t3 := Bg5.cell 2 _ rfl
      have t4 := Bg5.frozen 2
      have Bg6 := Bg5.set 2 (.slice na (qs.length + 1) nc)
      have hO6 := hO5.out (Out.setCell w5 g 2 (.slice na (qs.length + 1) nc)) (fun x hx => by have := HN5.out.2 x hx; simp only [List.mem_singleton]; omega)
      have hX6 : Out [g] X (w5.setCell ⟨g, 2, none⟩ (.slice na (qs.length + 1) nc)) := hX5.trans (Out.setCell w5 g 2 _)
      have HB6 : Hid (Blk (w5.setCell ⟨g, 2, none⟩ (.slice na (qs.length + 1) nc)) g 28 #[.bool has, .slice s1 q1.length t1, .slice na (qs.length + 1) nc, .slice a3 dec.length c3]) := Bg6
      have HO6 : Hid (Out [g] X (w5.setCell ⟨g, 2, none⟩ (.slice na (qs.length + 1) nc))) := hX6
      clear Bg6 hX6 hX5 hO5 Bg5 HBg HO
      generalize qs ++ [(⟨.slice x1 pr.length y1, pr, .slice x2 pp.length y2, pp⟩ : RoundQ)] = qs' at *
      go_wp2
      refine ThenX.to ⟨Or.inl (by kernel_rfl), ?_⟩
      refine endX (by kernel_rfl) ?_
      clear t3 t4 hO9 hnn hnw hFg hFw hFr
      generalize w5.setCell ⟨g, 2, none⟩ (.slice na (qs.length + 1) nc) = w6 at *
      go_wp2
      go_roundw
      case rel => exact ⟨k + 1, _, qs', by omega, by go_num, HE5, hO6, HN5, HB6, HO6⟩
      case measure => simp [intOf]; omega
    · have hkl : k = rounds.length := by omega
      subst hkl
      have hE := HE.out
      rw [List.take_length] at hE
      have HE9 : Hid (qs.map RoundQ.e = rounds.map RoundQ.e) := hE
      clear HE hE
      have Rbr : Blk wr (w.heap.size + 1) 28 #[.bool false, .slice none 0 0, .slice none 0 0, .slice none 0 0] := (HO.out.block _ RbX.lt (by simp only [List.mem_singleton]; omega)).trans RbX
      have g0 := HBg.out.cell 0 _ rfl
      have g1 := HBg.out.cell 1 _ rfl
      have g2 := HBg.out.cell 2 _ rfl
      have g3 := HBg.out.cell 3 _ rfl
      have Rz := Rbr.row #[.bool has, .slice s1 q1.length t1, .slice sa qs.length sc, .slice a3 dec.length c3]
      have hou := out_row wr (w.heap.size + 1) #[.bool has, .slice s1 q1.length t1, .slice sa qs.length sc, .slice a3 dec.length c3]
      have hBe := below_row hBr (g := w.heap.size + 1) (by omega) #[.bool has, .slice s1 q1.length t1, .slice sa qs.length sc, .slice a3 dec.length c3]
      obtain ⟨e1, o1, n1, L1, N1, o3, L3, N3, D13⟩ := HQ1.out
      have oa := (o1.out HO.out (fun x hx => by simp only [List.mem_singleton]; exact N1 x hx)).out hou (fun x hx => by have := L1 x hx; simp only [List.mem_singleton]; omega)
      have oc := (o3.out HO.out (fun x hx => by simp only [List.mem_singleton]; exact N3 x hx)).out hou (fun x hx => by have := L3 x hx; simp only [List.mem_singleton]; omega)
      have ob := hO.out hou (fun x hx => by have := HN.out.2 x hx; simp only [List.mem_singleton]; omega)
      have HR : Hid ((InstQ.e ⟨has, .slice s1 q1.length t1, q1, .slice sa qs.length sc, qs, .slice a3 dec.length c3, dec⟩ = InstQ.e ⟨has, .slice ba batch.length bk, batch, .slice va rounds.length vk, rounds, .slice da dec.length dk, dec⟩) ∧ (instK.foot ⟨has, .slice s1 q1.length t1, q1, .slice sa qs.length sc, qs, .slice a3 dec.length c3, dec⟩).Nodup ∧ ∀ x ∈ instK.foot ⟨has, .slice s1 q1.length t1, q1, .slice sa qs.length sc, qs, .slice a3 dec.length c3, dec⟩, w.heap.size ≤ x) := by
        refine ⟨?_, ?_, ?_⟩
        · simp only [InstQ.e, e1, HE9.out]
        · refine List.nodup_append.2 ⟨n1, List.nodup_append.2 ⟨HN.out.1, intK_nodup _ _, fun x hx y hy e => ?_⟩, fun x hx y hy e => ?_⟩
          · have := HN.out.2 x hx; have := o3.lt y hy; omega
          · rcases List.mem_append.1 hy with hy | hy
            · have := HN.out.2 y hy; have := o1.lt x hx; omega
            · exact D13 x hx y hy e
        · intro x hx
          rcases List.mem_append.1 hx with hx | hx
          · have := L1 x hx; omega
          · rcases List.mem_append.1 hx with hx | hx
            · have := HN.out.2 x hx; omega
            · have := L3 x hx; omega
      clear e1 o1 n1 L1 N1 o3 L3 N3 D13 hou HQ1 HE9 hO HN HLO
      go_wp2_with (first | (refine st_row (by kernel_rfl) 28 _ _ rfl _ #[.bool has, .slice s1 q1.length t1, .slice sa qs.length sc, .slice a3 dec.length c3] rfl rfl 28 _ Rbr sz_inst rfl (by simp [Value.oneCell']) ?_))
      have k0 := Rz.cell 0 _ rfl
      have k1 := Rz.cell 1 _ rfl
      have k2 := Rz.cell 2 _ rfl
      have k3 := Rz.cell 3 _ rfl
      exact bodyPost_ret (v := .agg #[.bool has, .slice s1 q1.length t1, .slice sa qs.length sc, .slice a3 dec.length c3]) (by simp [results, Tryz.results96, go_sem, k0, k1, k2, k3]) rfl ⟨⟨has, .slice s1 q1.length t1, q1, .slice sa qs.length sc, qs, .slice a3 dec.length c3, dec⟩, rfl, HR.out.1, ⟨oa, ob, oc⟩, HR.out.2.1, HR.out.2.2, hBe⟩

end Go.Proofs.YtmgkjcobdmdjmaaGreatDoor
