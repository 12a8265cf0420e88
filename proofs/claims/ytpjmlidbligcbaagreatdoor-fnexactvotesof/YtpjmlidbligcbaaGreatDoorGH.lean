/- What the helpers of the laws do with lists of transactions, in the form of kinds. No condition. -/
import Derived.Test.YtpjmlidbligcbaaGreatDoorGG
import Derived.Test.YtpjmlidbligcbaaGreatDoorGB
namespace Go.Proofs.YtpjmlidbligcbaaGreatDoor
open Go.RowKit
open Go.BigFrame
set_option linter.unusedVariables false
set_option maxRecDepth 100000
set_option linter.unusedSimpArgs false

def mkTxn (c : Int) (p : TxnQ) : TxnQ := ⟨c, c + 1, c + 1 + 1, p.va, mkActs (c + 1 + 1 + 1) p.acts⟩
def nmTxn (p : TxnQ) : Nat := 1 + 1 + 1 + p.acts.length * 3
theorem mkTxn_foot (c : Int) (p : TxnQ) : txnK.foot (mkTxn c p) = txnK.foot p := by
  simp only [mkTxn, show ∀ p : TxnQ, txnK.foot p = actK.fp p.va p.acts from fun _ => rfl, mkActs_fp]

set_option maxHeartbeats 4000000 in
theorem markTxns_k (v : Value) (ps : List TxnQ) (c : Int) (w : World) (h : txnK.Own w v ps) (hnd : (txnK.fp v ps).Nodup) (hl : (ps.length + nmL TxnQ.n ps) ≤ 1048576) (h0 : 0 ≤ c) (h1 : c + (nmL nmTxn ps : Int) ≤ 1099511627776) :
    Calls Tryz.prog 124 #[v, .int .i64 c] w fun e w' => e = .returned (.int .i64 (c + (nmL nmTxn ps : Int))) ∧ txnK.Own w' v (mkL mkTxn nmTxn c ps) ∧ Out (txnK.fp v ps) w w' := by
  obtain ⟨a, cap, rfl⟩ := h.shape
  have hfph : ∀ k, k ≤ ps.length → txnK.fp (.slice a ps.length cap) (half mkTxn nmTxn c ps k) = txnK.fp (.slice a ps.length cap) ps := fun k hk => fp_half mkTxn_foot _ c ps k
  have HF : Hid (∀ k, k ≤ ps.length → txnK.fp (.slice a ps.length cap) (half mkTxn nmTxn c ps k) = txnK.fp (.slice a ps.length cap) ps) := hfph
  have HA : Hid (txnK.Own w (.slice a ps.length cap) (half mkTxn nmTxn c ps 0)) := by rw [half_zero]; exact h
  clear hfph h
  go_enter Tryz.func124, Tryz.ntmps124
  go_wp2
  go_loopw [1, 5] (fun j i wr => ∃ k : Nat, k ≤ ps.length ∧ j = .int .i64 (c + (nmL nmTxn (ps.take k) : Int)) ∧ i = .int .i64 k ∧ Hid (txnK.Own wr (.slice a ps.length cap) (half mkTxn nmTxn c ps k)) ∧ Hid (Out (txnK.fp (.slice a ps.length cap) ps) w wr)) (fun _ i _ => ps.length - (intOf i).toNat)
  case atStart => exact ⟨0, Nat.zero_le _, by simp [nmL], rfl, HA, Out.refl _ _⟩
  case round =>
    clear HA
    obtain ⟨k, hk, rfl, rfl, HO, HU⟩ := hrel
    by_cases hlt : k < ps.length
    · have hhl : (half mkTxn nmTxn c ps k).length = ps.length := half_length _ _ _ _ _ hk
      have hO := HO.out
      obtain ⟨g, rfl⟩ := hO.blkOf (by omega)
      have hndk : (txnK.fp (.slice (some ⟨g, 0, none⟩) ps.length cap) (half mkTxn nmTxn c ps k)).Nodup := by rw [HF.out k hk]; exact hnd
      have hsub : Hid (∀ x ∈ txnK.foot ps[k], x ∈ txnK.fp (.slice (some ⟨g, 0, none⟩) ps.length cap) ps) := fun x hx => by
        simp only [Kind.fp, List.mem_append, List.mem_flatMap]
        exact Or.inr ⟨_, List.getElem_mem hlt, hx⟩
      have hg0 : Hid (∀ x ∈ [g], x ∈ txnK.fp (.slice (some ⟨g, 0, none⟩) ps.length cap) ps) := fun x hx => by
        simp only [List.mem_singleton] at hx
        subst hx
        simp [Kind.fp, blk, Value.ownBlock]
      have hltH : k < (half mkTxn nmTxn c ps k).length := by omega
      have hget := half_get mkTxn nmTxn c ps k hlt
      have hOk : txnK.Own wr (.slice (some ⟨g, 0, none⟩) ps.length cap) ((half mkTxn nmTxn c ps k).set k ps[k]) := by
        have e : (half mkTxn nmTxn c ps k).set k ps[k] = half mkTxn nmTxn c ps k := by
          rw [← hget, List.set_getElem_self]
        rw [e]; exact hO
      have hnk : (txnK.fp (.slice (some ⟨g, 0, none⟩) ps.length cap) ((half mkTxn nmTxn c ps k).set k ps[k])).Nodup := by
        have e : (half mkTxn nmTxn c ps k).set k ps[k] = half mkTxn nmTxn c ps k := by
          rw [← hget, List.set_getElem_self]
        rw [e]; exact hndk
      clear hget hO hndk
      have hset := half_set mkTxn nmTxn c ps k hlt
      have hsu := nmL_succ nmTxn ps k hlt
      have hle := nmL_le nmTxn ps (k + 1)
      have hzl := nm_le TxnQ.n ps k hlt
      have HSU : Hid ((nmL nmTxn (ps.take (k + 1)) : Int) = (nmL nmTxn (ps.take k) : Int) + (nmTxn ps[k] : Int)) := show _ = _ by omega
      have hyb : (nmL nmTxn (ps.take k) : Int) + (nmTxn ps[k] : Int) ≤ nmL nmTxn ps := by omega
      have HSET : Hid ((half mkTxn nmTxn c ps k).set k (mkTxn (c + (nmL nmTxn (ps.take k) : Int)) ps[k]) = half mkTxn nmTxn c ps (k + 1)) := hset
      clear hset hsu hle HO
      generalize half mkTxn nmTxn c ps k = hs at *
      generalize hpk : ps[k] = p at *
      clear hpk
      obtain ⟨z_i, z_s, z_q, z_va, d_acts⟩ := p
      have hkL : k < hs.length := hltH
      dsimp only [nmTxn, TxnQ.n] at HSU hyb hzl
      generalize hy : (nmL nmTxn (ps.take k) : Int) = y at *
      have hy0 : 0 ≤ y := by omega
      clear hy
      obtain ⟨c0, f0⟩ := hOk.cell' hkL 0 (.int .i64 z_i) rfl
      obtain ⟨c1, f1⟩ := hOk.cell' hkL 1 (.int .i64 z_s) rfl
      obtain ⟨c2, f2⟩ := hOk.cell' hkL 2 (.int .i64 z_q) rfl
      obtain ⟨c3, f3⟩ := hOk.cell' hkL 3 (z_va) rfl
      have c0 : wr.cell? ⟨g, k * 4, none⟩ = _ := c0
      have f0 : wr.frozen? ⟨g, k * 4, none⟩ = _ := f0
      have c1 : wr.cell? ⟨g, k * 4 + 1, none⟩ = _ := c1
      have f1 : wr.frozen? ⟨g, k * 4 + 1, none⟩ = _ := f1
      have c2 : wr.cell? ⟨g, k * 4 + 2, none⟩ = _ := c2
      have f2 : wr.frozen? ⟨g, k * 4 + 2, none⟩ = _ := f2
      have c3 : wr.cell? ⟨g, k * 4 + 3, none⟩ = _ := c3
      have f3 : wr.frozen? ⟨g, k * 4 + 3, none⟩ = _ := f3
      obtain ⟨hOn, hnn⟩ := hOk.store' hnk hkL (⟨c + y, z_s, z_q, z_va, d_acts⟩ : TxnQ) 0 (.int .i64 (c + y)) (by decide) rfl rfl (fun _ h => h)
      have hOk : txnK.Own (wr.setCell ⟨g, k * 4, none⟩ (.int .i64 (c + y))) (.slice (some ⟨g, 0, none⟩) ps.length cap) (hs.set k (⟨c + y, z_s, z_q, z_va, d_acts⟩ : TxnQ)) := hOn
      have hnk := hnn
      obtain ⟨hOn, hnn⟩ := hOk.store' hnk hkL (⟨c + y, c + y + 1, z_q, z_va, d_acts⟩ : TxnQ) 1 (.int .i64 (c + y + 1)) (by decide) rfl rfl (fun _ h => h)
      have hOk : txnK.Own ((wr.setCell ⟨g, k * 4, none⟩ (.int .i64 (c + y))).setCell ⟨g, k * 4 + 1, none⟩ (.int .i64 (c + y + 1))) (.slice (some ⟨g, 0, none⟩) ps.length cap) (hs.set k (⟨c + y, c + y + 1, z_q, z_va, d_acts⟩ : TxnQ)) := hOn
      have hnk := hnn
      obtain ⟨hOn, hnn⟩ := hOk.store' hnk hkL (⟨c + y, c + y + 1, c + y + 1 + 1, z_va, d_acts⟩ : TxnQ) 2 (.int .i64 (c + y + 1 + 1)) (by decide) rfl rfl (fun _ h => h)
      have hOk : txnK.Own (((wr.setCell ⟨g, k * 4, none⟩ (.int .i64 (c + y))).setCell ⟨g, k * 4 + 1, none⟩ (.int .i64 (c + y + 1))).setCell ⟨g, k * 4 + 2, none⟩ (.int .i64 (c + y + 1 + 1))) (.slice (some ⟨g, 0, none⟩) ps.length cap) (hs.set k (⟨c + y, c + y + 1, c + y + 1 + 1, z_va, d_acts⟩ : TxnQ)) := hOn
      have hnk := hnn
      have HU : Hid (Out (txnK.fp (.slice (some ⟨g, 0, none⟩) ps.length cap) ps) w (((wr.setCell ⟨g, k * 4, none⟩ (.int .i64 (c + y))).setCell ⟨g, k * 4 + 1, none⟩ (.int .i64 (c + y + 1))).setCell ⟨g, k * 4 + 2, none⟩ (.int .i64 (c + y + 1 + 1)))) := (((HU.out.trans ((Out.setCell _ g (k * 4) (.int .i64 (c + y))).mono hg0.out)).trans ((Out.setCell _ g (k * 4 + 1) (.int .i64 (c + y + 1))).mono hg0.out)).trans ((Out.setCell _ g (k * 4 + 2) (.int .i64 (c + y + 1 + 1))).mono hg0.out))
      have he3 := hOk.elem' hkL
      have hl3 : actK.Own (((wr.setCell ⟨g, k * 4, none⟩ (.int .i64 (c + y))).setCell ⟨g, k * 4 + 1, none⟩ (.int .i64 (c + y + 1))).setCell ⟨g, k * 4 + 2, none⟩ (.int .i64 (c + y + 1 + 1))) z_va d_acts := he3
      have hmk := markActs_k z_va d_acts (c + y + 1 + 1 + 1) _ hl3  (by omega) (by omega) (by omega)
      obtain ⟨sa3, sc3, hsh3⟩ := hl3.shape
      subst hsh3

      clear he3 hl3
      go_wp2_with fail
      refine hmk.mono ?_
      rintro e w23 ⟨rfl, hm3, ho3⟩
      clear hmk
      obtain ⟨hOn, hnn⟩ := hOk.turn' hnk hkL (⟨c + y, c + y + 1, c + y + 1 + 1, .slice sa3 d_acts.length sc3, mkActs (c + y + 1 + 1 + 1) d_acts⟩ : TxnQ) ho3 (fun x hx => hx) rfl (by exact mkActs_fp _ _ _) (hm3)
      have HU : Hid (Out (txnK.fp (.slice (some ⟨g, 0, none⟩) ps.length cap) ps) w w23) := HU.out.trans (ho3.mono (fun x hx => hsub.out x (show x ∈ txnK.foot _ from (fun x hx => hx) x hx)))
      have hOk := hOn
      have hnk := hnn
      have R : Hid (txnK.Own w23 (.slice (some ⟨g, 0, none⟩) ps.length cap) (half mkTxn nmTxn c ps (k + 1))) := by rw [← HSET.out]; exact hOk
      clear hOk hnk HSET hsub hg0
      go_wp2
      go_roundw
      case rel => exact ⟨k + 1, by omega, by rw [HSU.out]; congr 1; omega, by go_num, R.out, HU.out⟩
      case measure => simp [intOf]; omega
    · have hkl : k = ps.length := by omega
      subst hkl
      have hO := HO.out
      rw [half_all] at hO
      rw [List.take_length]
      clear HF HO
      go_wp2
      go_ret
      exact ⟨rfl, hO, HU.out⟩

end Go.Proofs.YtpjmlidbligcbaaGreatDoor

/- What the helpers of the laws do with lists of transactions, in the form of kinds: are the marks still there? No condition. -/
namespace Go.Proofs.YtpjmlidbligcbaaGreatDoor
open Go.RowKit
open Go.BigFrame
set_option linter.unusedVariables false
set_option maxRecDepth 100000
set_option linter.unusedSimpArgs false

end Go.Proofs.YtpjmlidbligcbaaGreatDoor

/- What the helpers of the laws do with lists of rounds, in the form of kinds: mark. No condition. -/
namespace Go.Proofs.YtpjmlidbligcbaaGreatDoor
open Go.RowKit
open Go.BigFrame
set_option linter.unusedVariables false
set_option maxRecDepth 100000
set_option linter.unusedSimpArgs false

theorem nd_right {A B : List Nat} (h : (A ++ B).Nodup) : ∀ k ∈ B, k ∉ A := fun k hk hk2 => (List.nodup_append.1 h).2.2 k hk2 k hk rfl
theorem nd_left {A B : List Nat} (h : (A ++ B).Nodup) : ∀ k ∈ A, k ∉ B := fun k hk hk2 => (List.nodup_append.1 h).2.2 k hk k hk2 rfl
theorem foot_nodup {P : Type} {K : Kind P} {v : Value} {hs : List P} {k : Nat} {p : P} (h : (K.fp v (hs.set k p)).Nodup) (hk : k < hs.length) : (K.foot p).Nodup := by
  have h2 := (List.nodup_append.1 h).2.1
  rw [set_split hs k hk p] at h2
  simp only [List.flatMap_append, List.flatMap_cons] at h2
  exact (List.nodup_append.1 (List.nodup_append.1 h2).2.1).1

def mkRound (c : Int) (p : RoundQ) : RoundQ := ⟨p.vr, mkInts (c) p.rep, p.vp, mkInts (c + ((p.rep.length : Nat) : Int)) p.pro⟩
def nmRound (p : RoundQ) : Nat := p.rep.length + p.pro.length
theorem mkRound_foot (c : Int) (p : RoundQ) : roundK.foot (mkRound c p) = roundK.foot p := by
  simp only [mkRound, show ∀ p : RoundQ, roundK.foot p = intK.fp p.vr p.rep ++ intK.fp p.vp p.pro from fun _ => rfl, mkInts_fp, mkInts_fp]

set_option maxHeartbeats 4000000 in
theorem markRounds_k (v : Value) (ps : List RoundQ) (c : Int) (w : World) (h : roundK.Own w v ps) (hnd : (roundK.fp v ps).Nodup) (hl : (ps.length + nmL RoundQ.n ps) ≤ 1048576) (h0 : 0 ≤ c) (h1 : c + (nmL nmRound ps : Int) ≤ 1099511627776) :
    Calls Tryz.prog 125 #[v, .int .i64 c] w fun e w' => e = .returned (.int .i64 (c + (nmL nmRound ps : Int))) ∧ roundK.Own w' v (mkL mkRound nmRound c ps) ∧ Out (roundK.fp v ps) w w' := by
  obtain ⟨a, cap, rfl⟩ := h.shape
  have hfph : ∀ k, k ≤ ps.length → roundK.fp (.slice a ps.length cap) (half mkRound nmRound c ps k) = roundK.fp (.slice a ps.length cap) ps := fun k hk => fp_half mkRound_foot _ c ps k
  have HF : Hid (∀ k, k ≤ ps.length → roundK.fp (.slice a ps.length cap) (half mkRound nmRound c ps k) = roundK.fp (.slice a ps.length cap) ps) := hfph
  have HA : Hid (roundK.Own w (.slice a ps.length cap) (half mkRound nmRound c ps 0)) := by rw [half_zero]; exact h
  clear hfph h
  go_enter Tryz.func125, Tryz.ntmps125
  go_wp2
  go_loopw [1, 5] (fun j i wr => ∃ k : Nat, k ≤ ps.length ∧ j = .int .i64 (c + (nmL nmRound (ps.take k) : Int)) ∧ i = .int .i64 k ∧ Hid (roundK.Own wr (.slice a ps.length cap) (half mkRound nmRound c ps k)) ∧ Hid (Out (roundK.fp (.slice a ps.length cap) ps) w wr)) (fun _ i _ => ps.length - (intOf i).toNat)
  case atStart => exact ⟨0, Nat.zero_le _, by simp [nmL], rfl, HA, Out.refl _ _⟩
  case round =>
    clear HA
    obtain ⟨k, hk, rfl, rfl, HO, HU⟩ := hrel
    by_cases hlt : k < ps.length
    · have hhl : (half mkRound nmRound c ps k).length = ps.length := half_length _ _ _ _ _ hk
      have hO := HO.out
      obtain ⟨g, rfl⟩ := hO.blkOf (by omega)
      have hndk : (roundK.fp (.slice (some ⟨g, 0, none⟩) ps.length cap) (half mkRound nmRound c ps k)).Nodup := by rw [HF.out k hk]; exact hnd
      have hsub : Hid (∀ x ∈ roundK.foot ps[k], x ∈ roundK.fp (.slice (some ⟨g, 0, none⟩) ps.length cap) ps) := fun x hx => by
        simp only [Kind.fp, List.mem_append, List.mem_flatMap]
        exact Or.inr ⟨_, List.getElem_mem hlt, hx⟩
      have hg0 : Hid (∀ x ∈ [g], x ∈ roundK.fp (.slice (some ⟨g, 0, none⟩) ps.length cap) ps) := fun x hx => by
        simp only [List.mem_singleton] at hx
        subst hx
        simp [Kind.fp, blk, Value.ownBlock]
      have hltH : k < (half mkRound nmRound c ps k).length := by omega
      have hget := half_get mkRound nmRound c ps k hlt
      have hOk : roundK.Own wr (.slice (some ⟨g, 0, none⟩) ps.length cap) ((half mkRound nmRound c ps k).set k ps[k]) := by
        have e : (half mkRound nmRound c ps k).set k ps[k] = half mkRound nmRound c ps k := by
          rw [← hget, List.set_getElem_self]
        rw [e]; exact hO
      have hnk : (roundK.fp (.slice (some ⟨g, 0, none⟩) ps.length cap) ((half mkRound nmRound c ps k).set k ps[k])).Nodup := by
        have e : (half mkRound nmRound c ps k).set k ps[k] = half mkRound nmRound c ps k := by
          rw [← hget, List.set_getElem_self]
        rw [e]; exact hndk
      clear hget hO hndk
      have hset := half_set mkRound nmRound c ps k hlt
      have hsu := nmL_succ nmRound ps k hlt
      have hle := nmL_le nmRound ps (k + 1)
      have hzl := nm_le RoundQ.n ps k hlt
      have HSU : Hid ((nmL nmRound (ps.take (k + 1)) : Int) = (nmL nmRound (ps.take k) : Int) + (nmRound ps[k] : Int)) := show _ = _ by omega
      have hyb : (nmL nmRound (ps.take k) : Int) + (nmRound ps[k] : Int) ≤ nmL nmRound ps := by omega
      have HSET : Hid ((half mkRound nmRound c ps k).set k (mkRound (c + (nmL nmRound (ps.take k) : Int)) ps[k]) = half mkRound nmRound c ps (k + 1)) := hset
      clear hset hsu hle HO
      generalize half mkRound nmRound c ps k = hs at *
      generalize hpk : ps[k] = p at *
      clear hpk
      obtain ⟨z_vr, d_rep, z_vp, d_pro⟩ := p
      have hkL : k < hs.length := hltH
      dsimp only [nmRound, RoundQ.n] at HSU hyb hzl
      generalize hy : (nmL nmRound (ps.take k) : Int) = y at *
      have hy0 : 0 ≤ y := by omega
      clear hy
      obtain ⟨c0, f0⟩ := hOk.cell' hkL 0 (z_vr) rfl
      have c0 : wr.cell? ⟨g, k * 2, none⟩ = _ := c0
      have f0 : wr.frozen? ⟨g, k * 2, none⟩ = _ := f0
      have he0 := hOk.elem' hkL
      have hl0 : intK.Own wr z_vr d_rep := he0.1
      have hmk := markInts_k z_vr d_rep (c + y) _ hl0  (by omega) (by omega) (by omega)
      obtain ⟨sa0, sc0, hsh0⟩ := hl0.shape
      subst hsh0

      clear he0 hl0
      go_wp2_with fail
      refine hmk.mono ?_
      rintro e w20 ⟨rfl, hm0, ho0⟩
      clear hmk
      obtain ⟨hOn, hnn⟩ := hOk.turn' hnk hkL (⟨.slice sa0 d_rep.length sc0, mkInts (c + y) d_rep, z_vp, d_pro⟩ : RoundQ) ho0 (fun x hx => List.mem_append_left _ hx) rfl (by simp only [show ∀ p : RoundQ, roundK.foot p = intK.fp p.vr p.rep ++ intK.fp p.vp p.pro from fun _ => rfl, mkInts_fp]) (⟨hm0, (hOk.elem' hkL).2.out ho0 (nd_right (foot_nodup hnk hkL))⟩)
      have HU : Hid (Out (roundK.fp (.slice (some ⟨g, 0, none⟩) ps.length cap) ps) w w20) := HU.out.trans (ho0.mono (fun x hx => hsub.out x (show x ∈ roundK.foot _ from (fun x hx => List.mem_append_left _ hx) x hx)))
      have hOk := hOn
      have hnk := hnn
      obtain ⟨c1, f1⟩ := hOk.cell' hkL 1 (z_vp) rfl
      have c1 : w20.cell? ⟨g, k * 2 + 1, none⟩ = _ := c1
      have f1 : w20.frozen? ⟨g, k * 2 + 1, none⟩ = _ := f1
      have he1 := hOk.elem' hkL
      have hl1 : intK.Own w20 z_vp d_pro := he1.2
      have hmk := markInts_k z_vp d_pro (c + y + ((d_rep.length : Nat) : Int)) _ hl1  (by omega) (by omega) (by omega)
      obtain ⟨sa1, sc1, hsh1⟩ := hl1.shape
      subst hsh1

      clear he1 hl1
      go_wp2_with fail
      refine hmk.mono ?_
      rintro e w21 ⟨rfl, hm1, ho1⟩
      clear hmk
      obtain ⟨hOn, hnn⟩ := hOk.turn' hnk hkL (⟨.slice sa0 d_rep.length sc0, mkInts (c + y) d_rep, .slice sa1 d_pro.length sc1, mkInts (c + y + ((d_rep.length : Nat) : Int)) d_pro⟩ : RoundQ) ho1 (fun x hx => List.mem_append_right _ (hx)) rfl (by simp only [show ∀ p : RoundQ, roundK.foot p = intK.fp p.vr p.rep ++ intK.fp p.vp p.pro from fun _ => rfl, mkInts_fp]) (⟨(hOk.elem' hkL).1.out ho1 (nd_left (foot_nodup hnk hkL)), hm1⟩)
      have HU : Hid (Out (roundK.fp (.slice (some ⟨g, 0, none⟩) ps.length cap) ps) w w21) := HU.out.trans (ho1.mono (fun x hx => hsub.out x (show x ∈ roundK.foot _ from (fun x hx => List.mem_append_right _ (hx)) x hx)))
      have hOk := hOn
      have hnk := hnn
      have R : Hid (roundK.Own w21 (.slice (some ⟨g, 0, none⟩) ps.length cap) (half mkRound nmRound c ps (k + 1))) := by rw [← HSET.out]; exact hOk
      clear hOk hnk HSET hsub hg0
      go_wp2
      go_roundw
      case rel => exact ⟨k + 1, by omega, by rw [HSU.out]; congr 1; omega, by go_num, R.out, HU.out⟩
      case measure => simp [intOf]; omega
    · have hkl : k = ps.length := by omega
      subst hkl
      have hO := HO.out
      rw [half_all] at hO
      rw [List.take_length]
      clear HF HO
      go_wp2
      go_ret
      exact ⟨rfl, hO, HU.out⟩

end Go.Proofs.YtpjmlidbligcbaaGreatDoor

/- What the helpers of the laws do with lists of rounds, in the form of kinds: are the marks still there? No condition. -/
namespace Go.Proofs.YtpjmlidbligcbaaGreatDoor
open Go.RowKit
open Go.BigFrame
set_option linter.unusedVariables false
set_option maxRecDepth 100000
set_option linter.unusedSimpArgs false

end Go.Proofs.YtpjmlidbligcbaaGreatDoor

/- Two choices that are alike are told alike. -/
namespace Go.Proofs.YtpjmlidbligcbaaGreatDoor
open Go.RowKit
set_option linter.unusedVariables false
set_option maxRecDepth 100000
set_option linter.unusedSimpArgs false

end Go.Proofs.YtpjmlidbligcbaaGreatDoor

/- What the helpers of the laws do with an instance and with an answer that holds one, in the form of kinds: mark, held, compare. No condition. -/
namespace Go.Proofs.YtpjmlidbligcbaaGreatDoor
open Go.RowKit
open Go.BigFrame
set_option linter.unusedVariables false
set_option maxRecDepth 100000
set_option linter.unusedSimpArgs false

def mkInst (c : Int) (p : InstQ) : InstQ := ⟨p.has, p.vb, mkL mkTxn nmTxn c p.batch, p.vr, mkL mkRound nmRound (c + (nmL nmTxn p.batch : Int)) p.rounds, p.vd, mkInts (c + (nmL nmTxn p.batch : Int) + (nmL nmRound p.rounds : Int)) p.dec⟩
def nmInst (p : InstQ) : Nat := nmL nmTxn p.batch + nmL nmRound p.rounds + p.dec.length
theorem mkInst_foot (c : Int) (p : InstQ) : instK.foot (mkInst c p) = instK.foot p := by
  simp only [mkInst, show ∀ p : InstQ, instK.foot p = txnK.fp p.vb p.batch ++ (roundK.fp p.vr p.rounds ++ intK.fp p.vd p.dec) from fun _ => rfl, fp_mkL mkTxn_foot, fp_mkL mkRound_foot, mkInts_fp]
theorem nmTxn_le (ps : List TxnQ) : nmL nmTxn ps ≤ 3 * (ps.length + nmL TxnQ.n ps) := by
  induction ps with
  | nil => simp [nmL]
  | cons p r ih =>
    simp only [nmL, List.map_cons, List.sum_cons, List.length_cons] at ih ⊢
    simp only [nmTxn, TxnQ.n] at ih ⊢
    omega
theorem nmRound_le (ps : List RoundQ) : nmL nmRound ps ≤ nmL RoundQ.n ps := by
  induction ps with
  | nil => simp [nmL]
  | cons p r ih =>
    simp only [nmL, List.map_cons, List.sum_cons] at ih ⊢
    simp only [nmRound, RoundQ.n] at ih ⊢
    omega
theorem nmInst_le (p : InstQ) : nmInst p ≤ 3 * p.n := by
  have h1 := nmTxn_le p.batch
  have h2 := nmRound_le p.rounds
  unfold nmInst InstQ.n
  omega

theorem inst_n {q p : InstQ} (h : q.e = p.e) : q.n = p.n := by
  simp only [InstQ.e, InstE.mk.injEq] at h
  obtain ⟨_, h1, h2, h3⟩ := h
  have t1 : q.batch.length = p.batch.length := by simpa using congrArg List.length h1
  have t2 : nmL TxnQ.n q.batch = nmL TxnQ.n p.batch := by
    have := congrArg (fun l => nmL (fun d : TxnD => d.acts.length) l) h1
    simp only [nmL, List.map_map] at this
    exact this
  have t3 : q.rounds.length = p.rounds.length := by simpa using congrArg List.length h2
  have t4 : nmL RoundQ.n q.rounds = nmL RoundQ.n p.rounds := by
    have := congrArg (fun l => nmL (fun d : RoundE => d.rep.length + d.pro.length) l) h2
    simp only [nmL, List.map_map] at this
    exact this
  unfold InstQ.n
  rw [t1, t2, t3, t4, h3]

set_option maxHeartbeats 2000000 in
theorem markInstance_k (p : InstQ) (c : Int) (w : World) (h : instK.own w p) (hnd : (instK.foot p).Nodup) (hl : InstQ.n p ≤ 1048576) (h0 : 0 ≤ c) (h1 : c ≤ 1000000000) :
    Calls Tryz.prog 53 #[.agg #[.bool p.has, p.vb, p.vr, p.vd], .int .i64 c] w fun e w' => e = .returned (.int .i64 (c + (nmInst p : Int))) ∧ instK.own w' (mkInst c p) ∧ Out (instK.foot p) w w' := by
  have hm := nmInst_le p
  obtain ⟨has, vb, batch, vr, rounds, vd, dec⟩ := p
  obtain ⟨o1, o2, o3⟩ : txnK.Own w vb batch ∧ roundK.Own w vr rounds ∧ intK.Own w vd dec := h
  obtain ⟨n1, n23, d1⟩ := List.nodup_append.1 hnd
  obtain ⟨n2, n3, d2⟩ := List.nodup_append.1 n23
  have d12 : ∀ k ∈ roundK.fp vr rounds, k ∉ txnK.fp vb batch := fun k hk hk2 => d1 k hk2 k (List.mem_append_left _ hk) rfl
  have d13 : ∀ k ∈ intK.fp vd dec, k ∉ txnK.fp vb batch := fun k hk hk2 => d1 k hk2 k (List.mem_append_right _ hk) rfl
  have d21 : ∀ k ∈ txnK.fp vb batch, k ∉ roundK.fp vr rounds := fun k hk hk2 => d1 k hk k (List.mem_append_left _ hk2) rfl
  have d23 : ∀ k ∈ intK.fp vd dec, k ∉ roundK.fp vr rounds := fun k hk hk2 => d2 k hk2 k hk rfl
  have d31 : ∀ k ∈ txnK.fp vb batch, k ∉ intK.fp vd dec := fun k hk hk2 => d1 k hk k (List.mem_append_right _ hk2) rfl
  have d32 : ∀ k ∈ roundK.fp vr rounds, k ∉ intK.fp vd dec := fun k hk hk2 => d2 k hk k hk2 rfl
  have n1 : (txnK.fp vb batch).Nodup := n1
  have n2 : (roundK.fp vr rounds).Nodup := n2
  clear hnd d1 d2 n23 n3
  dsimp only [InstQ.n, nmInst] at hl hm
  have hF : Hid (∀ {w w' : World}, Out (txnK.fp vb batch) w w' → Out (instK.foot ⟨has, vb, batch, vr, rounds, vd, dec⟩) w w') := fun h => h.mono (fun k hk => List.mem_append_left _ hk)
  have hF2 : Hid (∀ {w w' : World}, Out (roundK.fp vr rounds) w w' → Out (instK.foot ⟨has, vb, batch, vr, rounds, vd, dec⟩) w w') := fun h => h.mono (fun k hk => List.mem_append_right _ (List.mem_append_left _ hk))
  have hF3 : Hid (∀ {w w' : World}, Out (intK.fp vd dec) w w' → Out (instK.foot ⟨has, vb, batch, vr, rounds, vd, dec⟩) w w') := fun h => h.mono (fun k hk => List.mem_append_right _ (List.mem_append_right _ hk))
  have hm1 := fun w h => markTxns_k vb batch c w h n1 (by omega) h0 (by omega)
  have hm2 := fun w h => markRounds_k vr rounds (c + (nmL nmTxn batch : Int)) w h n2 (by omega) (by omega) (by omega)
  have hm3 := fun w h => markInts_k vd dec (c + (nmL nmTxn batch : Int) + (nmL nmRound rounds : Int)) w h (by omega) (by omega) (by omega)
  have e1 : txnK.fp vb (mkL mkTxn nmTxn c batch) = txnK.fp vb batch := fp_mkL mkTxn_foot _ _ _
  have e2 : ∀ c, roundK.fp vr (mkL mkRound nmRound c rounds) = roundK.fp vr rounds := fun c => fp_mkL mkRound_foot _ _ _
  obtain ⟨a1, k1, rfl⟩ := o1.shape
  obtain ⟨a2, k2, rfl⟩ := o2.shape
  obtain ⟨a3, k3, rfl⟩ := o3.shape
  have B := Blk.new w 28 #[.bool has, .slice a1 batch.length k1, .slice a2 rounds.length k2, .slice a3 dec.length k3]
  have hB : Below w.heap.size w (w.alloc (.cells #[.bool has, .slice a1 batch.length k1, .slice a2 rounds.length k2, .slice a3 dec.length k3] 28)) := by go_grown
  have hlt1 := o1.lt
  have hlt2 := o2.lt
  have hlt3 := o3.lt
  have HB : Hid (w.heap.size ∉ txnK.fp (.slice a1 batch.length k1) batch ∧ w.heap.size ∉ roundK.fp (.slice a2 rounds.length k2) rounds) := And.intro (fun e => Nat.lt_irrefl _ (hlt1 _ e)) (fun e => Nat.lt_irrefl _ (hlt2 _ e))
  clear hlt1 hlt2 hlt3
  replace o1 := o1.below hB
  replace o2 := o2.below hB
  replace o3 := o3.below hB
  have HU : Hid (Out (instK.foot ⟨has, .slice a1 batch.length k1, batch, .slice a2 rounds.length k2, rounds, .slice a3 dec.length k3, dec⟩) w _) := Out.of_below hB
  clear hB
  go_enter Tryz.func53, Tryz.ntmps53
  go_wp2_with fail
  generalize w.alloc (.cells #[.bool has, .slice a1 batch.length k1, .slice a2 rounds.length k2, .slice a3 dec.length k3] 28) = W at *
  refine (hm1 W o1).mono ?_
  rintro e w1 ⟨rfl, O1, u1⟩
  replace o2 := o2.out u1 d12
  replace o3 := o3.out u1 d13
  replace B : Blk w1 _ _ _ := (u1.block _ B.lt HB.out.1).trans B
  have HU1 : Hid (Out (instK.foot ⟨has, .slice a1 batch.length k1, batch, .slice a2 rounds.length k2, rounds, .slice a3 dec.length k3, dec⟩) w w1) := HU.out.trans (hF.out u1)
  clear hm1 o1 HU u1
  have p2 := B.cell 2 _ rfl
  generalize hC1 : (nmL nmTxn batch : Int) = C1 at *
  go_wp2_with fail
  clear p2
  refine (hm2 w1 o2).mono ?_
  rintro e w2 ⟨rfl, O2, u2⟩
  replace O1 := O1.out u2 (by rw [e1]; exact d21)
  replace o3 := o3.out u2 d23
  replace B : Blk w2 _ _ _ := (u2.block _ B.lt HB.out.2).trans B
  have HU2 : Hid (Out (instK.foot ⟨has, .slice a1 batch.length k1, batch, .slice a2 rounds.length k2, rounds, .slice a3 dec.length k3, dec⟩) w w2) := HU1.out.trans (hF2.out u2)
  clear hm2 o2 HU1 u2
  have p3 := B.cell 3 _ rfl
  generalize hC2 : (nmL nmRound rounds : Int) = C2 at *
  go_wp2_with fail
  clear p3
  refine (hm3 w2 o3).mono ?_
  rintro e w3 ⟨rfl, O3, u3⟩
  replace O1 := O1.out u3 (by rw [e1]; exact d31)
  replace O2 := O2.out u3 (by rw [e2]; exact d32)
  have HU3 : Hid (Out (instK.foot ⟨has, .slice a1 batch.length k1, batch, .slice a2 rounds.length k2, rounds, .slice a3 dec.length k3, dec⟩) w w3) := HU2.out.trans (hF3.out u3)
  have R : Hid (instK.own w3 (mkInst c ⟨has, .slice a1 batch.length k1, batch, .slice a2 rounds.length k2, rounds, .slice a3 dec.length k3, dec⟩)) := by
    refine ⟨O1, ?_, ?_⟩
    · dsimp only [mkInst]
      rw [hC1]
      exact O2
    · dsimp only [mkInst]
      rw [hC1, hC2]
      exact O3
  clear hm3 o3 HU2 u3 B O1 O2 O3 HB hF hF2 hF3 e1 e2
  go_wp2
  go_ret
  refine ⟨?_, R.out, HU3.out⟩
  dsimp only [nmInst]
  have e : c + C1 + C2 + (dec.length : Int) = c + ((nmL nmTxn batch + nmL nmRound rounds + dec.length : Nat) : Int) := by omega
  rw [e]
  rfl

/-- An answer that holds an instance: the cells. -/
abbrev resC (code cc : Int) (cd ck : Bool) (cx : Int) (p : InstQ) : Array Value := #[.int .i64 code, .int .i64 cc, .bool cd, .bool ck, .int .i64 cx, .bool p.has, p.vb, p.vr, p.vd]

end Go.Proofs.YtpjmlidbligcbaaGreatDoor
