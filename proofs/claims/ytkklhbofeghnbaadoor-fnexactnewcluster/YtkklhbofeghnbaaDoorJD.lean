/- Texts that stand together: data, memory, helpers. No condition. -/
import Derived.Test.YtkklhbofeghnbaaDoorKIs
import Derived.Test.YtkklhbofeghnbaaDoorJB
namespace Go.Proofs.YtkklhbofeghnbaaDoor
open Go.RowKit
open Go.BigFrame
set_option linter.unusedVariables false
set_option linter.unusedSimpArgs false

abbrev mkTxns (c : Int) (ps : List TxnQ) : List TxnQ := mkL mkTxn nmTxn c ps
abbrev mkRounds (c : Int) (ps : List RoundQ) : List RoundQ := mkL mkRound nmRound c ps
theorem mkTxns_fp (v : Value) (c : Int) (ps : List TxnQ) : txnK.fp v (mkTxns c ps) = txnK.fp v ps := fp_mkL mkTxn_foot _ _ _
theorem mkRounds_fp (v : Value) (c : Int) (ps : List RoundQ) : roundK.fp v (mkRounds c ps) = roundK.fp v ps := fp_mkL mkRound_foot _ _ _

def mkInsS (c : Int) (p : InstQ) : InstQ := ⟨((c) % 3 == 0), p.vb, mkTxns (c + 1) p.batch, p.vr, mkRounds (c + 1 + ((nmL nmTxn p.batch : Nat) : Int)) p.rounds, p.vd, mkInts (c + 1 + ((nmL nmTxn p.batch : Nat) : Int) + ((nmL nmRound p.rounds : Nat) : Int)) p.dec⟩
def nmInsS (p : InstQ) : Nat := 1 + nmL nmTxn p.batch + nmL nmRound p.rounds + p.dec.length
theorem mkInsS_foot (c : Int) (p : InstQ) : instK.foot (mkInsS c p) = instK.foot p := by
  simp only [mkInsS, show ∀ p : InstQ, instK.foot p = txnK.fp p.vb p.batch ++ (roundK.fp p.vr p.rounds ++ intK.fp p.vd p.dec) from fun _ => rfl, mkTxns_fp, mkRounds_fp, mkInts_fp]

set_option maxHeartbeats 4000000 in
theorem markInstances_k (v : Value) (ps : List InstQ) (c : Int) (w : World) (h : instK.Own w v ps) (hnd : (instK.fp v ps).Nodup) (hl : (ps.length + nmL InstQ.n ps) ≤ 1048576) (h0 : 0 ≤ c) (h1 : c + (nmL nmInsS ps : Int) ≤ 1099511627776) :
    Calls Tryd.prog 19 #[v, .int .i64 c] w fun e w' => e = .returned (.int .i64 (c + (nmL nmInsS ps : Int))) ∧ instK.Own w' v (mkL mkInsS nmInsS c ps) ∧ Out (instK.fp v ps) w w' := by
  obtain ⟨a, cap, rfl⟩ := h.shape
  have hfph : ∀ k, k ≤ ps.length → instK.fp (.slice a ps.length cap) (half mkInsS nmInsS c ps k) = instK.fp (.slice a ps.length cap) ps := fun k hk => fp_half mkInsS_foot _ c ps k
  have HF : Hid (∀ k, k ≤ ps.length → instK.fp (.slice a ps.length cap) (half mkInsS nmInsS c ps k) = instK.fp (.slice a ps.length cap) ps) := hfph
  have HA : Hid (instK.Own w (.slice a ps.length cap) (half mkInsS nmInsS c ps 0)) := by rw [half_zero]; exact h
  clear hfph h
  go_enter Tryd.func19, Tryd.ntmps19
  go_wp2
  go_loopw [1, 5] (fun j i wr => ∃ k : Nat, k ≤ ps.length ∧ j = .int .i64 (c + (nmL nmInsS (ps.take k) : Int)) ∧ i = .int .i64 k ∧ Hid (instK.Own wr (.slice a ps.length cap) (half mkInsS nmInsS c ps k)) ∧ Hid (Out (instK.fp (.slice a ps.length cap) ps) w wr)) (fun _ i _ => ps.length - (intOf i).toNat)
  case atStart => exact ⟨0, Nat.zero_le _, by simp [nmL], rfl, HA, Out.refl _ _⟩
  case round =>
    clear HA
    obtain ⟨k, hk, rfl, rfl, HO, HU⟩ := hrel
    by_cases hlt : k < ps.length
    · have hhl : (half mkInsS nmInsS c ps k).length = ps.length := half_length _ _ _ _ _ hk
      have hO := HO.out
      obtain ⟨g, rfl⟩ := hO.blkOf (by omega)
      have hndk : (instK.fp (.slice (some ⟨g, 0, none⟩) ps.length cap) (half mkInsS nmInsS c ps k)).Nodup := by rw [HF.out k hk]; exact hnd
      have hsub : Hid (∀ x ∈ instK.foot ps[k], x ∈ instK.fp (.slice (some ⟨g, 0, none⟩) ps.length cap) ps) := fun x hx => by
        simp only [Kind.fp, List.mem_append, List.mem_flatMap]
        exact Or.inr ⟨_, List.getElem_mem hlt, hx⟩
      have hg0 : Hid (∀ x ∈ [g], x ∈ instK.fp (.slice (some ⟨g, 0, none⟩) ps.length cap) ps) := fun x hx => by
        simp only [List.mem_singleton] at hx
        subst hx
        simp [Kind.fp, blk, Value.ownBlock]
      have hltH : k < (half mkInsS nmInsS c ps k).length := by omega
      have hget := half_get mkInsS nmInsS c ps k hlt
      have hOk : instK.Own wr (.slice (some ⟨g, 0, none⟩) ps.length cap) ((half mkInsS nmInsS c ps k).set k ps[k]) := by
        have e : (half mkInsS nmInsS c ps k).set k ps[k] = half mkInsS nmInsS c ps k := by
          rw [← hget, List.set_getElem_self]
        rw [e]; exact hO
      have hnk : (instK.fp (.slice (some ⟨g, 0, none⟩) ps.length cap) ((half mkInsS nmInsS c ps k).set k ps[k])).Nodup := by
        have e : (half mkInsS nmInsS c ps k).set k ps[k] = half mkInsS nmInsS c ps k := by
          rw [← hget, List.set_getElem_self]
        rw [e]; exact hndk
      clear hget hO hndk
      have hset := half_set mkInsS nmInsS c ps k hlt
      have hsu := nmL_succ nmInsS ps k hlt
      have hle := nmL_le nmInsS ps (k + 1)
      have hzl := nm_le InstQ.n ps k hlt
      have HSU : Hid ((nmL nmInsS (ps.take (k + 1)) : Int) = (nmL nmInsS (ps.take k) : Int) + (nmInsS ps[k] : Int)) := show _ = _ by omega
      have hyb : (nmL nmInsS (ps.take k) : Int) + (nmInsS ps[k] : Int) ≤ nmL nmInsS ps := by omega
      have HSET : Hid ((half mkInsS nmInsS c ps k).set k (mkInsS (c + (nmL nmInsS (ps.take k) : Int)) ps[k]) = half mkInsS nmInsS c ps (k + 1)) := hset
      clear hset hsu hle HO
      generalize half mkInsS nmInsS c ps k = hs at *
      generalize hpk : ps[k] = p at *
      clear hpk
      obtain ⟨z_has, z_vb, d_batch, z_vr, d_rounds, z_vd, d_dec⟩ := p
      have hkL : k < hs.length := hltH
      dsimp only [nmInsS, InstQ.n] at HSU hyb hzl
      generalize hy : (nmL nmInsS (ps.take k) : Int) = y at *
      have hy0 : 0 ≤ y := by omega
      clear hy
      obtain ⟨c0, f0⟩ := hOk.cell' hkL 0 (.bool z_has) rfl
      obtain ⟨c1, f1⟩ := hOk.cell' hkL 1 (z_vb) rfl
      have c0 : wr.cell? ⟨g, k * 4, none⟩ = _ := c0
      have f0 : wr.frozen? ⟨g, k * 4, none⟩ = _ := f0
      have c1 : wr.cell? ⟨g, k * 4 + 1, none⟩ = _ := c1
      have f1 : wr.frozen? ⟨g, k * 4 + 1, none⟩ = _ := f1
      obtain ⟨hOn, hnn⟩ := hOk.store' hnk hkL (⟨((c + y) % 3 == 0), z_vb, d_batch, z_vr, d_rounds, z_vd, d_dec⟩ : InstQ) 0 (.bool ((c + y) % 3 == 0)) (by decide) rfl rfl (fun _ h => h)
      have hOk : instK.Own (wr.setCell ⟨g, k * 4, none⟩ (.bool ((c + y) % 3 == 0))) (.slice (some ⟨g, 0, none⟩) ps.length cap) (hs.set k (⟨((c + y) % 3 == 0), z_vb, d_batch, z_vr, d_rounds, z_vd, d_dec⟩ : InstQ)) := hOn
      have hnk := hnn
      have HU : Hid (Out (instK.fp (.slice (some ⟨g, 0, none⟩) ps.length cap) ps) w (wr.setCell ⟨g, k * 4, none⟩ (.bool ((c + y) % 3 == 0)))) := (HU.out.trans ((Out.setCell _ g (k * 4) (.bool ((c + y) % 3 == 0))).mono hg0.out))
      have he1 := hOk.elem' hkL
      have hl1 : txnK.Own (wr.setCell ⟨g, k * 4, none⟩ (.bool ((c + y) % 3 == 0))) z_vb d_batch := he1.1
      have hmk := markTxns_k z_vb d_batch (c + y + 1) _ hl1 (List.nodup_append.1 (foot_nodup hnk hkL)).1 (by omega) (by omega) (by omega)
      obtain ⟨sa1, sc1, hsh1⟩ := hl1.shape
      subst hsh1

      clear he1 hl1
      go_wp2_with fail
      refine hmk.mono ?_
      rintro e w21 ⟨rfl, hm1, ho1⟩
      clear hmk
      obtain ⟨hOn, hnn⟩ := hOk.turn' hnk hkL (⟨((c + y) % 3 == 0), .slice sa1 d_batch.length sc1, mkTxns (c + y + 1) d_batch, z_vr, d_rounds, z_vd, d_dec⟩ : InstQ) ho1 (fun x hx => List.mem_append_left _ hx) rfl (by simp only [show ∀ p : InstQ, instK.foot p = txnK.fp p.vb p.batch ++ (roundK.fp p.vr p.rounds ++ intK.fp p.vd p.dec) from fun _ => rfl, mkTxns_fp, mkRounds_fp, mkInts_fp]) (⟨hm1, (hOk.elem' hkL).2.1.out ho1 (fun k hk => nd_right (foot_nodup hnk hkL) k (List.mem_append_left _ hk)), (hOk.elem' hkL).2.2.out ho1 (fun k hk => nd_right (foot_nodup hnk hkL) k (List.mem_append_right _ hk))⟩)
      have HU : Hid (Out (instK.fp (.slice (some ⟨g, 0, none⟩) ps.length cap) ps) w w21) := HU.out.trans (ho1.mono (fun x hx => hsub.out x (show x ∈ instK.foot _ from (fun x hx => List.mem_append_left _ hx) x hx)))
      have hOk := hOn
      have hnk := hnn
      obtain ⟨c2, f2⟩ := hOk.cell' hkL 2 (z_vr) rfl
      have c2 : w21.cell? ⟨g, k * 4 + 2, none⟩ = _ := c2
      have f2 : w21.frozen? ⟨g, k * 4 + 2, none⟩ = _ := f2
      have he2 := hOk.elem' hkL
      have hl2 : roundK.Own w21 z_vr d_rounds := he2.2.1
      have hmk := markRounds_k z_vr d_rounds (c + y + 1 + ((nmL nmTxn d_batch : Nat) : Int)) _ hl2 (List.nodup_append.1 (List.nodup_append.1 (foot_nodup hnk hkL)).2.1).1 (by omega) (by omega) (by omega)
      obtain ⟨sa2, sc2, hsh2⟩ := hl2.shape
      subst hsh2

      clear he2 hl2
      go_wp2_with fail
      refine hmk.mono ?_
      rintro e w22 ⟨rfl, hm2, ho2⟩
      clear hmk
      obtain ⟨hOn, hnn⟩ := hOk.turn' hnk hkL (⟨((c + y) % 3 == 0), .slice sa1 d_batch.length sc1, mkTxns (c + y + 1) d_batch, .slice sa2 d_rounds.length sc2, mkRounds (c + y + 1 + ((nmL nmTxn d_batch : Nat) : Int)) d_rounds, z_vd, d_dec⟩ : InstQ) ho2 (fun x hx => List.mem_append_right _ (List.mem_append_left _ hx)) rfl (by simp only [show ∀ p : InstQ, instK.foot p = txnK.fp p.vb p.batch ++ (roundK.fp p.vr p.rounds ++ intK.fp p.vd p.dec) from fun _ => rfl, mkTxns_fp, mkRounds_fp, mkInts_fp]) (⟨(hOk.elem' hkL).1.out ho2 (fun k hk hk2 => nd_left (foot_nodup hnk hkL) k hk (List.mem_append_left _ hk2)), hm2, (hOk.elem' hkL).2.2.out ho2 (nd_right (List.nodup_append.1 (foot_nodup hnk hkL)).2.1)⟩)
      have HU : Hid (Out (instK.fp (.slice (some ⟨g, 0, none⟩) ps.length cap) ps) w w22) := HU.out.trans (ho2.mono (fun x hx => hsub.out x (show x ∈ instK.foot _ from (fun x hx => List.mem_append_right _ (List.mem_append_left _ hx)) x hx)))
      have hOk := hOn
      have hnk := hnn
      obtain ⟨c3, f3⟩ := hOk.cell' hkL 3 (z_vd) rfl
      have c3 : w22.cell? ⟨g, k * 4 + 3, none⟩ = _ := c3
      have f3 : w22.frozen? ⟨g, k * 4 + 3, none⟩ = _ := f3
      have he3 := hOk.elem' hkL
      have hl3 : intK.Own w22 z_vd d_dec := he3.2.2
      have hmk := markInts_k z_vd d_dec (c + y + 1 + ((nmL nmTxn d_batch : Nat) : Int) + ((nmL nmRound d_rounds : Nat) : Int)) _ hl3  (by omega) (by omega) (by omega)
      obtain ⟨sa3, sc3, hsh3⟩ := hl3.shape
      subst hsh3

      clear he3 hl3
      go_wp2_with fail
      refine hmk.mono ?_
      rintro e w23 ⟨rfl, hm3, ho3⟩
      clear hmk
      obtain ⟨hOn, hnn⟩ := hOk.turn' hnk hkL (⟨((c + y) % 3 == 0), .slice sa1 d_batch.length sc1, mkTxns (c + y + 1) d_batch, .slice sa2 d_rounds.length sc2, mkRounds (c + y + 1 + ((nmL nmTxn d_batch : Nat) : Int)) d_rounds, .slice sa3 d_dec.length sc3, mkInts (c + y + 1 + ((nmL nmTxn d_batch : Nat) : Int) + ((nmL nmRound d_rounds : Nat) : Int)) d_dec⟩ : InstQ) ho3 (fun x hx => List.mem_append_right _ (List.mem_append_right _ (hx))) rfl (by simp only [show ∀ p : InstQ, instK.foot p = txnK.fp p.vb p.batch ++ (roundK.fp p.vr p.rounds ++ intK.fp p.vd p.dec) from fun _ => rfl, mkTxns_fp, mkRounds_fp, mkInts_fp]) (⟨(hOk.elem' hkL).1.out ho3 (fun k hk hk2 => nd_left (foot_nodup hnk hkL) k hk (List.mem_append_right _ hk2)), (hOk.elem' hkL).2.1.out ho3 (nd_left (List.nodup_append.1 (foot_nodup hnk hkL)).2.1), hm3⟩)
      have HU : Hid (Out (instK.fp (.slice (some ⟨g, 0, none⟩) ps.length cap) ps) w w23) := HU.out.trans (ho3.mono (fun x hx => hsub.out x (show x ∈ instK.foot _ from (fun x hx => List.mem_append_right _ (List.mem_append_right _ (hx))) x hx)))
      have hOk := hOn
      have hnk := hnn
      have R : Hid (instK.Own w23 (.slice (some ⟨g, 0, none⟩) ps.length cap) (half mkInsS nmInsS c ps (k + 1))) := by rw [← HSET.out]; exact hOk
      clear hOk hnk HSET hsub hg0
      go_wp2
      go_roundw
      case rel => exact ⟨k + 1, by omega, by rw [HSU.out]; congr 1; omega, by go_num, R.out, HU.out⟩
      case measure => simp [intOf]; omega
    · have hkl : k = ps.length := by omega
      subst hkl
      have hO := HO.out
      rw [half_all] at hO
      rw [List.take_length]
      clear HF HO
      go_wp2
      go_ret
      exact ⟨rfl, hO, HU.out⟩

end Go.Proofs.YtkklhbofeghnbaaDoor

namespace Go.Proofs.YtkklhbofeghnbaaDoor
open Go.RowKit
open Go.BigFrame
set_option linter.unusedVariables false
set_option linter.unusedSimpArgs false

set_option maxHeartbeats 2000000 in
theorem heldInstances_k (v : Value) (ps : List InstQ) (c : Int) (w : World) (h : instK.At w v (mkL mkInsS nmInsS c ps)) (hl : (ps.length + nmL InstQ.n ps) ≤ 1048576) (h0 : 0 ≤ c) (h1 : c + (nmL nmInsS ps : Int) ≤ 1099511627776) :
    Calls Tryd.prog 21 #[v, .int .i64 c] w fun e w' => e = .returned (.int .i64 (c + (nmL nmInsS ps : Int))) ∧ Below w.heap.size w w' := by
  obtain ⟨a, cap, rfl⟩ := h.shape
  have hmk := mkL_length mkInsS nmInsS c ps
  rw [hmk] at h ⊢
  have HM : Hid ((mkL mkInsS nmInsS c ps).length = ps.length) := hmk
  clear hmk
  go_enter Tryd.func21, Tryd.ntmps21
  go_wp2
  go_loopw [1, 5] (fun j i wr => ∃ k : Nat, k ≤ ps.length ∧ j = .int .i64 (c + (nmL nmInsS (ps.take k) : Int)) ∧ i = .int .i64 k ∧ Below w.heap.size w wr) (fun _ i _ => ps.length - (intOf i).toNat)
  case atStart => exact ⟨0, Nat.zero_le _, by simp [nmL], rfl, Below.refl _ _⟩
  case round =>
    obtain ⟨k, hk, rfl, rfl, hb⟩ := hrel
    by_cases hlt : k < ps.length
    · have hltm : k < (mkL mkInsS nmInsS c ps).length := by have := HM.out; omega
      obtain ⟨b, off, rfl, hbs, hc, hrd⟩ := (h.below hb).cell (by decide) k hltm
      rw [mkL_get mkInsS nmInsS c ps k hlt] at hc hrd
      have hsu := nmL_succ nmInsS ps k hlt
      have hle := nmL_le nmInsS ps (k + 1)
      have hzl := nm_le InstQ.n ps k hlt
      have HSU : Hid ((nmL nmInsS (ps.take (k + 1)) : Int) = (nmL nmInsS (ps.take k) : Int) + (nmInsS ps[k] : Int)) := show _ = _ by omega
      have hyb : (nmL nmInsS (ps.take k) : Int) + (nmInsS ps[k] : Int) ≤ nmL nmInsS ps := by omega
      clear hsu hle h
      generalize hpk : ps[k] = p at *
      clear hpk
      obtain ⟨z_has, z_vb, d_batch, z_vr, d_rounds, z_vd, d_dec⟩ := p
      dsimp only [nmInsS, InstQ.n] at HSU hyb hzl
      generalize hy : (nmL nmInsS (ps.take k) : Int) = y at *
      have hy0 : 0 ≤ y := by omega
      clear hy
      have hc' : ∀ j x, (instK.cells (mkInsS (c + y) (⟨z_has, z_vb, d_batch, z_vr, d_rounds, z_vd, d_dec⟩ : InstQ)))[j]? = some x → wr.cell? ⟨b, off + k * 4 + j, none⟩ = some x := hc
      clear hc
      have c0 := hc' 0 (.bool ((c + y) % 3 == 0)) rfl
      have nb0 : (((c + y) % 3 == 0) != ((c + y) % 3 == 0)) = false := by simp
      have c1 := hc' 1 (z_vb) rfl
      have c2 := hc' 2 (z_vr) rfl
      have c3 := hc' 3 (z_vd) rfl
      obtain ⟨r1, r2, r3⟩ : txnK.At wr z_vb (mkTxns (c + y + 1) d_batch) ∧ roundK.At wr z_vr (mkRounds (c + y + 1 + ((nmL nmTxn d_batch : Nat) : Int)) d_rounds) ∧ intK.At wr z_vd (mkInts (c + y + 1 + ((nmL nmTxn d_batch : Nat) : Int) + ((nmL nmRound d_rounds : Nat) : Int)) d_dec) := hrd
      have hh1 := fun w h => heldTxns_k z_vb d_batch (c + y + 1) w h (by omega) (by omega) (by omega)
      have hh2 := fun w h => heldRounds_k z_vr d_rounds (c + y + 1 + ((nmL nmTxn d_batch : Nat) : Int)) w h (by omega) (by omega) (by omega)
      have hh3 := fun w h => heldInts_k z_vd d_dec (c + y + 1 + ((nmL nmTxn d_batch : Nat) : Int) + ((nmL nmRound d_rounds : Nat) : Int)) w h (by omega) (by omega) (by omega)
      obtain ⟨sa1, sc1, hsh1⟩ := r1.shape
      subst hsh1
      obtain ⟨sa2, sc2, hsh2⟩ := r2.shape
      subst hsh2
      obtain ⟨sa3, sc3, hsh3⟩ := r3.shape
      subst hsh3
      rw [Nat.add_zero] at c0
      clear hc'
      have nn1 : ¬ (c + y + 1 + ((nmL nmTxn d_batch : Nat) : Int) < 0) := by omega
      go_wp2_with fail
      refine (hh1 wr r1).mono ?_
      rintro e w1 ⟨rfl, hb1⟩
      replace hb := hb.trans (hb1.mono hb.size)
      replace c2 := (hb1.cell (p := ⟨b, _, none⟩) (World.block_lt_of_cell? _ _ c2)).trans c2
      replace c3 := (hb1.cell (p := ⟨b, _, none⟩) (World.block_lt_of_cell? _ _ c3)).trans c3
      replace r2 := r2.below hb1
      replace r3 := r3.below hb1
      clear hb1 hh1 c0 c1
      have nn2 : ¬ (c + y + 1 + ((nmL nmTxn d_batch : Nat) : Int) + ((nmL nmRound d_rounds : Nat) : Int) < 0) := by omega
      go_wp2_with fail
      refine (hh2 w1 r2).mono ?_
      rintro e w2 ⟨rfl, hb2⟩
      replace hb := hb.trans (hb2.mono hb.size)
      replace c3 := (hb2.cell (p := ⟨b, _, none⟩) (World.block_lt_of_cell? _ _ c3)).trans c3
      replace r3 := r3.below hb2
      clear hb2 hh2 c2
      have nn3 : ¬ (c + y + 1 + ((nmL nmTxn d_batch : Nat) : Int) + ((nmL nmRound d_rounds : Nat) : Int) + ((d_dec.length : Nat) : Int) < 0) := by omega
      go_wp2_with fail
      refine (hh3 w2 r3).mono ?_
      rintro e w3 ⟨rfl, hb3⟩
      replace hb := hb.trans (hb3.mono hb.size)
      clear hb3 hh3 c3
      go_wp2
      go_roundw
      case rel => exact ⟨k + 1, by omega, by rw [HSU.out]; congr 1; omega, by go_num, hb⟩
      case measure => simp [intOf]; omega
    · have hkl : k = ps.length := by omega
      subst hkl
      rw [List.take_length]
      go_wp2
      go_ret
      exact ⟨rfl, hb⟩

end Go.Proofs.YtkklhbofeghnbaaDoor
