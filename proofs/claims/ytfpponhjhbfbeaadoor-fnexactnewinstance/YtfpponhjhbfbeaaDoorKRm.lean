/- What the helpers of the laws do with lists of rounds, in the form of kinds: mark. No condition. -/
import Derived.Test.YtfpponhjhbfbeaaDoorKRs
namespace Go.Proofs.YtfpponhjhbfbeaaDoor
open Go.RowKit
open Go.BigFrame
set_option linter.unusedVariables false
set_option linter.unusedSimpArgs false

theorem nd_right {A B : List Nat} (h : (A ++ B).Nodup) : ∀ k ∈ B, k ∉ A := fun k hk hk2 => (List.nodup_append.1 h).2.2 k hk2 k hk rfl
theorem nd_left {A B : List Nat} (h : (A ++ B).Nodup) : ∀ k ∈ A, k ∉ B := fun k hk hk2 => (List.nodup_append.1 h).2.2 k hk k hk2 rfl
theorem foot_nodup {P : Type} {K : Kind P} {v : Value} {hs : List P} {k : Nat} {p : P} (h : (K.fp v (hs.set k p)).Nodup) (hk : k < hs.length) : (K.foot p).Nodup := by
  have h2 := (List.nodup_append.1 h).2.1
  rw [set_split hs k hk p] at h2
  simp only [List.flatMap_append, List.flatMap_cons] at h2
  exact (List.nodup_append.1 (List.nodup_append.1 h2).2.1).1

def mkRound (c : Int) (p : RoundQ) : RoundQ := ⟨p.vr, mkInts (c) p.rep, p.vp, mkInts (c + ((p.rep.length : Nat) : Int)) p.pro⟩
def nmRound (p : RoundQ) : Nat := p.rep.length + p.pro.length
theorem mkRound_foot (c : Int) (p : RoundQ) : roundK.foot (mkRound c p) = roundK.foot p := by
  simp only [mkRound, show ∀ p : RoundQ, roundK.foot p = intK.fp p.vr p.rep ++ intK.fp p.vp p.pro from fun _ => rfl, mkInts_fp, mkInts_fp]

set_option maxHeartbeats 4000000 in
theorem markRounds_k (v : Value) (ps : List RoundQ) (c : Int) (w : World) (h : roundK.Own w v ps) (hnd : (roundK.fp v ps).Nodup) (hl : (ps.length + nmL RoundQ.n ps) ≤ 1048576) (h0 : 0 ≤ c) (h1 : c + (nmL nmRound ps : Int) ≤ 1099511627776) :
    Calls Tryd.prog 25 #[v, .int .i64 c] w fun e w' => e = .returned (.int .i64 (c + (nmL nmRound ps : Int))) ∧ roundK.Own w' v (mkL mkRound nmRound c ps) ∧ Out (roundK.fp v ps) w w' := by
  obtain ⟨a, cap, rfl⟩ := h.shape
  have hfph : ∀ k, k ≤ ps.length → roundK.fp (.slice a ps.length cap) (half mkRound nmRound c ps k) = roundK.fp (.slice a ps.length cap) ps := fun k hk => fp_half mkRound_foot _ c ps k
  have HF : Hid (∀ k, k ≤ ps.length → roundK.fp (.slice a ps.length cap) (half mkRound nmRound c ps k) = roundK.fp (.slice a ps.length cap) ps) := hfph
  have HA : Hid (roundK.Own w (.slice a ps.length cap) (half mkRound nmRound c ps 0)) := by rw [half_zero]; exact h
  clear hfph h
  go_enter Tryd.func25, Tryd.ntmps25
  go_wp2
  go_loopw [1, 5] (fun j i wr => ∃ k : Nat, k ≤ ps.length ∧ j = .int .i64 (c + (nmL nmRound (ps.take k) : Int)) ∧ i = .int .i64 k ∧ Hid (roundK.Own wr (.slice a ps.length cap) (half mkRound nmRound c ps k)) ∧ Hid (Out (roundK.fp (.slice a ps.length cap) ps) w wr)) (fun _ i _ => ps.length - (intOf i).toNat)
  case atStart => exact ⟨0, Nat.zero_le _, by simp [nmL], rfl, HA, Out.refl _ _⟩
  case round =>
    clear HA
    obtain ⟨k, hk, rfl, rfl, HO, HU⟩ := hrel
    by_cases hlt : k < ps.length
    · have hhl : (half mkRound nmRound c ps k).length = ps.length := half_length _ _ _ _ _ hk
      have hO := HO.out
      obtain ⟨g, rfl⟩ := hO.blkOf (by omega)
      have hndk : (roundK.fp (.slice (some ⟨g, 0, none⟩) ps.length cap) (half mkRound nmRound c ps k)).Nodup := by rw [HF.out k hk]; exact hnd
      have hsub : Hid (∀ x ∈ roundK.foot ps[k], x ∈ roundK.fp (.slice (some ⟨g, 0, none⟩) ps.length cap) ps) := fun x hx => by
        simp only [Kind.fp, List.mem_append, List.mem_flatMap]
        exact Or.inr ⟨_, List.getElem_mem hlt, hx⟩
      have hg0 : Hid (∀ x ∈ [g], x ∈ roundK.fp (.slice (some ⟨g, 0, none⟩) ps.length cap) ps) := fun x hx => by
        simp only [List.mem_singleton] at hx
        subst hx
        simp [Kind.fp, blk, Value.ownBlock]
      have hltH : k < (half mkRound nmRound c ps k).length := by omega
      have hget := half_get mkRound nmRound c ps k hlt
      have hOk : roundK.Own wr (.slice (some ⟨g, 0, none⟩) ps.length cap) ((half mkRound nmRound c ps k).set k ps[k]) := by
        have e : (half mkRound nmRound c ps k).set k ps[k] = half mkRound nmRound c ps k := by
          rw [← hget, List.set_getElem_self]
        rw [e]; exact hO
      have hnk : (roundK.fp (.slice (some ⟨g, 0, none⟩) ps.length cap) ((half mkRound nmRound c ps k).set k ps[k])).Nodup := by
        have e : (half mkRound nmRound c ps k).set k ps[k] = half mkRound nmRound c ps k := by
          rw [← hget, List.set_getElem_self]
        rw [e]; exact hndk
      clear hget hO hndk
      have hset := half_set mkRound nmRound c ps k hlt
      have hsu := nmL_succ nmRound ps k hlt
      have hle := nmL_le nmRound ps (k + 1)
      have hzl := nm_le RoundQ.n ps k hlt
      have HSU : Hid ((nmL nmRound (ps.take (k + 1)) : Int) = (nmL nmRound (ps.take k) : Int) + (nmRound ps[k] : Int)) := show _ = _ by omega
      have hyb : (nmL nmRound (ps.take k) : Int) + (nmRound ps[k] : Int) ≤ nmL nmRound ps := by omega
      have HSET : Hid ((half mkRound nmRound c ps k).set k (mkRound (c + (nmL nmRound (ps.take k) : Int)) ps[k]) = half mkRound nmRound c ps (k + 1)) := hset
      clear hset hsu hle HO
      generalize half mkRound nmRound c ps k = hs at *
      generalize hpk : ps[k] = p at *
      clear hpk
      obtain ⟨z_vr, d_rep, z_vp, d_pro⟩ := p
      have hkL : k < hs.length := hltH
      dsimp only [nmRound, RoundQ.n] at HSU hyb hzl
      generalize hy : (nmL nmRound (ps.take k) : Int) = y at *
      have hy0 : 0 ≤ y := by omega
      clear hy
      obtain ⟨c0, f0⟩ := hOk.cell' hkL 0 (z_vr) rfl
      have c0 : wr.cell? ⟨g, k * 2, none⟩ = _ := c0
      have f0 : wr.frozen? ⟨g, k * 2, none⟩ = _ := f0
      have he0 := hOk.elem' hkL
      have hl0 : intK.Own wr z_vr d_rep := he0.1
      have hmk := markInts_k z_vr d_rep (c + y) _ hl0  (by omega) (by omega) (by omega)
      obtain ⟨sa0, sc0, hsh0⟩ := hl0.shape
      subst hsh0

      clear he0 hl0
      go_wp2_with fail
      refine hmk.mono ?_
      rintro e w20 ⟨rfl, hm0, ho0⟩
      clear hmk
      obtain ⟨hOn, hnn⟩ := hOk.turn' hnk hkL (⟨.slice sa0 d_rep.length sc0, mkInts (c + y) d_rep, z_vp, d_pro⟩ : RoundQ) ho0 (fun x hx => List.mem_append_left _ hx) rfl (by simp only [show ∀ p : RoundQ, roundK.foot p = intK.fp p.vr p.rep ++ intK.fp p.vp p.pro from fun _ => rfl, mkInts_fp]) (⟨hm0, (hOk.elem' hkL).2.out ho0 (nd_right (foot_nodup hnk hkL))⟩)
      have HU : Hid (Out (roundK.fp (.slice (some ⟨g, 0, none⟩) ps.length cap) ps) w w20) := HU.out.trans (ho0.mono (fun x hx => hsub.out x (show x ∈ roundK.foot _ from (fun x hx => List.mem_append_left _ hx) x hx)))
      have hOk := hOn
      have hnk := hnn
      obtain ⟨c1, f1⟩ := hOk.cell' hkL 1 (z_vp) rfl
      have c1 : w20.cell? ⟨g, k * 2 + 1, none⟩ = _ := c1
      have f1 : w20.frozen? ⟨g, k * 2 + 1, none⟩ = _ := f1
      have he1 := hOk.elem' hkL
      have hl1 : intK.Own w20 z_vp d_pro := he1.2
      have hmk := markInts_k z_vp d_pro (c + y + ((d_rep.length : Nat) : Int)) _ hl1  (by omega) (by omega) (by omega)
      obtain ⟨sa1, sc1, hsh1⟩ := hl1.shape
      subst hsh1

      clear he1 hl1
      go_wp2_with fail
      refine hmk.mono ?_
      rintro e w21 ⟨rfl, hm1, ho1⟩
      clear hmk
      obtain ⟨hOn, hnn⟩ := hOk.turn' hnk hkL (⟨.slice sa0 d_rep.length sc0, mkInts (c + y) d_rep, .slice sa1 d_pro.length sc1, mkInts (c + y + ((d_rep.length : Nat) : Int)) d_pro⟩ : RoundQ) ho1 (fun x hx => List.mem_append_right _ (hx)) rfl (by simp only [show ∀ p : RoundQ, roundK.foot p = intK.fp p.vr p.rep ++ intK.fp p.vp p.pro from fun _ => rfl, mkInts_fp]) (⟨(hOk.elem' hkL).1.out ho1 (nd_left (foot_nodup hnk hkL)), hm1⟩)
      have HU : Hid (Out (roundK.fp (.slice (some ⟨g, 0, none⟩) ps.length cap) ps) w w21) := HU.out.trans (ho1.mono (fun x hx => hsub.out x (show x ∈ roundK.foot _ from (fun x hx => List.mem_append_right _ (hx)) x hx)))
      have hOk := hOn
      have hnk := hnn
      have R : Hid (roundK.Own w21 (.slice (some ⟨g, 0, none⟩) ps.length cap) (half mkRound nmRound c ps (k + 1))) := by rw [← HSET.out]; exact hOk
      clear hOk hnk HSET hsub hg0
      go_wp2
      go_roundw
      case rel => exact ⟨k + 1, by omega, by rw [HSU.out]; congr 1; omega, by go_num, R.out, HU.out⟩
      case measure => simp [intOf]; omega
    · have hkl : k = ps.length := by omega
      subst hkl
      have hO := HO.out
      rw [half_all] at hO
      rw [List.take_length]
      clear HF HO
      go_wp2
      go_ret
      exact ⟨rfl, hO, HU.out⟩

end Go.Proofs.YtfpponhjhbfbeaaDoor
