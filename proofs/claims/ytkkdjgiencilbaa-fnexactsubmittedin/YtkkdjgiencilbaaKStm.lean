/- Lists of steps, marked. No condition. -/
import Derived.Test.YtkkdjgiencilbaaKSt
namespace Go.Proofs.Ytkkdjgiencilbaa
open Go.RowKit
open Go.BigFrame
set_option linter.unusedVariables false
set_option linter.unusedSimpArgs false

set_option maxRecDepth 100000
def mkStep (c : Int) (p : StepQ) : StepQ := ⟨c, c + 1, c + 1 + 1, c + 1 + 1 + 1, c + 1 + 1 + 1 + 1, c + 1 + 1 + 1 + 1 + 1, p.va, mkActs (c + 1 + 1 + 1 + 1 + 1 + 1) p.acts, c + 1 + 1 + 1 + 1 + 1 + 1 + ((p.acts.length * 3 : Nat) : Int), c + 1 + 1 + 1 + 1 + 1 + 1 + ((p.acts.length * 3 : Nat) : Int) + 1, c + 1 + 1 + 1 + 1 + 1 + 1 + ((p.acts.length * 3 : Nat) : Int) + 1 + 1, c + 1 + 1 + 1 + 1 + 1 + 1 + ((p.acts.length * 3 : Nat) : Int) + 1 + 1 + 1⟩
def nmStep (p : StepQ) : Nat := 1 + 1 + 1 + 1 + 1 + 1 + p.acts.length * 3 + 1 + 1 + 1 + 1
theorem mkStep_foot (c : Int) (p : StepQ) : stepK.foot (mkStep c p) = stepK.foot p := by
  simp only [mkStep, show ∀ p : StepQ, stepK.foot p = actK.fp p.va p.acts from fun _ => rfl, mkActs_fp]

set_option maxHeartbeats 4000000 in
theorem markSteps_k (v : Value) (ps : List StepQ) (c : Int) (w : World) (h : stepK.Own w v ps) (hnd : (stepK.fp v ps).Nodup) (hl : (ps.length + nmL StepQ.n ps) ≤ 1048576) (h0 : 0 ≤ c) (h1 : c + (nmL nmStep ps : Int) ≤ 1099511627776) :
    Calls Try.prog 23 #[v, .int .i64 c] w fun e w' => e = .returned (.int .i64 (c + (nmL nmStep ps : Int))) ∧ stepK.Own w' v (mkL mkStep nmStep c ps) ∧ Out (stepK.fp v ps) w w' := by
  obtain ⟨a, cap, rfl⟩ := h.shape
  have hfph : ∀ k, k ≤ ps.length → stepK.fp (.slice a ps.length cap) (half mkStep nmStep c ps k) = stepK.fp (.slice a ps.length cap) ps := fun k hk => fp_half mkStep_foot _ c ps k
  have HF : Hid (∀ k, k ≤ ps.length → stepK.fp (.slice a ps.length cap) (half mkStep nmStep c ps k) = stepK.fp (.slice a ps.length cap) ps) := hfph
  have HA : Hid (stepK.Own w (.slice a ps.length cap) (half mkStep nmStep c ps 0)) := by rw [half_zero]; exact h
  clear hfph h
  go_enter Try.func23, Try.ntmps23
  go_wp2
  go_loopw [1, 5] (fun j i wr => ∃ k : Nat, k ≤ ps.length ∧ j = .int .i64 (c + (nmL nmStep (ps.take k) : Int)) ∧ i = .int .i64 k ∧ Hid (stepK.Own wr (.slice a ps.length cap) (half mkStep nmStep c ps k)) ∧ Hid (Out (stepK.fp (.slice a ps.length cap) ps) w wr)) (fun _ i _ => ps.length - (intOf i).toNat)
  case atStart => exact ⟨0, Nat.zero_le _, by simp [nmL], rfl, HA, Out.refl _ _⟩
  case round =>
    clear HA
    obtain ⟨k, hk, rfl, rfl, HO, HU⟩ := hrel
    by_cases hlt : k < ps.length
    · have hhl : (half mkStep nmStep c ps k).length = ps.length := half_length _ _ _ _ _ hk
      have hO := HO.out
      obtain ⟨g, rfl⟩ := hO.blkOf (by omega)
      have hndk : (stepK.fp (.slice (some ⟨g, 0, none⟩) ps.length cap) (half mkStep nmStep c ps k)).Nodup := by rw [HF.out k hk]; exact hnd
      have hsub : Hid (∀ x ∈ stepK.foot ps[k], x ∈ stepK.fp (.slice (some ⟨g, 0, none⟩) ps.length cap) ps) := fun x hx => by
        simp only [Kind.fp, List.mem_append, List.mem_flatMap]
        exact Or.inr ⟨_, List.getElem_mem hlt, hx⟩
      have hg0 : Hid (∀ x ∈ [g], x ∈ stepK.fp (.slice (some ⟨g, 0, none⟩) ps.length cap) ps) := fun x hx => by
        simp only [List.mem_singleton] at hx
        subst hx
        simp [Kind.fp, blk, Value.ownBlock]
      have hltH : k < (half mkStep nmStep c ps k).length := by omega
      have hget := half_get mkStep nmStep c ps k hlt
      have hOk : stepK.Own wr (.slice (some ⟨g, 0, none⟩) ps.length cap) ((half mkStep nmStep c ps k).set k ps[k]) := by
        have e : (half mkStep nmStep c ps k).set k ps[k] = half mkStep nmStep c ps k := by
          rw [← hget, List.set_getElem_self]
        rw [e]; exact hO
      have hnk : (stepK.fp (.slice (some ⟨g, 0, none⟩) ps.length cap) ((half mkStep nmStep c ps k).set k ps[k])).Nodup := by
        have e : (half mkStep nmStep c ps k).set k ps[k] = half mkStep nmStep c ps k := by
          rw [← hget, List.set_getElem_self]
        rw [e]; exact hndk
      clear hget hO hndk
      have hset := half_set mkStep nmStep c ps k hlt
      have hsu := nmL_succ nmStep ps k hlt
      have hle := nmL_le nmStep ps (k + 1)
      have hzl := nm_le StepQ.n ps k hlt
      have HSU : Hid ((nmL nmStep (ps.take (k + 1)) : Int) = (nmL nmStep (ps.take k) : Int) + (nmStep ps[k] : Int)) := show _ = _ by omega
      have hyb : (nmL nmStep (ps.take k) : Int) + (nmStep ps[k] : Int) ≤ nmL nmStep ps := by omega
      have HSET : Hid ((half mkStep nmStep c ps k).set k (mkStep (c + (nmL nmStep (ps.take k) : Int)) ps[k]) = half mkStep nmStep c ps (k + 1)) := hset
      clear hset hsu hle HO
      generalize half mkStep nmStep c ps k = hs at *
      generalize hpk : ps[k] = p at *
      clear hpk
      obtain ⟨z_kd, z_nd, z_nn, z_i, z_s, z_q, z_va, d_acts, z_vk, z_vr, z_vn, z_vv⟩ := p
      have hkL : k < hs.length := hltH
      dsimp only [nmStep, StepQ.n] at HSU hyb hzl
      generalize hy : (nmL nmStep (ps.take k) : Int) = y at *
      have hy0 : 0 ≤ y := by omega
      clear hy
      obtain ⟨c0, f0⟩ := hOk.cell' hkL 0 (.int .i64 z_kd) rfl
      obtain ⟨c1, f1⟩ := hOk.cell' hkL 1 (.int .i64 z_nd) rfl
      obtain ⟨c2, f2⟩ := hOk.cell' hkL 2 (.int .i64 z_nn) rfl
      obtain ⟨c3, f3⟩ := hOk.cell' hkL 3 (.int .i64 z_i) rfl
      obtain ⟨c4, f4⟩ := hOk.cell' hkL 4 (.int .i64 z_s) rfl
      obtain ⟨c5, f5⟩ := hOk.cell' hkL 5 (.int .i64 z_q) rfl
      obtain ⟨c6, f6⟩ := hOk.cell' hkL 6 (z_va) rfl
      have c0 : wr.cell? ⟨g, k * 11, none⟩ = _ := c0
      have f0 : wr.frozen? ⟨g, k * 11, none⟩ = _ := f0
      have c1 : wr.cell? ⟨g, k * 11 + 1, none⟩ = _ := c1
      have f1 : wr.frozen? ⟨g, k * 11 + 1, none⟩ = _ := f1
      have c2 : wr.cell? ⟨g, k * 11 + 2, none⟩ = _ := c2
      have f2 : wr.frozen? ⟨g, k * 11 + 2, none⟩ = _ := f2
      have c3 : wr.cell? ⟨g, k * 11 + 3, none⟩ = _ := c3
      have f3 : wr.frozen? ⟨g, k * 11 + 3, none⟩ = _ := f3
      have c4 : wr.cell? ⟨g, k * 11 + 4, none⟩ = _ := c4
      have f4 : wr.frozen? ⟨g, k * 11 + 4, none⟩ = _ := f4
      have c5 : wr.cell? ⟨g, k * 11 + 5, none⟩ = _ := c5
      have f5 : wr.frozen? ⟨g, k * 11 + 5, none⟩ = _ := f5
      have c6 : wr.cell? ⟨g, k * 11 + 6, none⟩ = _ := c6
      have f6 : wr.frozen? ⟨g, k * 11 + 6, none⟩ = _ := f6
      obtain ⟨hOn, hnn⟩ := hOk.store' hnk hkL (⟨c + y, z_nd, z_nn, z_i, z_s, z_q, z_va, d_acts, z_vk, z_vr, z_vn, z_vv⟩ : StepQ) 0 (.int .i64 (c + y)) (by decide) rfl rfl (fun _ h => h)
      have hOk : stepK.Own (wr.setCell ⟨g, k * 11, none⟩ (.int .i64 (c + y))) (.slice (some ⟨g, 0, none⟩) ps.length cap) (hs.set k (⟨c + y, z_nd, z_nn, z_i, z_s, z_q, z_va, d_acts, z_vk, z_vr, z_vn, z_vv⟩ : StepQ)) := hOn
      have hnk := hnn
      obtain ⟨hOn, hnn⟩ := hOk.store' hnk hkL (⟨c + y, c + y + 1, z_nn, z_i, z_s, z_q, z_va, d_acts, z_vk, z_vr, z_vn, z_vv⟩ : StepQ) 1 (.int .i64 (c + y + 1)) (by decide) rfl rfl (fun _ h => h)
      have hOk : stepK.Own ((wr.setCell ⟨g, k * 11, none⟩ (.int .i64 (c + y))).setCell ⟨g, k * 11 + 1, none⟩ (.int .i64 (c + y + 1))) (.slice (some ⟨g, 0, none⟩) ps.length cap) (hs.set k (⟨c + y, c + y + 1, z_nn, z_i, z_s, z_q, z_va, d_acts, z_vk, z_vr, z_vn, z_vv⟩ : StepQ)) := hOn
      have hnk := hnn
      obtain ⟨hOn, hnn⟩ := hOk.store' hnk hkL (⟨c + y, c + y + 1, c + y + 1 + 1, z_i, z_s, z_q, z_va, d_acts, z_vk, z_vr, z_vn, z_vv⟩ : StepQ) 2 (.int .i64 (c + y + 1 + 1)) (by decide) rfl rfl (fun _ h => h)
      have hOk : stepK.Own (((wr.setCell ⟨g, k * 11, none⟩ (.int .i64 (c + y))).setCell ⟨g, k * 11 + 1, none⟩ (.int .i64 (c + y + 1))).setCell ⟨g, k * 11 + 2, none⟩ (.int .i64 (c + y + 1 + 1))) (.slice (some ⟨g, 0, none⟩) ps.length cap) (hs.set k (⟨c + y, c + y + 1, c + y + 1 + 1, z_i, z_s, z_q, z_va, d_acts, z_vk, z_vr, z_vn, z_vv⟩ : StepQ)) := hOn
      have hnk := hnn
      obtain ⟨hOn, hnn⟩ := hOk.store' hnk hkL (⟨c + y, c + y + 1, c + y + 1 + 1, c + y + 1 + 1 + 1, z_s, z_q, z_va, d_acts, z_vk, z_vr, z_vn, z_vv⟩ : StepQ) 3 (.int .i64 (c + y + 1 + 1 + 1)) (by decide) rfl rfl (fun _ h => h)
      have hOk : stepK.Own ((((wr.setCell ⟨g, k * 11, none⟩ (.int .i64 (c + y))).setCell ⟨g, k * 11 + 1, none⟩ (.int .i64 (c + y + 1))).setCell ⟨g, k * 11 + 2, none⟩ (.int .i64 (c + y + 1 + 1))).setCell ⟨g, k * 11 + 3, none⟩ (.int .i64 (c + y + 1 + 1 + 1))) (.slice (some ⟨g, 0, none⟩) ps.length cap) (hs.set k (⟨c + y, c + y + 1, c + y + 1 + 1, c + y + 1 + 1 + 1, z_s, z_q, z_va, d_acts, z_vk, z_vr, z_vn, z_vv⟩ : StepQ)) := hOn
      have hnk := hnn
      obtain ⟨hOn, hnn⟩ := hOk.store' hnk hkL (⟨c + y, c + y + 1, c + y + 1 + 1, c + y + 1 + 1 + 1, c + y + 1 + 1 + 1 + 1, z_q, z_va, d_acts, z_vk, z_vr, z_vn, z_vv⟩ : StepQ) 4 (.int .i64 (c + y + 1 + 1 + 1 + 1)) (by decide) rfl rfl (fun _ h => h)
      have hOk : stepK.Own (((((wr.setCell ⟨g, k * 11, none⟩ (.int .i64 (c + y))).setCell ⟨g, k * 11 + 1, none⟩ (.int .i64 (c + y + 1))).setCell ⟨g, k * 11 + 2, none⟩ (.int .i64 (c + y + 1 + 1))).setCell ⟨g, k * 11 + 3, none⟩ (.int .i64 (c + y + 1 + 1 + 1))).setCell ⟨g, k * 11 + 4, none⟩ (.int .i64 (c + y + 1 + 1 + 1 + 1))) (.slice (some ⟨g, 0, none⟩) ps.length cap) (hs.set k (⟨c + y, c + y + 1, c + y + 1 + 1, c + y + 1 + 1 + 1, c + y + 1 + 1 + 1 + 1, z_q, z_va, d_acts, z_vk, z_vr, z_vn, z_vv⟩ : StepQ)) := hOn
      have hnk := hnn
      obtain ⟨hOn, hnn⟩ := hOk.store' hnk hkL (⟨c + y, c + y + 1, c + y + 1 + 1, c + y + 1 + 1 + 1, c + y + 1 + 1 + 1 + 1, c + y + 1 + 1 + 1 + 1 + 1, z_va, d_acts, z_vk, z_vr, z_vn, z_vv⟩ : StepQ) 5 (.int .i64 (c + y + 1 + 1 + 1 + 1 + 1)) (by decide) rfl rfl (fun _ h => h)
      have hOk : stepK.Own ((((((wr.setCell ⟨g, k * 11, none⟩ (.int .i64 (c + y))).setCell ⟨g, k * 11 + 1, none⟩ (.int .i64 (c + y + 1))).setCell ⟨g, k * 11 + 2, none⟩ (.int .i64 (c + y + 1 + 1))).setCell ⟨g, k * 11 + 3, none⟩ (.int .i64 (c + y + 1 + 1 + 1))).setCell ⟨g, k * 11 + 4, none⟩ (.int .i64 (c + y + 1 + 1 + 1 + 1))).setCell ⟨g, k * 11 + 5, none⟩ (.int .i64 (c + y + 1 + 1 + 1 + 1 + 1))) (.slice (some ⟨g, 0, none⟩) ps.length cap) (hs.set k (⟨c + y, c + y + 1, c + y + 1 + 1, c + y + 1 + 1 + 1, c + y + 1 + 1 + 1 + 1, c + y + 1 + 1 + 1 + 1 + 1, z_va, d_acts, z_vk, z_vr, z_vn, z_vv⟩ : StepQ)) := hOn
      have hnk := hnn
      have HU : Hid (Out (stepK.fp (.slice (some ⟨g, 0, none⟩) ps.length cap) ps) w ((((((wr.setCell ⟨g, k * 11, none⟩ (.int .i64 (c + y))).setCell ⟨g, k * 11 + 1, none⟩ (.int .i64 (c + y + 1))).setCell ⟨g, k * 11 + 2, none⟩ (.int .i64 (c + y + 1 + 1))).setCell ⟨g, k * 11 + 3, none⟩ (.int .i64 (c + y + 1 + 1 + 1))).setCell ⟨g, k * 11 + 4, none⟩ (.int .i64 (c + y + 1 + 1 + 1 + 1))).setCell ⟨g, k * 11 + 5, none⟩ (.int .i64 (c + y + 1 + 1 + 1 + 1 + 1)))) := ((((((HU.out.trans ((Out.setCell _ g (k * 11) (.int .i64 (c + y))).mono hg0.out)).trans ((Out.setCell _ g (k * 11 + 1) (.int .i64 (c + y + 1))).mono hg0.out)).trans ((Out.setCell _ g (k * 11 + 2) (.int .i64 (c + y + 1 + 1))).mono hg0.out)).trans ((Out.setCell _ g (k * 11 + 3) (.int .i64 (c + y + 1 + 1 + 1))).mono hg0.out)).trans ((Out.setCell _ g (k * 11 + 4) (.int .i64 (c + y + 1 + 1 + 1 + 1))).mono hg0.out)).trans ((Out.setCell _ g (k * 11 + 5) (.int .i64 (c + y + 1 + 1 + 1 + 1 + 1))).mono hg0.out))
      have he6 := hOk.elem' hkL
      have hl6 : actK.Own ((((((wr.setCell ⟨g, k * 11, none⟩ (.int .i64 (c + y))).setCell ⟨g, k * 11 + 1, none⟩ (.int .i64 (c + y + 1))).setCell ⟨g, k * 11 + 2, none⟩ (.int .i64 (c + y + 1 + 1))).setCell ⟨g, k * 11 + 3, none⟩ (.int .i64 (c + y + 1 + 1 + 1))).setCell ⟨g, k * 11 + 4, none⟩ (.int .i64 (c + y + 1 + 1 + 1 + 1))).setCell ⟨g, k * 11 + 5, none⟩ (.int .i64 (c + y + 1 + 1 + 1 + 1 + 1))) z_va d_acts := he6
      have hmk := markActs_k z_va d_acts (c + y + 1 + 1 + 1 + 1 + 1 + 1) _ hl6  (by omega) (by omega) (by omega)
      obtain ⟨sa6, sc6, hsh6⟩ := hl6.shape
      subst hsh6

      clear he6 hl6
      go_wp2_with fail
      refine hmk.mono ?_
      rintro e w26 ⟨rfl, hm6, ho6⟩
      clear hmk
      obtain ⟨hOn, hnn⟩ := hOk.turn' hnk hkL (⟨c + y, c + y + 1, c + y + 1 + 1, c + y + 1 + 1 + 1, c + y + 1 + 1 + 1 + 1, c + y + 1 + 1 + 1 + 1 + 1, .slice sa6 d_acts.length sc6, mkActs (c + y + 1 + 1 + 1 + 1 + 1 + 1) d_acts, z_vk, z_vr, z_vn, z_vv⟩ : StepQ) ho6 (fun x hx => hx) rfl (by exact mkActs_fp _ _ _) (hm6)
      have HU : Hid (Out (stepK.fp (.slice (some ⟨g, 0, none⟩) ps.length cap) ps) w w26) := HU.out.trans (ho6.mono (fun x hx => hsub.out x (show x ∈ stepK.foot _ from (fun x hx => hx) x hx)))
      have hOk := hOn
      have hnk := hnn
      obtain ⟨c7, f7⟩ := hOk.cell' hkL 7 (.int .i64 z_vk) rfl
      obtain ⟨c8, f8⟩ := hOk.cell' hkL 8 (.int .i64 z_vr) rfl
      obtain ⟨c9, f9⟩ := hOk.cell' hkL 9 (.int .i64 z_vn) rfl
      obtain ⟨c10, f10⟩ := hOk.cell' hkL 10 (.int .i64 z_vv) rfl
      have c7 : w26.cell? ⟨g, k * 11 + 7, none⟩ = _ := c7
      have f7 : w26.frozen? ⟨g, k * 11 + 7, none⟩ = _ := f7
      have c8 : w26.cell? ⟨g, k * 11 + 8, none⟩ = _ := c8
      have f8 : w26.frozen? ⟨g, k * 11 + 8, none⟩ = _ := f8
      have c9 : w26.cell? ⟨g, k * 11 + 9, none⟩ = _ := c9
      have f9 : w26.frozen? ⟨g, k * 11 + 9, none⟩ = _ := f9
      have c10 : w26.cell? ⟨g, k * 11 + 10, none⟩ = _ := c10
      have f10 : w26.frozen? ⟨g, k * 11 + 10, none⟩ = _ := f10
      obtain ⟨hOn, hnn⟩ := hOk.store' hnk hkL (⟨c + y, c + y + 1, c + y + 1 + 1, c + y + 1 + 1 + 1, c + y + 1 + 1 + 1 + 1, c + y + 1 + 1 + 1 + 1 + 1, .slice sa6 d_acts.length sc6, mkActs (c + y + 1 + 1 + 1 + 1 + 1 + 1) d_acts, c + y + 1 + 1 + 1 + 1 + 1 + 1 + ((d_acts.length * 3 : Nat) : Int), z_vr, z_vn, z_vv⟩ : StepQ) 7 (.int .i64 (c + y + 1 + 1 + 1 + 1 + 1 + 1 + ((d_acts.length * 3 : Nat) : Int))) (by decide) rfl rfl (fun _ h => h)
      have hOk : stepK.Own (w26.setCell ⟨g, k * 11 + 7, none⟩ (.int .i64 (c + y + 1 + 1 + 1 + 1 + 1 + 1 + ((d_acts.length * 3 : Nat) : Int)))) (.slice (some ⟨g, 0, none⟩) ps.length cap) (hs.set k (⟨c + y, c + y + 1, c + y + 1 + 1, c + y + 1 + 1 + 1, c + y + 1 + 1 + 1 + 1, c + y + 1 + 1 + 1 + 1 + 1, .slice sa6 d_acts.length sc6, mkActs (c + y + 1 + 1 + 1 + 1 + 1 + 1) d_acts, c + y + 1 + 1 + 1 + 1 + 1 + 1 + ((d_acts.length * 3 : Nat) : Int), z_vr, z_vn, z_vv⟩ : StepQ)) := hOn
      have hnk := hnn
      obtain ⟨hOn, hnn⟩ := hOk.store' hnk hkL (⟨c + y, c + y + 1, c + y + 1 + 1, c + y + 1 + 1 + 1, c + y + 1 + 1 + 1 + 1, c + y + 1 + 1 + 1 + 1 + 1, .slice sa6 d_acts.length sc6, mkActs (c + y + 1 + 1 + 1 + 1 + 1 + 1) d_acts, c + y + 1 + 1 + 1 + 1 + 1 + 1 + ((d_acts.length * 3 : Nat) : Int), c + y + 1 + 1 + 1 + 1 + 1 + 1 + ((d_acts.length * 3 : Nat) : Int) + 1, z_vn, z_vv⟩ : StepQ) 8 (.int .i64 (c + y + 1 + 1 + 1 + 1 + 1 + 1 + ((d_acts.length * 3 : Nat) : Int) + 1)) (by decide) rfl rfl (fun _ h => h)
      have hOk : stepK.Own ((w26.setCell ⟨g, k * 11 + 7, none⟩ (.int .i64 (c + y + 1 + 1 + 1 + 1 + 1 + 1 + ((d_acts.length * 3 : Nat) : Int)))).setCell ⟨g, k * 11 + 8, none⟩ (.int .i64 (c + y + 1 + 1 + 1 + 1 + 1 + 1 + ((d_acts.length * 3 : Nat) : Int) + 1))) (.slice (some ⟨g, 0, none⟩) ps.length cap) (hs.set k (⟨c + y, c + y + 1, c + y + 1 + 1, c + y + 1 + 1 + 1, c + y + 1 + 1 + 1 + 1, c + y + 1 + 1 + 1 + 1 + 1, .slice sa6 d_acts.length sc6, mkActs (c + y + 1 + 1 + 1 + 1 + 1 + 1) d_acts, c + y + 1 + 1 + 1 + 1 + 1 + 1 + ((d_acts.length * 3 : Nat) : Int), c + y + 1 + 1 + 1 + 1 + 1 + 1 + ((d_acts.length * 3 : Nat) : Int) + 1, z_vn, z_vv⟩ : StepQ)) := hOn
      have hnk := hnn
      obtain ⟨hOn, hnn⟩ := hOk.store' hnk hkL (⟨c + y, c + y + 1, c + y + 1 + 1, c + y + 1 + 1 + 1, c + y + 1 + 1 + 1 + 1, c + y + 1 + 1 + 1 + 1 + 1, .slice sa6 d_acts.length sc6, mkActs (c + y + 1 + 1 + 1 + 1 + 1 + 1) d_acts, c + y + 1 + 1 + 1 + 1 + 1 + 1 + ((d_acts.length * 3 : Nat) : Int), c + y + 1 + 1 + 1 + 1 + 1 + 1 + ((d_acts.length * 3 : Nat) : Int) + 1, c + y + 1 + 1 + 1 + 1 + 1 + 1 + ((d_acts.length * 3 : Nat) : Int) + 1 + 1, z_vv⟩ : StepQ) 9 (.int .i64 (c + y + 1 + 1 + 1 + 1 + 1 + 1 + ((d_acts.length * 3 : Nat) : Int) + 1 + 1)) (by decide) rfl rfl (fun _ h => h)
      have hOk : stepK.Own (((w26.setCell ⟨g, k * 11 + 7, none⟩ (.int .i64 (c + y + 1 + 1 + 1 + 1 + 1 + 1 + ((d_acts.length * 3 : Nat) : Int)))).setCell ⟨g, k * 11 + 8, none⟩ (.int .i64 (c + y + 1 + 1 + 1 + 1 + 1 + 1 + ((d_acts.length * 3 : Nat) : Int) + 1))).setCell ⟨g, k * 11 + 9, none⟩ (.int .i64 (c + y + 1 + 1 + 1 + 1 + 1 + 1 + ((d_acts.length * 3 : Nat) : Int) + 1 + 1))) (.slice (some ⟨g, 0, none⟩) ps.length cap) (hs.set k (⟨c + y, c + y + 1, c + y + 1 + 1, c + y + 1 + 1 + 1, c + y + 1 + 1 + 1 + 1, c + y + 1 + 1 + 1 + 1 + 1, .slice sa6 d_acts.length sc6, mkActs (c + y + 1 + 1 + 1 + 1 + 1 + 1) d_acts, c + y + 1 + 1 + 1 + 1 + 1 + 1 + ((d_acts.length * 3 : Nat) : Int), c + y + 1 + 1 + 1 + 1 + 1 + 1 + ((d_acts.length * 3 : Nat) : Int) + 1, c + y + 1 + 1 + 1 + 1 + 1 + 1 + ((d_acts.length * 3 : Nat) : Int) + 1 + 1, z_vv⟩ : StepQ)) := hOn
      have hnk := hnn
      obtain ⟨hOn, hnn⟩ := hOk.store' hnk hkL (⟨c + y, c + y + 1, c + y + 1 + 1, c + y + 1 + 1 + 1, c + y + 1 + 1 + 1 + 1, c + y + 1 + 1 + 1 + 1 + 1, .slice sa6 d_acts.length sc6, mkActs (c + y + 1 + 1 + 1 + 1 + 1 + 1) d_acts, c + y + 1 + 1 + 1 + 1 + 1 + 1 + ((d_acts.length * 3 : Nat) : Int), c + y + 1 + 1 + 1 + 1 + 1 + 1 + ((d_acts.length * 3 : Nat) : Int) + 1, c + y + 1 + 1 + 1 + 1 + 1 + 1 + ((d_acts.length * 3 : Nat) : Int) + 1 + 1, c + y + 1 + 1 + 1 + 1 + 1 + 1 + ((d_acts.length * 3 : Nat) : Int) + 1 + 1 + 1⟩ : StepQ) 10 (.int .i64 (c + y + 1 + 1 + 1 + 1 + 1 + 1 + ((d_acts.length * 3 : Nat) : Int) + 1 + 1 + 1)) (by decide) rfl rfl (fun _ h => h)
      have hOk : stepK.Own ((((w26.setCell ⟨g, k * 11 + 7, none⟩ (.int .i64 (c + y + 1 + 1 + 1 + 1 + 1 + 1 + ((d_acts.length * 3 : Nat) : Int)))).setCell ⟨g, k * 11 + 8, none⟩ (.int .i64 (c + y + 1 + 1 + 1 + 1 + 1 + 1 + ((d_acts.length * 3 : Nat) : Int) + 1))).setCell ⟨g, k * 11 + 9, none⟩ (.int .i64 (c + y + 1 + 1 + 1 + 1 + 1 + 1 + ((d_acts.length * 3 : Nat) : Int) + 1 + 1))).setCell ⟨g, k * 11 + 10, none⟩ (.int .i64 (c + y + 1 + 1 + 1 + 1 + 1 + 1 + ((d_acts.length * 3 : Nat) : Int) + 1 + 1 + 1))) (.slice (some ⟨g, 0, none⟩) ps.length cap) (hs.set k (⟨c + y, c + y + 1, c + y + 1 + 1, c + y + 1 + 1 + 1, c + y + 1 + 1 + 1 + 1, c + y + 1 + 1 + 1 + 1 + 1, .slice sa6 d_acts.length sc6, mkActs (c + y + 1 + 1 + 1 + 1 + 1 + 1) d_acts, c + y + 1 + 1 + 1 + 1 + 1 + 1 + ((d_acts.length * 3 : Nat) : Int), c + y + 1 + 1 + 1 + 1 + 1 + 1 + ((d_acts.length * 3 : Nat) : Int) + 1, c + y + 1 + 1 + 1 + 1 + 1 + 1 + ((d_acts.length * 3 : Nat) : Int) + 1 + 1, c + y + 1 + 1 + 1 + 1 + 1 + 1 + ((d_acts.length * 3 : Nat) : Int) + 1 + 1 + 1⟩ : StepQ)) := hOn
      have hnk := hnn
      have HU : Hid (Out (stepK.fp (.slice (some ⟨g, 0, none⟩) ps.length cap) ps) w ((((w26.setCell ⟨g, k * 11 + 7, none⟩ (.int .i64 (c + y + 1 + 1 + 1 + 1 + 1 + 1 + ((d_acts.length * 3 : Nat) : Int)))).setCell ⟨g, k * 11 + 8, none⟩ (.int .i64 (c + y + 1 + 1 + 1 + 1 + 1 + 1 + ((d_acts.length * 3 : Nat) : Int) + 1))).setCell ⟨g, k * 11 + 9, none⟩ (.int .i64 (c + y + 1 + 1 + 1 + 1 + 1 + 1 + ((d_acts.length * 3 : Nat) : Int) + 1 + 1))).setCell ⟨g, k * 11 + 10, none⟩ (.int .i64 (c + y + 1 + 1 + 1 + 1 + 1 + 1 + ((d_acts.length * 3 : Nat) : Int) + 1 + 1 + 1)))) := ((((HU.out.trans ((Out.setCell _ g (k * 11 + 7) (.int .i64 (c + y + 1 + 1 + 1 + 1 + 1 + 1 + ((d_acts.length * 3 : Nat) : Int)))).mono hg0.out)).trans ((Out.setCell _ g (k * 11 + 8) (.int .i64 (c + y + 1 + 1 + 1 + 1 + 1 + 1 + ((d_acts.length * 3 : Nat) : Int) + 1))).mono hg0.out)).trans ((Out.setCell _ g (k * 11 + 9) (.int .i64 (c + y + 1 + 1 + 1 + 1 + 1 + 1 + ((d_acts.length * 3 : Nat) : Int) + 1 + 1))).mono hg0.out)).trans ((Out.setCell _ g (k * 11 + 10) (.int .i64 (c + y + 1 + 1 + 1 + 1 + 1 + 1 + ((d_acts.length * 3 : Nat) : Int) + 1 + 1 + 1))).mono hg0.out))
      have R : Hid (stepK.Own ((((w26.setCell ⟨g, k * 11 + 7, none⟩ (.int .i64 (c + y + 1 + 1 + 1 + 1 + 1 + 1 + ((d_acts.length * 3 : Nat) : Int)))).setCell ⟨g, k * 11 + 8, none⟩ (.int .i64 (c + y + 1 + 1 + 1 + 1 + 1 + 1 + ((d_acts.length * 3 : Nat) : Int) + 1))).setCell ⟨g, k * 11 + 9, none⟩ (.int .i64 (c + y + 1 + 1 + 1 + 1 + 1 + 1 + ((d_acts.length * 3 : Nat) : Int) + 1 + 1))).setCell ⟨g, k * 11 + 10, none⟩ (.int .i64 (c + y + 1 + 1 + 1 + 1 + 1 + 1 + ((d_acts.length * 3 : Nat) : Int) + 1 + 1 + 1))) (.slice (some ⟨g, 0, none⟩) ps.length cap) (half mkStep nmStep c ps (k + 1))) := by rw [← HSET.out]; exact hOk
      clear hOk hnk HSET hsub hg0
      go_wp2
      go_roundw
      case rel => exact ⟨k + 1, by omega, by rw [HSU.out]; congr 1; omega, by go_num, R.out, HU.out⟩
      case measure => simp [intOf]; omega
    · have hkl : k = ps.length := by omega
      subst hkl
      have hO := HO.out
      rw [half_all] at hO
      rw [List.take_length]
      clear HF HO
      go_wp2
      go_ret
      exact ⟨rfl, hO, HU.out⟩

end Go.Proofs.Ytkkdjgiencilbaa
