/- What the rules promise, in plain words: 0 and 1 are not both proposed; what is proposed may be; what a quorum proposed is what everybody goes on with. -/
import Derived.Test.YtonkbpnchcgmmaaDoorS5m
namespace Go.Proofs.YtonkbpnchcgmmaaDoor
open Go.RowKit
set_option linter.unusedVariables false
set_option linter.unusedSimpArgs false

abbrev v4 : List Int := [0, 1, 2, 3]
abbrev m8 : List Int := [0, 1, 2, 3, 4, 5, 6, 7]

theorem vOk_mem {most x : Int} (hm : most = 1 ∨ most = 2) (h : vOk most x = true) : x ∈ v4 := by
  unfold vOk inB at h
  rw [Bool.or_eq_true, decide_eq_true_eq, beq_iff_eq] at h
  exact four (by omega)
theorem vf_three {zs : List Int} {most : Int} (hm : most = 1 ∨ most = 2) (h : vf zs most = 0) : ∃ x ∈ v4, ∃ y ∈ v4, ∃ z ∈ v4, zs = [x, y, z] := by
  have hl := vf_len h
  obtain ⟨x, y, z, rfl⟩ := three hl
  unfold vf at h
  rw [if_pos hl] at h
  have ha : [x, y, z].all (vOk most) = true := by
    by_cases hx : [x, y, z].all (vOk most) = true
    · exact hx
    · rw [if_neg hx] at h
      simp at h
  simp only [List.all_cons, List.all_nil, Bool.and_true, Bool.and_eq_true] at ha
  exact ⟨x, vOk_mem hm ha.1, y, vOk_mem hm ha.2.1, z, vOk_mem hm ha.2.2, rfl⟩

theorem mask_nat {m : Int} (h : inB m 0 7 = true) : ∃ k : Nat, k < 8 ∧ m = (k : Int) := by
  have := of_decide_eq_true h
  exact ⟨m.toNat, by omega, by omega⟩
theorem pf_zero {zs : List Int} {m : Int} (h : pfC zs m = 0) : vf zs 1 = 0 ∧ heard zs m = true := by
  unfold pfC at h
  by_cases h0 : vf zs 1 = 0
  · rw [if_pos h0] at h
    by_cases h1 : heard zs m = true
    · exact ⟨h0, h1⟩
    · rw [if_neg h1] at h
      simp at h
  · rw [if_neg h0] at h
    exact absurd h h0
theorem ch_zero {zs : List Int} {m c : Int} (h : chC zs m c = 0) : vf zs 2 = 0 ∧ inB c 0 1 = true ∧ both zs = false ∧ heard zs m = true := by
  unfold chC at h
  by_cases h0 : vf zs 2 = 0
  · rw [if_pos h0] at h
    by_cases hc : inB c 0 1 = true
    · rw [if_pos hc] at h
      by_cases hb : both zs = true
      · rw [if_pos hb] at h
        simp at h
      · rw [if_neg hb] at h
        by_cases h1 : heard zs m = true
        · exact ⟨h0, hc, by simpa using hb, h1⟩
        · rw [if_neg h1] at h
          simp at h
    · rw [if_neg hc] at h
      simp at h
  · rw [if_neg h0] at h
    exact absurd h h0
theorem ch_mk {zs : List Int} {m c : Int} (h0 : vf zs 2 = 0) (hc : inB c 0 1 = true) (hb : both zs = false) (h1 : heard zs m = true) : chC zs m c = 0 := by
  simp [chC, h0, hc, hb, h1]

/-- What is proposed may be proposed. -/
theorem mayP_own {zs : List Int} {m : Int} (h : pfC zs m = 0) : mayP zs (pfV zs m) = true := by
  obtain ⟨h0, h1⟩ := pf_zero h
  obtain ⟨k, hk, rfl⟩ := mask_nat (heard_in h1)
  exact any_yes _ k hk (by simp [pB, h])
theorem one_row : ∀ x ∈ v4, ∀ y ∈ v4, ∀ z ∈ v4, (mayP [x, y, z] 0 && mayP [x, y, z] 1) = false := by decide +kernel
/-- 0 and 1 are not both proposed. -/
theorem mayP_one {zs : List Int} (h : mayP zs 0 = true) : mayP zs 1 = false := by
  by_cases h0 : vf zs 1 = 0
  · obtain ⟨x, hx, y, hy, z, hz, rfl⟩ := vf_three (Or.inl rfl) h0
    have := one_row x hx y hy z hz
    rw [h, Bool.true_and] at this
    exact this
  · refine any_none _ (fun k => ?_) 8
    have hc : (pfC zs k == 0) = false := by
      rw [beq_eq_false_iff_ne]
      intro e
      exact h0 (pf_zero e).1
    simp only [pB, hc, Bool.false_and]
theorem cfV_of {zs : List Int} {m c : Int} (h : chC zs m c = 0) : cfV zs m c = chV (cnt m zs 0) (cnt m zs 1) c := by simp [cfV, h]
theorem cfV_in {zs : List Int} {m c : Int} (h : chC zs m c = 0) : 0 ≤ cfV zs m c ∧ cfV zs m c ≤ 1 := by
  have hc := of_decide_eq_true (ch_zero h).2.1
  rw [cfV_of h]
  unfold chV
  split
  · omega
  · split <;> omega
/-- What is gone on with may be reported. -/
theorem mayR_own {zs : List Int} {m c : Int} (h : chC zs m c = 0) : mayR zs (cfV zs m c) = true := by
  obtain ⟨h0, hc, hb, h1⟩ := ch_zero h
  have hV := cfV_in h
  have hV' : inB (cfV zs m c) 0 1 = true := decide_eq_true hV
  have h2 := ch_mk h0 hV' hb h1
  have h3 : cfV zs m (cfV zs m c) = cfV zs m c := by
    rw [cfV_of h2, cfV_of h]
    unfold chV
    split
    · rfl
    · split <;> rfl
  obtain ⟨k, hk, rfl⟩ := mask_nat (heard_in h1)
  refine any_yes _ k hk ?_
  simp only [rB, h2, h3]
  simp
theorem all_go : ∀ x ∈ v4, ∀ y ∈ v4, ∀ z ∈ v4, ∀ m ∈ m8, (chC [x, y, z] m 0 == 0) = true → cfD [x, y, z] m 0 = true → mayR [x, y, z] (1 - cfV [x, y, z] m 0) = false := by decide +kernel
theorem all_go1 : ∀ x ∈ v4, ∀ y ∈ v4, ∀ z ∈ v4, ∀ m ∈ m8, (chC [x, y, z] m 1 == 0) = true → cfD [x, y, z] m 1 = true → mayR [x, y, z] (1 - cfV [x, y, z] m 1) = false := by decide +kernel
/-- What a quorum proposed is what everybody goes on with. -/
theorem mayR_one {zs : List Int} {m c : Int} (h : chC zs m c = 0) (hD : cfD zs m c = true) : mayR zs (1 - cfV zs m c) = false := by
  obtain ⟨h0, hc, hb, h1⟩ := ch_zero h
  obtain ⟨x, hx, y, hy, z, hz, rfl⟩ := vf_three (Or.inr rfl) h0
  have hm : m ∈ m8 := by rcases eight (heard_in h1) with rfl | rfl | rfl | rfl | rfl | rfl | rfl | rfl <;> simp
  have hc2 : c = 0 ∨ c = 1 := by have := of_decide_eq_true hc; omega
  rcases hc2 with rfl | rfl
  · exact all_go x hx y hy z hz m hm (by simp [h]) hD
  · exact all_go1 x hx y hy z hz m hm (by simp [h]) hD

end Go.Proofs.YtonkbpnchcgmmaaDoor
