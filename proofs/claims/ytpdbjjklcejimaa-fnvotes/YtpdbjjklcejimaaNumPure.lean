/- Numbers and their bytes, as plain lists: what is packed is read back, and what is read is packed back. -/
import Derived.Test.YtpdbjjklcejimaaRead
import Derived.Test.YtpdbjjklcejimaaPack
import Derived.Test.YtpdbjjklcejimaaDraw1b
namespace Go.Proofs.Ytpdbjjklcejimaa
open Go.RowKit
set_option linter.unusedVariables false
set_option linter.unusedSimpArgs false

theorem put_get (x y : Int) (hx : 0 ≤ x ∧ x ≤ 255) (hy : 0 ≤ y ∧ y ≤ 255) : put2 (get2 x y) = [x, y] := by
  have e : get2 x y % 65536 = 256 * x + y := by unfold get2; split <;> omega
  have e2 : get2 x y % 256 = y := by unfold get2; split <;> omega
  simp only [put2, e, e2]
  have : (256 * x + y) / 256 = x := by omega
  rw [this]

theorem get_put (n : Int) (h : shortB n = true) : get2 (n % 65536 / 256) (n % 256) = n := by
  have := short_of h
  unfold get2
  split <;> omega

theorem get_short (x y : Int) (hx : 0 ≤ x ∧ x ≤ 255) (hy : 0 ≤ y ∧ y ≤ 255) : shortB (get2 x y) = true := by
  refine short_mk ?_
  unfold get2
  split <;> omega

theorem readL_getD (zs : List Int) (n i : Nat) (h : i < n) : (readL zs n).getD i 0 = get2 (zs.getD (1 + 2 * i) 0) (zs.getD (1 + 2 * i + 1) 0) := by
  simp [readL, List.getD, h]

theorem pack_read_take (zs : List Int) (n : Nat) (hu : ∀ i, 0 ≤ zs.getD i 0 ∧ zs.getD i 0 ≤ 255) (hn : zs.getD 0 0 = (n : Int)) (hl : zs.length = 1 + 2 * n) : ∀ k, k ≤ n → packL (readL zs n) k = zs.take (1 + 2 * k) := by
  intro k
  induction k with
  | zero =>
    intro _
    cases zs with
    | nil => simp at hl; omega
    | cons x l =>
      simp [List.getD] at hn
      simp [packL, readL_length, hn]
  | succ k ih =>
    intro hk
    rw [packL_succ _ k (by rw [readL_length]; omega), ih (by omega), readL_getD zs n k (by omega), put_get _ _ (hu _) (hu _)]
    rw [show 1 + 2 * (k + 1) = (1 + 2 * k) + 1 + 1 by omega]
    rw [List.take_succ_eq_append_getElem (show (1 + 2 * k) + 1 < zs.length by omega), List.take_succ_eq_append_getElem (show 1 + 2 * k < zs.length by omega)]
    have e1 : zs.getD (1 + 2 * k) 0 = zs[1 + 2 * k] := by simp [List.getD, show 1 + 2 * k < zs.length by omega]
    have e2 : zs.getD (1 + 2 * k + 1) 0 = zs[1 + 2 * k + 1] := by simp [List.getD, show 1 + 2 * k + 1 < zs.length by omega]
    rw [e1, e2]
    simp only [List.append_assoc, List.cons_append, List.nil_append]

/-- What was read is packed back to the very bytes. -/
theorem pack_read (zs : List Int) (hu : ∀ i, 0 ≤ zs.getD i 0 ∧ zs.getD i 0 ≤ 255) (hp : packedB zs = true) : packC (readR zs) = 0 ∧ packR (readR zs) = zs := by
  obtain ⟨p1, p2, p3⟩ := packed_of hp
  obtain ⟨n, hn⟩ := Int.eq_ofNat_of_zero_le (hu 0).1
  have hR : readR zs = readL zs n := by simp only [readR, if_pos hp]; rw [hn, Int.toNat_natCast]
  rw [hR]
  have hl : zs.length = 1 + 2 * n := by omega
  have h40 : ¬ 40 < (readL zs n).length := by rw [readL_length]; omega
  have hall : ∀ j, j < (readL zs n).length → shortB ((readL zs n).getD j 0) = true := by
    intro j hj
    rw [readL_length] at hj
    rw [readL_getD zs n j hj]
    exact get_short _ _ (hu _) (hu _)
  obtain ⟨e1, e2⟩ := pack_ok h40 hall
  refine ⟨e1, ?_⟩
  rw [e2, readL_length, pack_read_take zs n hu hn hl n (Nat.le_refl _), List.take_of_length_le (by omega)]

theorem packL_get (zs : List Int) : ∀ k, k ≤ zs.length → ∀ i, i < k → (packL zs k).getD (1 + 2 * i) 0 = zs.getD i 0 % 65536 / 256 ∧ (packL zs k).getD (1 + 2 * i + 1) 0 = zs.getD i 0 % 256 := by
  intro k
  induction k with
  | zero => intro _ i hi; omega
  | succ k ih =>
    intro hk i hi
    rw [packL_succ zs k (by omega)]
    have hlen := packL_length zs k (by omega)
    by_cases hik : i = k
    · subst hik
      simp only [List.getD, List.getElem?_append, hlen, put2]
      constructor
      · rw [if_neg (by omega), show 1 + 2 * i - (1 + 2 * i) = 0 by omega]; simp
      · rw [if_neg (by omega), show 1 + 2 * i + 1 - (1 + 2 * i) = 1 by omega]; simp
    · have := ih (by omega) i (by omega)
      simp only [List.getD, List.getElem?_append, hlen] at *
      rw [if_pos (by omega), if_pos (by omega)]
      exact this

/-- What was packed is read back to the very numbers. -/
theorem read_pack (zs : List Int) (hc : packC zs = 0) : readC (packR zs) = 0 ∧ readR (packR zs) = zs := by
  have h40 : ¬ 40 < zs.length := by intro h; have := (pack_many h).1; omega
  have hall : ∀ j, j < zs.length → shortB (zs.getD j 0) = true := by
    intro j hj
    cases hs : shortB (zs.getD j 0) with
    | true => rfl
    | false => have := (pack_bad h40 j hj hs).1; omega
  obtain ⟨e1, e2⟩ := pack_ok h40 hall
  rw [e2]
  have hlen := packL_length zs zs.length (Nat.le_refl _)
  have h0 : (packL zs zs.length).getD 0 0 = (zs.length : Int) := by simp [packL, List.getD]
  have hp : packedB (packL zs zs.length) = true := decide_eq_true (by rw [h0, hlen]; omega)
  refine ⟨by simp only [readC, if_pos hp], ?_⟩
  have hR : readR (packL zs zs.length) = readL (packL zs zs.length) zs.length := by simp only [readR, if_pos hp]; rw [h0, Int.toNat_natCast]
  rw [hR]
  apply List.ext_getElem
  · rw [readL_length]
  · intro i h1 h2
    have hg := packL_get zs zs.length (Nat.le_refl _) i h2
    have hr := readL_getD (packL zs zs.length) zs.length i h2
    rw [hg.1, hg.2, get_put _ (hall i h2)] at hr
    simpa [List.getD, h1, h2] using hr

theorem packR_u8 (zs : List Int) : ∀ i, 0 ≤ (packR zs).getD i 0 ∧ (packR zs).getD i 0 ≤ 255 := by
  unfold packR
  split
  · intro i; simp [List.getD]
  · split
    · exact packL_u8 zs _ (by omega)
    · intro i; simp [List.getD]

theorem putL_u8 (n : Int) : ∀ i, 0 ≤ (putL n).getD i 0 ∧ (putL n).getD i 0 ≤ 255 := by
  unfold putL
  split
  · exact getD_of_mem (put2_u8 n) (by omega)
  · intro i; simp [List.getD]

theorem packC_neg (zs : List Int) (hc : ¬ packC zs = 0) : packR zs = [] := by
  unfold packC at hc
  unfold packR
  split
  · rfl
  · split
    · rename_i h1 h2; rw [if_neg h1, if_pos h2] at hc; exact absurd rfl hc
    · rfl

/-- A short number is got back from its bytes. -/
theorem get_of_put (n : Int) (hc : putC n = 0) : getC (putL n) 0 = 0 ∧ getV (putL n) 0 = n := by
  have hs : shortB n = true := by
    cases h : shortB n with
    | true => rfl
    | false => simp [putC, h] at hc
  have e : putL n = [n % 65536 / 256, n % 256] := by simp [putL, hs, put2]
  rw [e]
  refine ⟨by simp [getC], ?_⟩
  simp [getV, get_put n hs]

end Go.Proofs.Ytpdbjjklcejimaa
