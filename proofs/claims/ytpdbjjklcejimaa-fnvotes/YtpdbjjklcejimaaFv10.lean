/- A vote is read back from its bytes, and a byte of it that was turned is told: in plain words. No condition. -/
import Derived.Test.YtpdbjjklcejimaaVm10
namespace Go.Proofs.Ytpdbjjklcejimaa
open Go.RowKit
set_option linter.unusedVariables false
set_option linter.unusedSimpArgs false

theorem rv_zero {ds : List Int} (hu : ∀ i, 0 ≤ ds.getD i 0 ∧ ds.getD i 0 ≤ 255) (h : rvC ds = 0) : vpR (rvV ds) = ds := by
  cases hok : rvOk ds with
  | false => simp [rvC, hok] at h
  | true =>
    obtain ⟨h1, h2, h3, h4⟩ := of_decide_eq_true hok
    have := rv_pack hu h1 h3
    rw [hok] at this
    simp only [rvV, hok, if_true]
    exact of_decide_eq_true this

theorem rvC_ways (ds : List Int) : rvC ds = 0 ∨ rvC ds = 5 := by unfold rvC; split <;> simp

theorem rv_back {k r n v : Int} (h : voteF ⟨k, r, n, v⟩ = 0) : rvC (vpB ⟨k, r, n, v⟩) = 0 ∧ rvV (vpB ⟨k, r, n, v⟩) = ⟨k, r, n, v⟩ := by
  have sh := vote_short h
  have s0 : shortB k = true := sh 0 (by simp)
  have s1 : shortB r = true := sh 1 (by simp)
  have s2 : shortB n = true := sh 2 (by simp)
  have s3 : shortB v = true := sh 3 (by simp)
  have hx : rvX (vpB ⟨k, r, n, v⟩) = ⟨k, r, n, v⟩ := by
    show (⟨get2 (k % 65536 / 256) (k % 256), get2 (r % 65536 / 256) (r % 256), get2 (n % 65536 / 256) (n % 256), get2 (v % 65536 / 256) (v % 256)⟩ : VoteD) = _
    rw [get_put k s0, get_put r s1, get_put n s2, get_put v s3]
  have hb := sumL_bounds (vpL ⟨k, r, n, v⟩)
  have hok : rvOk (vpB ⟨k, r, n, v⟩) = true := by
    refine decide_eq_true ⟨vpB_len _, ?_, rfl, by rw [hx]; exact h⟩
    show 256 * (sumL (vpL ⟨k, r, n, v⟩) % 65536 / 256) + sumL (vpL ⟨k, r, n, v⟩) % 256 = sumL (vpL ⟨k, r, n, v⟩)
    omega
  simp only [rvC, rvV, hok, if_true, hx, and_self]

/-- The sum, from s on. -/
def sumF (s : Int) (zs : List Int) : Int := zs.foldl (fun s b => (s * 233 + b + 1) % 65521) s
theorem sumF_ne : ∀ (zs : List Int) (s t : Int), (0 ≤ s ∧ s < 65521) → (0 ≤ t ∧ t < 65521) → s ≠ t → sumF s zs ≠ sumF t zs
  | [], s, t, _, _, h => h
  | z :: zs, s, t, hs, ht, h => by
    refine sumF_ne zs ((s * 233 + z + 1) % 65521) ((t * 233 + z + 1) % 65521) (by omega) (by omega) ?_
    omega
theorem sumF_set : ∀ (zs : List Int) (i : Nat) (b s : Int), (0 ≤ s ∧ s < 65521) → i < zs.length → (0 ≤ zs.getD i 0 ∧ zs.getD i 0 ≤ 255) → (0 ≤ b ∧ b ≤ 255) → b ≠ zs.getD i 0 → sumF s (zs.set i b) ≠ sumF s zs
  | [], i, b, s, _, h, _, _, _ => by simp at h
  | z :: zs, 0, b, s, hs, h, hz, hb, hn => by
    simp only [List.getD_cons_zero] at hz hn
    refine sumF_ne zs ((s * 233 + b + 1) % 65521) ((s * 233 + z + 1) % 65521) (by omega) (by omega) ?_
    omega
  | z :: zs, i + 1, b, s, hs, h, hz, hb, hn => by
    simp only [List.getD_cons_succ] at hz hn
    exact sumF_set zs i b ((s * 233 + z + 1) % 65521) (by omega) (by simpa using h) hz hb hn

/-- A byte that was turned is told. -/
theorem rv_turned {x : VoteD} {i : Nat} {b : Int} (hi : i < 11) (hb : 0 ≤ b ∧ b ≤ 255) (hn : b ≠ (vpB x).getD i 0) : rvC ((vpB x).set i b) = 5 := by
  have hok : rvOk ((vpB x).set i b) = false := by
    refine decide_eq_false ?_
    rintro ⟨_, h2, _, _⟩
    have hS := sumL_bounds (vpL x)
    have e9 : (vpB x).getD 9 0 = sumL (vpL x) % 65536 / 256 := rfl
    have e10 : (vpB x).getD 10 0 = sumL (vpL x) % 256 := rfl
    have et : (vpB x).take 9 = vpL x := rfl
    rw [List.take_set, et] at h2
    by_cases h9 : i < 9
    · have f9 : ((vpB x).set i b).getD 9 0 = (vpB x).getD 9 0 := by simp [List.getD, List.getElem?_set, show ¬ i = 9 by omega]
      have f10 : ((vpB x).set i b).getD 10 0 = (vpB x).getD 10 0 := by simp [List.getD, List.getElem?_set, show ¬ i = 10 by omega]
      rw [f9, f10, e9, e10] at h2
      have hg : (vpL x).getD i 0 = (vpB x).getD i 0 := by rw [← et]; simp [List.getD, List.getElem?_take, h9]
      have := sumF_set (vpL x) i b 23 (by omega) (by rw [vpL_len]; exact h9) (vpL_u8 x i) hb (by rw [hg]; exact hn)
      have e1 : sumF 23 ((vpL x).set i b) = sumL ((vpL x).set i b) := rfl
      have e2 : sumF 23 (vpL x) = sumL (vpL x) := rfl
      rw [e1, e2] at this
      omega
    · have es : (vpL x).set i b = vpL x := List.set_eq_of_length_le (by rw [vpL_len]; omega)
      rw [es] at h2
      by_cases h9' : i = 9
      · subst h9'
        have f9 : ((vpB x).set 9 b).getD 9 0 = b := by simp [List.getD, List.getElem?_set, vpB_len]
        have f10 : ((vpB x).set 9 b).getD 10 0 = (vpB x).getD 10 0 := by simp [List.getD, List.getElem?_set]
        rw [f9, f10, e10] at h2
        rw [e9] at hn
        omega
      · have h10 : i = 10 := by omega
        subst h10
        have f9 : ((vpB x).set 10 b).getD 9 0 = (vpB x).getD 9 0 := by simp [List.getD, List.getElem?_set]
        have f10 : ((vpB x).set 10 b).getD 10 0 = b := by simp [List.getD, List.getElem?_set, vpB_len]
        rw [f9, f10, e9] at h2
        rw [e10] at hn
        omega
  simp [rvC, hok]

theorem xor_byte (x y : Int) (hx : 0 ≤ x ∧ x ≤ 255) (hy : 1 ≤ y ∧ y ≤ 255) : (0 ≤ bits .xor .u8 x y ∧ bits .xor .u8 x y ≤ 255) ∧ bits .xor .u8 x y ≠ x := by
  obtain ⟨p, rfl⟩ := Int.eq_ofNat_of_zero_le hx.1
  obtain ⟨q, rfl⟩ := Int.eq_ofNat_of_zero_le (show 0 ≤ y by omega)
  have hp : p < 2 ^ 8 := by omega
  have hq : q < 2 ^ 8 := by omega
  have hl : p ^^^ q < 2 ^ 8 := Nat.xor_lt_two_pow hp hq
  have hne : p ^^^ q ≠ p := by
    intro e
    have : q = 0 := by
      have h2 : p ^^^ (p ^^^ q) = p ^^^ p := by rw [e]
      rw [← Nat.xor_assoc, Nat.xor_self, Nat.zero_xor] at h2
      exact h2
    omega
  have e : bits .xor .u8 (p : Int) (q : Int) = ((p ^^^ q : Nat) : Int) := by
    simp only [bits, BitVec.toNat_xor, BitVec.ofInt_natCast, BitVec.toNat_ofNat]
    have k1 : p % 2 ^ IntKind.u8.bits = p := Nat.mod_eq_of_lt (by simp [IntKind.bits]; omega)
    have k2 : q % 2 ^ IntKind.u8.bits = q := Nat.mod_eq_of_lt (by simp [IntKind.bits]; omega)
    rw [k1, k2, IntWalk.u8_in _ (by omega)]
  rw [e]
  omega

end Go.Proofs.Ytpdbjjklcejimaa
