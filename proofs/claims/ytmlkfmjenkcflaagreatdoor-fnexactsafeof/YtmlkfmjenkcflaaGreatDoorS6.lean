/- Chapter 6 in plain words: what an instance is, its fault, and that both ways of asking whether all was said by the rules tell the same. -/
import Derived.Test.YtmlkfmjenkcflaaGreatDoorGD
import Derived.Test.YtmlkfmjenkcflaaGreatDoorGE
import Derived.Test.YtmlkfmjenkcflaaGreatDoorGF
namespace Go.Proofs.YtmlkfmjenkcflaaGreatDoor
open Go.RowKit
set_option linter.unusedVariables false
set_option maxRecDepth 100000
set_option linter.unusedSimpArgs false

/-- The fault of a batch. -/
def batF (ds : List TxnD) : Int := if ds.length < 1 ∨ 4 < ds.length then 2 else if allF ds = 0 then (if (ds.map TxnD.id).Nodup then 0 else 6) else allF ds
/-- The fault of the rounds, one by one. -/
def rndsF : List RoundE → Int
  | [] => 0
  | r :: rs => if vf r.rep 1 = 0 then (if vf r.pro 2 = 0 then rndsF rs else vf r.pro 2) else vf r.rep 1
/-- The fault of the form. -/
def shpF (x : InstE) : Int :=
  if x.has = false ∧ 0 < x.batch.length then 1 else
  if x.has = true ∧ batF x.batch ≠ 0 then batF x.batch else
  if x.rounds.length < 1 ∨ 4 < x.rounds.length then 2 else
  if rndsF x.rounds = 0 then vf x.dec 1 else rndsF x.rounds

def rnd0 : RoundE := ⟨[], []⟩
def repA (rs : List RoundE) (r n : Nat) : Int := (rs.getD r rnd0).rep.getD n 0
def proA (rs : List RoundE) (r n : Nat) : Int := (rs.getD r rnd0).pro.getD n 0

/-- May it have proposed so? -/
def proR (rs : List RoundE) (r n : Nat) : Bool := (proA rs r n == 3) || ((repA rs r n != 3) && mayP (rs.getD r rnd0).rep (proA rs r n))
/-- May it have reported so (behind the first round)? -/
def befR (rs : List RoundE) (r n : Nat) : Bool := (proA rs (r - 1) n != 3) && mayR (rs.getD (r - 1) rnd0).pro (repA rs r n)
/-- The program's way. -/
def repI (has : Bool) (rs : List RoundE) (r n : Nat) : Bool := if repA rs r n = 1 ∧ has = false then false else if repA rs r n = 3 ∨ r = 0 then true else befR rs r n
/-- The model's way. -/
def sayM (has : Bool) (rs : List RoundE) (r n : Nat) : Bool := proR rs r n && (if r = 0 ∨ repA rs r n = 3 then true else befR rs r n && (has || (repA rs r n == 0) || decide (0 < cnt 7 (rs.getD (r - 1) rnd0).pro 1)))
/-- A quorum proposed v. -/
def agr (rs : List RoundE) (v : Int) : Bool := rs.any (fun r => decide (2 ≤ cnt 7 r.pro v))
def endR (rs : List RoundE) (v : Int) : Bool := (v == 3) || agr rs v
def allI (has : Bool) (rs : List RoundE) (r : Nat) : Bool := (repI has rs r 0 && proR rs r 0) && (repI has rs r 1 && proR rs r 1) && (repI has rs r 2 && proR rs r 2)
def allM (has : Bool) (rs : List RoundE) (r : Nat) : Bool := sayM has rs r 0 && sayM has rs r 1 && sayM has rs r 2
def endA (rs : List RoundE) (dec : List Int) : Bool := endR rs (dec.getD 0 0) && endR rs (dec.getD 1 0) && endR rs (dec.getD 2 0)
def rgtI (x : InstE) : Bool := (List.range x.rounds.length).all (allI x.has x.rounds) && endA x.rounds x.dec
def rgtM (x : InstE) : Bool := (x.has || !decide (0 < cnt 7 (x.rounds.getD 0 rnd0).rep 1)) && (List.range x.rounds.length).all (allM x.has x.rounds) && endA x.rounds x.dec
/-- The fault of an instance. -/
def insF (x : InstE) : Int := if shpF x = 0 then (if rgtI x then 0 else 10) else shpF x

theorem cnt7 (zs : List Int) (v : Int) : cnt 7 zs v = sum3 (zs.getD 0 0 == v) (zs.getD 1 0 == v) (zs.getD 2 0 == v) := by
  unfold cnt
  rw [bit7.1, bit7.2.1, bit7.2.2]
  simp only [Bool.true_and]
theorem pop_vot3 (p q r : Bool) : pop3 (vot3 p q r) = sum3 p q r := by cases p <;> cases q <;> cases r <;> decide +kernel
theorem pop_vot (zs : List Int) (v : Int) : pop3 (vot zs v) = cnt 7 zs v := by
  rw [cnt7]
  exact pop_vot3 _ _ _
theorem sum3_pos (p q r : Bool) : (0 < sum3 p q r) ↔ (p = true ∨ q = true ∨ r = true) := by cases p <;> cases q <;> cases r <;> decide
theorem cnt7_pos (zs : List Int) (v : Int) : (0 < cnt 7 zs v) ↔ ∃ n, n < 3 ∧ zs.getD n 0 = v := by
  rw [cnt7, sum3_pos]
  simp only [beq_iff_eq]
  constructor
  · rintro (h | h | h)
    · exact ⟨0, by omega, h⟩
    · exact ⟨1, by omega, h⟩
    · exact ⟨2, by omega, h⟩
  · rintro ⟨n, hn, h⟩
    have : n = 0 ∨ n = 1 ∨ n = 2 := by omega
    rcases this with rfl | rfl | rfl
    · exact Or.inl h
    · exact Or.inr (Or.inl h)
    · exact Or.inr (Or.inr h)
theorem has_one4 : ∀ x ∈ v4, ∀ y ∈ v4, ∀ z ∈ v4, mayP [x, y, z] 1 = true → x = 1 ∨ y = 1 ∨ z = 1 := by decide +kernel
/-- Where 1 may be proposed somebody reported 1. -/
theorem mayP_has1 {zs : List Int} (h : mayP zs 1 = true) : ∃ n, n < 3 ∧ zs.getD n 0 = 1 := by
  by_cases h0 : vf zs 1 = 0
  · obtain ⟨x, hx, y, hy, z, hz, rfl⟩ := vf_three (Or.inl rfl) h0
    rcases has_one4 x hx y hy z hz h with h | h | h
    · exact ⟨0, by omega, h⟩
    · exact ⟨1, by omega, h⟩
    · exact ⟨2, by omega, h⟩
  · have : mayP zs 1 = false := any_none _ (fun k => by
      have hc : (pfC zs k == 0) = false := by
        rw [beq_eq_false_iff_ne]
        intro e
        exact h0 (pf_zero e).1
      simp only [pB, hc, Bool.false_and]) 8
    rw [this] at h
    exact absurd h (by decide)

theorem rndsF_at {rs : List RoundE} (h : rndsF rs = 0) (r : Nat) (hr : r < rs.length) : vf (rs.getD r rnd0).rep 1 = 0 ∧ vf (rs.getD r rnd0).pro 2 = 0 := by
  induction rs generalizing r with
  | nil => simp at hr
  | cons q t ih =>
    unfold rndsF at h
    by_cases h1 : vf q.rep 1 = 0
    · rw [if_pos h1] at h
      by_cases h2 : vf q.pro 2 = 0
      · rw [if_pos h2] at h
        cases r with
        | zero => exact ⟨h1, h2⟩
        | succ r => exact ih h r (by simpa using hr)
      · rw [if_neg h2] at h
        exact absurd h h2
    · rw [if_neg h1] at h
      exact absurd h h1
theorem vf_vote {zs : List Int} {most : Int} (h : vf zs most = 0) (n : Nat) (hn : n < 3) : vOk most (zs.getD n 0) = true := by
  have hl := vf_len h
  unfold vf at h
  rw [if_pos hl] at h
  have ha : zs.all (vOk most) = true := by
    by_cases hx : zs.all (vOk most) = true
    · exact hx
    · rw [if_neg hx] at h
      simp at h
  have hg : zs.getD n 0 = zs[n] := by simp [List.getD, show n < zs.length by omega]
  rw [hg]
  exact List.all_eq_true.1 ha _ (List.getElem_mem _)
theorem vOk1 {x : Int} (h : vOk 1 x = true) : x = 0 ∨ x = 1 ∨ x = 3 := by
  unfold vOk inB at h
  rw [Bool.or_eq_true, decide_eq_true_eq, beq_iff_eq] at h
  omega
theorem allI_iff (has : Bool) (rs : List RoundE) (r : Nat) : allI has rs r = true ↔ ∀ n, n < 3 → repI has rs r n = true ∧ proR rs r n = true := by
  unfold allI
  simp only [Bool.and_eq_true]
  constructor
  · rintro ⟨⟨h0, h1⟩, h2⟩ n hn
    have : n = 0 ∨ n = 1 ∨ n = 2 := by omega
    rcases this with rfl | rfl | rfl
    · exact h0
    · exact h1
    · exact h2
  · intro h
    exact ⟨⟨h 0 (by omega), h 1 (by omega)⟩, h 2 (by omega)⟩
theorem allM_iff (has : Bool) (rs : List RoundE) (r : Nat) : allM has rs r = true ↔ ∀ n, n < 3 → sayM has rs r n = true := by
  unfold allM
  simp only [Bool.and_eq_true]
  constructor
  · rintro ⟨⟨h0, h1⟩, h2⟩ n hn
    have : n = 0 ∨ n = 1 ∨ n = 2 := by omega
    rcases this with rfl | rfl | rfl
    · exact h0
    · exact h1
    · exact h2
  · intro h
    exact ⟨⟨h 0 (by omega), h 1 (by omega)⟩, h 2 (by omega)⟩
/-- Without a batch nobody reported 1. -/
theorem no_one {rs : List RoundE} (h0 : ¬ 0 < cnt 7 (rs.getD 0 rnd0).rep 1) (hM : ∀ r, r < rs.length → ∀ n, n < 3 → sayM false rs r n = true) : ∀ r, r < rs.length → ∀ n, n < 3 → repA rs r n ≠ 1 := by
  intro r
  induction r with
  | zero =>
    intro _ n hn e
    exact h0 ((cnt7_pos _ _).2 ⟨n, hn, e⟩)
  | succ r ih =>
    intro hr n hn e
    have h := hM (r + 1) hr n hn
    unfold sayM at h
    rw [Bool.and_eq_true] at h
    have h2 := h.2
    rw [if_neg (by rw [e]; omega), Bool.and_eq_true] at h2
    have h3 := h2.2
    rw [e] at h3
    simp only [Bool.false_or, Nat.add_sub_cancel] at h3
    have h4 : 0 < cnt 7 (rs.getD r rnd0).pro 1 := by simpa using h3
    obtain ⟨m, hm, hp⟩ := (cnt7_pos _ _).1 h4
    have h5 := hM r (by omega) m hm
    unfold sayM at h5
    rw [Bool.and_eq_true] at h5
    have h6 := h5.1
    unfold proR at h6
    have hp' : proA rs r m = 1 := hp
    rw [hp'] at h6
    simp only [Bool.or_eq_true, Bool.and_eq_true] at h6
    rcases h6 with h6 | h6
    · exact absurd h6 (by decide)
    · obtain ⟨k, hk, hk1⟩ := mayP_has1 h6.2
      exact ih (by omega) k hk hk1
/-- Both ways tell the same. -/
theorem rgt_same {x : InstE} (hr : rndsF x.rounds = 0) (hl : 0 < x.rounds.length) : rgtM x = rgtI x := by
  unfold rgtM rgtI
  rw [Bool.eq_iff_iff]
  simp only [Bool.and_eq_true, List.all_eq_true, List.mem_range, allI_iff, allM_iff]
  cases hh : x.has with
  | true =>
    simp only [Bool.true_or, true_and]
    refine and_congr_left (fun _ => ?_)
    refine forall_congr' (fun r => forall_congr' (fun hr' => forall_congr' (fun n => forall_congr' (fun hn => ?_))))
    unfold sayM repI
    rw [if_neg (show ¬ (repA x.rounds r n = 1 ∧ true = false) by simp)]
    simp only [Bool.true_or, Bool.and_true, Bool.and_eq_true]
    by_cases hc : repA x.rounds r n = 3 ∨ r = 0
    · rw [if_pos hc, if_pos hc.symm]
      exact and_comm
    · rw [if_neg hc, if_neg (fun e => hc e.symm)]
      exact and_comm
  | false =>
    simp only [Bool.false_or]
    constructor
    · rintro ⟨⟨h0, hM⟩, hE⟩
      have h0' : ¬ 0 < cnt 7 (x.rounds.getD 0 rnd0).rep 1 := by simpa using h0
      have hno := no_one h0' hM
      refine ⟨fun r hr' n hn => ?_, hE⟩
      have h := hM r hr' n hn
      unfold sayM at h
      rw [Bool.and_eq_true] at h
      refine ⟨?_, h.1⟩
      unfold repI
      rw [if_neg (fun e => hno r hr' n hn e.1)]
      have h2 := h.2
      by_cases hc : repA x.rounds r n = 3 ∨ r = 0
      · rw [if_pos hc]
      · rw [if_neg hc]
        rw [if_neg (fun e => hc e.symm), Bool.and_eq_true] at h2
        exact h2.1
    · rintro ⟨hI, hE⟩
      have hno : ∀ r, r < x.rounds.length → ∀ n, n < 3 → repA x.rounds r n ≠ 1 := by
        intro r hr' n hn e
        have h := (hI r hr' n hn).1
        unfold repI at h
        rw [if_pos ⟨e, rfl⟩] at h
        exact absurd h (by decide)
      refine ⟨⟨?_, fun r hr' n hn => ?_⟩, hE⟩
      · have : ¬ 0 < cnt 7 (x.rounds.getD 0 rnd0).rep 1 := by
          intro h
          obtain ⟨n, hn, e⟩ := (cnt7_pos _ _).1 h
          exact hno 0 hl n hn e
        simpa using this
      · obtain ⟨h1, h2⟩ := hI r hr' n hn
        unfold sayM
        rw [Bool.and_eq_true]
        refine ⟨h2, ?_⟩
        unfold repI at h1
        rw [if_neg (fun e => hno r hr' n hn e.1)] at h1
        by_cases hc : repA x.rounds r n = 3 ∨ r = 0
        · rw [if_pos hc.symm]
        · rw [if_neg hc] at h1
          rw [if_neg (fun e => hc e.symm), Bool.and_eq_true]
          refine ⟨h1, ?_⟩
          have hv := vOk1 (vf_vote (rndsF_at hr r hr').1 n hn)
          have h0 : repA x.rounds r n = 0 := by
            rcases hv with h | h | h
            · exact h
            · exact absurd h (hno r hr' n hn)
            · exact absurd (Or.inl h) hc
          rw [h0]
          simp

end Go.Proofs.YtmlkfmjenkcflaaGreatDoor
