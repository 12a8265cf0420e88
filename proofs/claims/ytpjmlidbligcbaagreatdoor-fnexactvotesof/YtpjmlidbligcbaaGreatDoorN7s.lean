/- A right instance is small. No condition. -/
import Derived.Test.YtpjmlidbligcbaaGreatDoorI6j
namespace Go.Proofs.YtpjmlidbligcbaaGreatDoor
open Go.RowKit
open Go.BigFrame
set_option linter.unusedVariables false
set_option maxRecDepth 100000
set_option linter.unusedSimpArgs false

theorem nmL_bound {P : Type} (nm : P → Nat) (c : Nat) (ps : List P) (h : ∀ p ∈ ps, nm p ≤ c) : nmL nm ps ≤ ps.length * c := by
  induction ps with
  | nil => simp [nmL]
  | cons p t ih =>
    have h1 := h p (by simp)
    have h2 := ih (fun q hq => h q (List.mem_cons_of_mem _ hq))
    simp only [nmL, List.map_cons, List.sum_cons, List.length_cons] at h2 ⊢
    rw [Nat.add_mul]
    omega
theorem allF_mem {ds : List TxnD} (h : allF ds = 0) : ∀ d ∈ ds, d.F = 0 := by
  induction ds with
  | nil => intro d hd; simp at hd
  | cons x r ih =>
    intro d hd
    simp only [allF] at h
    by_cases hx : x.F = 0
    · rw [if_pos hx] at h
      rcases List.mem_cons.1 hd with rfl | hd
      · exact hx
      · exact ih h d hd
    · rw [if_neg hx] at h
      exact absurd h hx
theorem txnF_small {d : TxnD} (h : d.F = 0) : d.acts.length ≤ 4 := by
  unfold TxnD.F txnF at h
  split at h
  · omega
  · split at h
    · omega
    · omega
theorem bat_small {ds : List TxnD} (h : batF ds = 0) : txnsN ds ≤ 20 := by
  unfold batF at h
  split at h
  · omega
  · rename_i hl
    have ha : allF ds = 0 := by
      split at h
      · assumption
      · exact h
    have := nmL_bound TxnD.n 4 ds (fun d hd => txnF_small (allF_mem ha d hd))
    unfold txnsN
    omega
theorem ins_small {x : InstE} (h : insF x = 0) : InstE.n x ≤ 60 := by
  obtain ⟨hw, ⟨_, h4⟩, hd, _⟩ := ins_ok h
  obtain ⟨h6, _⟩ := ins_zero h
  obtain ⟨_, _, _, h7, h8⟩ := shp_zero h6
  have hb : txnsN x.batch ≤ 20 := by
    cases hh : x.has with
    | true => exact bat_small (h8 hh)
    | false => rw [h7 hh]; simp [txnsN, nmL]
  have hr := nmL_bound RoundE.n 6 x.rounds (fun r hr => by
    have := hw r hr
    unfold RoundE.n
    omega)
  unfold InstE.n roundsN
  omega
/-- A board of right form, with a right batch, is small. -/
theorem form_small {x : InstE} (h : insF x = 0) {rs : List RoundE} {dec : List Int} (hw : Wel rs) (h4 : rs.length ≤ 4) (hd : dec.length = 3) : InstE.n ⟨x.has, x.batch, rs, dec⟩ ≤ 60 := by
  obtain ⟨h6, _⟩ := ins_zero h
  obtain ⟨_, _, _, h7, h8⟩ := shp_zero h6
  have hb : txnsN x.batch ≤ 20 := by
    cases hh : x.has with
    | true => exact bat_small (h8 hh)
    | false => rw [h7 hh]; simp [txnsN, nmL]
  have hr := nmL_bound RoundE.n 6 rs (fun r hr => by
    have := hw r hr
    unfold RoundE.n
    omega)
  show txnsN x.batch + (rs.length + nmL RoundE.n rs) + dec.length ≤ 60
  omega

end Go.Proofs.YtpjmlidbligcbaaGreatDoor
