/- A right instance is small; what GoOn leaves is. -/
import Derived.Test.YtmgkjcobdmdjmaaGreatDoorM6s
namespace Go.Proofs.YtmgkjcobdmdjmaaGreatDoor
open Go.RowKit
open Go.BigFrame
set_option linter.unusedVariables false
set_option maxRecDepth 100000
set_option linter.unusedSimpArgs false

theorem nmL_bound {P : Type} (nm : P → Nat) (c : Nat) (ps : List P) (h : ∀ p ∈ ps, nm p ≤ c) : nmL nm ps ≤ ps.length * c := by
  induction ps with
  | nil => simp [nmL]
  | cons p t ih =>
    have h1 := h p (by simp)
    have h2 := ih (fun q hq => h q (List.mem_cons_of_mem _ hq))
    simp only [nmL, List.map_cons, List.sum_cons, List.length_cons] at h2 ⊢
    rw [Nat.add_mul]
    omega
theorem allF_mem {ds : List TxnD} (h : allF ds = 0) : ∀ d ∈ ds, d.F = 0 := by
  induction ds with
  | nil => intro d hd; simp at hd
  | cons x r ih =>
    intro d hd
    simp only [allF] at h
    by_cases hx : x.F = 0
    · rw [if_pos hx] at h
      rcases List.mem_cons.1 hd with rfl | hd
      · exact hx
      · exact ih h d hd
    · rw [if_neg hx] at h
      exact absurd h hx
theorem txnF_small {d : TxnD} (h : d.F = 0) : d.acts.length ≤ 4 := by
  unfold TxnD.F txnF at h
  split at h
  · omega
  · split at h
    · omega
    · omega
theorem bat_small {ds : List TxnD} (h : batF ds = 0) : txnsN ds ≤ 20 := by
  unfold batF at h
  split at h
  · omega
  · rename_i hl
    have ha : allF ds = 0 := by
      split at h
      · assumption
      · exact h
    have := nmL_bound TxnD.n 4 ds (fun d hd => txnF_small (allF_mem ha d hd))
    unfold txnsN
    omega
theorem ins_small {x : InstE} (h : insF x = 0) : InstE.n x ≤ 60 := by
  obtain ⟨hw, ⟨_, h4⟩, hd, _⟩ := ins_ok h
  obtain ⟨h6, _⟩ := ins_zero h
  obtain ⟨_, _, _, h7, h8⟩ := shp_zero h6
  have hb : txnsN x.batch ≤ 20 := by
    cases hh : x.has with
    | true => exact bat_small (h8 hh)
    | false => rw [h7 hh]; simp [txnsN, nmL]
  have hr := nmL_bound RoundE.n 6 x.rounds (fun r hr => by
    have := hw r hr
    unfold RoundE.n
    omega)
  unfold InstE.n roundsN
  omega
theorem ensR_n (rs : List RoundE) (r : Nat) : roundsN (ensR rs r) ≤ roundsN rs + 7 := by
  unfold ensR
  split
  · unfold roundsN nmL
    simp [RoundE.n, opn3]
    omega
  · omega
theorem rpI_n (rs : List RoundE) (nx n : Nat) (v : Int) : roundsN (rpI rs nx n v) ≤ roundsN rs + 7 := by
  unfold rpI
  split
  · rw [rstR_n]
    exact ensR_n rs nx
  · omega
theorem goI_n {q p : InstQ} {node round mask coin : Int} (h : q.e = goI p.e node round mask coin) (hp : p.n ≤ 1048576) : q.n ≤ 1048576 := by
  rw [inst_ne] at hp ⊢
  rw [h]
  by_cases hc : goC p.e node round mask coin = 0
  · have hat : atC p.e node round = 0 := by
      rcases Decidable.em (atC p.e node round = 0) with h0 | h0
      · exact h0
      · have := ((go_facts p.e node round mask coin).1 h0).1
        rw [hc] at this
        exact this.symm
    have hs := ins_small (at_zero hat).1
    unfold goI
    rw [if_pos hc]
    have hr := rpI_n p.e.rounds (round.toNat + 1) node.toNat (cfV (p.e.rounds.getD round.toNat rnd0).pro mask (coF p.e.has coin))
    unfold InstE.n at hs ⊢
    dsimp only
    split
    · rw [List.length_set]
      omega
    · omega
  · unfold goI
    rw [if_neg hc, ine0_n]
    omega

end Go.Proofs.YtmgkjcobdmdjmaaGreatDoor
