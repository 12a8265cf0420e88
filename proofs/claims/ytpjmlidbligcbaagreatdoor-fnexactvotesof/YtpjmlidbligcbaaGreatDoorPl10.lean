/- Chapter 10 in plain words: the votes of a board, votes that are laid on one. No condition. -/
import Derived.Test.YtpjmlidbligcbaaGreatDoorO6
import Derived.Test.YtpjmlidbligcbaaGreatDoorI6p
import Derived.Test.YtpjmlidbligcbaaGreatDoorVf10
namespace Go.Proofs.YtpjmlidbligcbaaGreatDoor
open Go.RowKit
set_option linter.unusedVariables false
set_option maxRecDepth 100000
set_option linter.unusedSimpArgs false

/-- The votes of a row, from node i on. -/
def rvF (kind round : Int) : Nat → List Int → List VoteD
  | _, [] => []
  | i, v :: r => (if v = 3 then [] else [⟨kind, round, (i : Int), v⟩]) ++ rvF kind round (i + 1) r
/-- The votes of rounds, from round k on. -/
def vtR : Nat → List RoundE → List VoteD
  | _, [] => []
  | k, r :: t => rvF 1 (k : Int) 0 r.rep ++ (rvF 2 (k : Int) 0 r.pro ++ vtR (k + 1) t)
def vtI (x : InstE) : List VoteD := vtR 0 x.rounds ++ rvF 3 0 0 x.dec
def voL (x : InstE) : List VoteD := if insF x = 0 then vtI x else []

theorem rvF_app (kind round : Int) (a b : List Int) : ∀ i, rvF kind round i (a ++ b) = rvF kind round i a ++ rvF kind round (i + a.length) b := by
  induction a with
  | nil => intro i; rfl
  | cons v r ih =>
    intro i
    simp only [List.cons_append, rvF, ih, List.length_cons, List.append_assoc]
    rw [show i + 1 + r.length = i + (r.length + 1) by omega]
theorem rvF_take (kind round : Int) (vs : List Int) (k : Nat) (hk : k < vs.length) : rvF kind round 0 (vs.take (k + 1)) = rvF kind round 0 (vs.take k) ++ (if vs.getD k 0 = 3 then [] else [⟨kind, round, (k : Int), vs.getD k 0⟩]) := by
  have e : vs.take (k + 1) = vs.take k ++ [vs.getD k 0] := by
    rw [List.take_succ_eq_append_getElem hk]
    simp [List.getD, hk]
  rw [e, rvF_app, List.length_take, Nat.min_eq_left (by omega)]
  simp [rvF]
theorem rvF_len (kind round : Int) (vs : List Int) : ∀ i, (rvF kind round i vs).length ≤ vs.length := by
  induction vs with
  | nil => intro i; simp [rvF]
  | cons v r ih =>
    intro i
    have := ih (i + 1)
    simp only [rvF, List.length_append, List.length_cons]
    split <;> simp <;> omega
theorem vtR_app (a b : List RoundE) : ∀ k, vtR k (a ++ b) = vtR k a ++ vtR (k + a.length) b := by
  induction a with
  | nil => intro k; rfl
  | cons r t ih =>
    intro k
    simp only [List.cons_append, vtR, ih, List.length_cons, List.append_assoc]
    rw [show k + 1 + t.length = k + (t.length + 1) by omega]
theorem vtR_take (rs : List RoundE) (k : Nat) (hk : k < rs.length) : vtR 0 (rs.take (k + 1)) = vtR 0 (rs.take k) ++ (rvF 1 (k : Int) 0 (rs.getD k rnd0).rep ++ rvF 2 (k : Int) 0 (rs.getD k rnd0).pro) := by
  have e : rs.take (k + 1) = rs.take k ++ [rs.getD k rnd0] := by
    rw [List.take_succ_eq_append_getElem hk]
    simp [List.getD, hk]
  rw [e, vtR_app, List.length_take, Nat.min_eq_left (by omega)]
  simp [vtR]
theorem vtR_len {rs : List RoundE} (h : Wel rs) : ∀ k, (vtR k rs).length ≤ 6 * rs.length := by
  induction rs with
  | nil => intro k; simp [vtR]
  | cons r t ih =>
    intro k
    have h1 := ih (fun x hx => h x (List.mem_cons_of_mem _ hx)) (k + 1)
    have h2 := h r (by simp)
    have h3 := rvF_len 1 (k : Int) r.rep 0
    have h4 := rvF_len 2 (k : Int) r.pro 0
    simp only [vtR, List.length_append, List.length_cons]
    omega
theorem voL_len (x : InstE) : (voL x).length ≤ 27 := by
  unfold voL
  split
  · rename_i h
    obtain ⟨⟨a1, a2⟩, b, c, _, _⟩ := shp_zero (ins_shp h)
    have h1 := vtR_len (wel_of b) 0
    have h2 := rvF_len 3 0 x.dec 0
    have h3 := vf_len c
    unfold vtI
    rw [List.length_append]
    omega
  · simp
where
  ins_shp {x : InstE} (h : insF x = 0) : shpF x = 0 := by
    unfold insF at h
    split at h
    · assumption
    · rename_i hn; exact absurd h hn

/-- What lies where the vote would lie; the vote laid there. -/
def curV (rs : List RoundE) (dec : List Int) (v : VoteD) : Int := if v.kind = 1 then repA rs v.round.toNat v.node.toNat else if v.kind = 2 then proA rs v.round.toNat v.node.toNat else dec.getD v.node.toNat 0
def putR (rs : List RoundE) (v : VoteD) : List RoundE := if v.kind = 1 then rstR rs v.round.toNat v.node.toNat v.value else if v.kind = 2 then rstP rs v.round.toNat v.node.toNat v.value else rs
def putD (dec : List Int) (v : VoteD) : List Int := if v.kind = 1 then dec else if v.kind = 2 then dec else dec.set v.node.toNat v.value
def lay1 (rs : List RoundE) (dec : List Int) (v : VoteD) : Int := if voteF v = 0 then (if curV (reaR rs v.round.toNat) dec v = 3 ∨ curV (reaR rs v.round.toNat) dec v = v.value then 0 else 6) else voteF v
def layL : List RoundE → List Int → List VoteD → Int × List RoundE × List Int
  | rs, dec, [] => (0, rs, dec)
  | rs, dec, v :: t => if lay1 rs dec v = 0 then layL (putR (reaR rs v.round.toNat) v) (putD dec v) t else (lay1 rs dec v, rs, dec)
def layE (x : InstE) (L : List VoteD) : InstE := ⟨x.has, x.batch, (layL x.rounds x.dec L).2.1, (layL x.rounds x.dec L).2.2⟩
def lvC (x : InstE) (L : List VoteD) : Int := if insF x = 0 then (if 40 < L.length then 2 else if (layL x.rounds x.dec L).1 = 0 then insF (layE x L) else (layL x.rounds x.dec L).1) else insF x
def lvI (x : InstE) (L : List VoteD) : InstE := if lvC x L = 0 then layE x L else ine0

theorem layL_app (a b : List VoteD) : ∀ rs dec, (layL rs dec a).1 = 0 → layL rs dec (a ++ b) = layL (layL rs dec a).2.1 (layL rs dec a).2.2 b := by
  induction a with
  | nil => intro rs dec _; rfl
  | cons v t ih =>
    intro rs dec h
    simp only [List.cons_append, layL] at h ⊢
    split at h
    · rename_i h0
      rw [if_pos h0, if_pos h0]
      exact ih _ _ h
    · rename_i h0
      exact absurd h h0
theorem layL_bad (a b : List VoteD) : ∀ rs dec, (layL rs dec a).1 ≠ 0 → layL rs dec (a ++ b) = layL rs dec a := by
  induction a with
  | nil => intro rs dec h; exact absurd rfl h
  | cons v t ih =>
    intro rs dec h
    simp only [List.cons_append, layL] at h ⊢
    split at h
    · rename_i h0
      rw [if_pos h0, if_pos h0]
      exact ih _ _ h
    · rename_i h0
      rw [if_neg h0, if_neg h0]
theorem layL_one (rs : List RoundE) (dec : List Int) (v : VoteD) : layL rs dec [v] = if lay1 rs dec v = 0 then (0, putR (reaR rs v.round.toNat) v, putD dec v) else (lay1 rs dec v, rs, dec) := rfl
/-- One vote more. -/
theorem layL_take {rs : List RoundE} {dec : List Int} {L : List VoteD} (k : Nat) (hk : k < L.length) (h : (layL rs dec (L.take k)).1 = 0) :
    layL rs dec (L.take (k + 1)) = if lay1 (layL rs dec (L.take k)).2.1 (layL rs dec (L.take k)).2.2 (L.getD k voteNo) = 0 then (0, putR (reaR (layL rs dec (L.take k)).2.1 (L.getD k voteNo).round.toNat) (L.getD k voteNo), putD (layL rs dec (L.take k)).2.2 (L.getD k voteNo)) else (lay1 (layL rs dec (L.take k)).2.1 (layL rs dec (L.take k)).2.2 (L.getD k voteNo), (layL rs dec (L.take k)).2.1, (layL rs dec (L.take k)).2.2) := by
  have e : L.take (k + 1) = L.take k ++ [L.getD k voteNo] := by
    rw [List.take_succ_eq_append_getElem hk]
    simp [List.getD, hk]
  rw [e, layL_app _ _ _ _ h, layL_one]
theorem layL_stop {rs : List RoundE} {dec : List Int} {L : List VoteD} (k : Nat) (h : (layL rs dec (L.take k)).1 ≠ 0) : layL rs dec L = layL rs dec (L.take k) := by
  have := layL_bad (L.take k) (L.drop k) rs dec h
  rwa [List.take_append_drop] at this

theorem voteF_zero {v : VoteD} (h : voteF v = 0) : (1 ≤ v.kind ∧ v.kind ≤ 3) ∧ (v.kind = 3 → v.round = 0) ∧ (0 ≤ v.round ∧ v.round ≤ 3) ∧ (0 ≤ v.node ∧ v.node ≤ 2) ∧ (0 ≤ v.value ∧ v.value ≤ 2) ∧ (v.kind ≠ 2 → v.value ≤ 1) := by
  obtain ⟨k, r, n, x⟩ := v
  rcases voteF_ways k r n x with ⟨_, e⟩ | ⟨_, _, _, e⟩ | ⟨h1, h2, h3⟩
  · rw [e] at h; exact absurd h (by decide)
  · rw [e] at h; exact absurd h (by decide)
  · rcases h3 with ⟨_, e⟩ | ⟨_, _, e⟩ | ⟨_, _, _, e⟩ | ⟨h4, h5, h6, _⟩
    · rw [e] at h; exact absurd h (by decide)
    · rw [e] at h; exact absurd h (by decide)
    · rw [e] at h; exact absurd h (by decide)
    · simp only [inW, Bool.and_eq_true, decide_eq_true_eq] at h1 h4 h5 h6
      have hm : vtM k = 2 ∧ k = 2 ∨ vtM k = 1 ∧ k ≠ 2 := by
        unfold vtM
        by_cases hk : k = 2
        · exact Or.inl ⟨by simp [hk], hk⟩
        · exact Or.inr ⟨by simp [hk], hk⟩
      refine ⟨h1, fun e => ?_, h4, h5, ?_, ?_⟩
      · have e' : k = 3 := e
        rcases h2 with ⟨_, h2⟩ | h2
        · simpa using h2
        · exact absurd e' (by simpa using h2)
      · show 0 ≤ x ∧ x ≤ 2
        rcases hm with ⟨e, _⟩ | ⟨e, _⟩ <;> rw [e] at h6 <;> exact ⟨h6.1, by omega⟩
      · show k ≠ 2 → x ≤ 1
        intro hk
        rcases hm with ⟨_, e⟩ | ⟨e, _⟩
        · exact absurd e hk
        · rw [e] at h6; exact h6.2

theorem reaR_wel {rs : List RoundE} (h : Wel rs) (r : Nat) : Wel (reaR rs r) := fun x hx => by
  unfold reaR at hx
  rcases List.mem_append.1 hx with hx | hx
  · exact h x hx
  · rw [(List.mem_replicate.1 hx).2]
    exact ⟨rfl, rfl⟩
theorem reaR_lt (rs : List RoundE) (r : Nat) : r < (reaR rs r).length := by
  unfold reaR
  rw [List.length_append, List.length_replicate]
  omega
theorem reaR_le {rs : List RoundE} (r : Nat) (h4 : rs.length ≤ 4) (hr : r < 4) : (reaR rs r).length ≤ 4 := by
  unfold reaR
  rw [List.length_append, List.length_replicate]
  omega
theorem putR_wel {rs : List RoundE} (h : Wel rs) (v : VoteD) (hr : v.round.toNat < rs.length) : Wel (putR rs v) := by
  unfold putR
  split
  · exact wel_rstR h _ _ hr _
  · split
    · exact wel_rstP h _ _ hr _
    · exact h
theorem putR_len (rs : List RoundE) (v : VoteD) : (putR rs v).length = rs.length := by
  unfold putR
  split
  · exact rstR_length _ _ _ _
  · split
    · exact rstP_length _ _ _ _
    · rfl
theorem putD_len (dec : List Int) (v : VoteD) : (putD dec v).length = dec.length := by
  unfold putD
  split
  · rfl
  · split
    · rfl
    · simp
/-- The form of the rows stays. -/
structure Frm (rs : List RoundE) (dec : List Int) : Prop where
  w : Wel rs
  l : 1 ≤ rs.length
  h4 : rs.length ≤ 4
  d : dec.length = 3
theorem Frm.lay {rs : List RoundE} {dec : List Int} (h : Frm rs dec) {v : VoteD} (hv : voteF v = 0) : Frm (putR (reaR rs v.round.toNat) v) (putD dec v) := by
  obtain ⟨_, _, h3, _⟩ := voteF_zero hv
  have hr : v.round.toNat < 4 := by omega
  have hlt := reaR_lt rs v.round.toNat
  refine ⟨putR_wel (reaR_wel h.w _) v hlt, ?_, ?_, by rw [putD_len]; exact h.d⟩
  · rw [putR_len]; omega
  · rw [putR_len]; exact reaR_le _ h.h4 hr
theorem lay1_zero {rs : List RoundE} {dec : List Int} {v : VoteD} (h : lay1 rs dec v = 0) : voteF v = 0 := by
  unfold lay1 at h
  split at h
  · assumption
  · rename_i hn; exact absurd h hn
theorem Frm.all {rs : List RoundE} {dec : List Int} (h : Frm rs dec) (L : List VoteD) : Frm (layL rs dec L).2.1 (layL rs dec L).2.2 := by
  induction L generalizing rs dec with
  | nil => exact h
  | cons v t ih =>
    simp only [layL]
    split
    · rename_i h0
      exact ih (h.lay (lay1_zero h0))
    · exact h
theorem frm_of {x : InstE} (h : insF x = 0) : Frm x.rounds x.dec := by
  obtain ⟨⟨a1, a2⟩, b, c, _, _⟩ := shp_zero (voL_len.ins_shp h)
  exact ⟨wel_of b, a1, a2, vf_len c⟩

end Go.Proofs.YtpjmlidbligcbaaGreatDoor
