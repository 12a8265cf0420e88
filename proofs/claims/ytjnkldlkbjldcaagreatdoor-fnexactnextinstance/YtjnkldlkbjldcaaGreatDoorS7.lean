/- Chapter 7 in plain words: the fault of an order, how much of it is decided, and what is definite. No condition. -/
import Derived.Test.YtjnkldlkbjldcaaGreatDoorI6j
namespace Go.Proofs.YtjnkldlkbjldcaaGreatDoor
open Go.RowKit
set_option linter.unusedVariables false
set_option maxRecDepth 100000
set_option linter.unusedSimpArgs false

def instNo : InstE := ⟨false, [], [], []⟩
/-- The fault of the instances, one by one. -/
def ordGo : List InstE → Int
  | [] => 0
  | x :: r => if insF x = 0 then (if 0 < r.length ∧ outV x.dec = 3 then 8 else ordGo r) else insF x
/-- The fault of an order. -/
def ordF (ds : List InstE) : Int := if ds.length < 1 ∨ 4 < ds.length then 2 else ordGo ds
def lastE (ds : List InstE) : InstE := ds.getD (ds.length - 1) instNo
/-- How many have an outcome. -/
def decN (ds : List InstE) : Nat := if outV (lastE ds).dec = 3 then ds.length - 1 else ds.length

theorem drop_at (ds : List InstE) (k : Nat) (hk : k < ds.length) : ds.drop k = ds.getD k instNo :: ds.drop (k + 1) := by
  rw [List.drop_eq_getElem_cons hk]
  simp [List.getD, hk]
theorem ordGo_bad (ds : List InstE) (k : Nat) (hk : k < ds.length) (h : insF (ds.getD k instNo) ≠ 0) : ordGo (ds.drop k) = insF (ds.getD k instNo) := by
  rw [drop_at ds k hk, ordGo, if_neg h]
theorem ordGo_open (ds : List InstE) (k : Nat) (hk : k + 1 < ds.length) (h : insF (ds.getD k instNo) = 0) (h3 : outV (ds.getD k instNo).dec = 3) : ordGo (ds.drop k) = 8 := by
  rw [drop_at ds k (by omega), ordGo, if_pos h, if_pos ⟨by simp; omega, h3⟩]
theorem ordGo_next (ds : List InstE) (k : Nat) (hk : k < ds.length) (h : insF (ds.getD k instNo) = 0) (h3 : ¬ (k + 1 < ds.length ∧ outV (ds.getD k instNo).dec = 3)) : ordGo (ds.drop k) = ordGo (ds.drop (k + 1)) := by
  rw [drop_at ds k hk, ordGo, if_pos h, if_neg]
  rintro ⟨h1, h2⟩
  exact h3 ⟨by simp at h1; omega, h2⟩
theorem ordGo_end (ds : List InstE) (k : Nat) (hk : ds.length ≤ k) : ordGo (ds.drop k) = 0 := by
  rw [List.drop_of_length_le hk]
  rfl
theorem ordGo_iff : ∀ (ds : List InstE), ordGo ds = 0 ↔ ∀ k, k < ds.length → insF (ds.getD k instNo) = 0 ∧ (k + 1 < ds.length → outV (ds.getD k instNo).dec ≠ 3)
  | [] => by simp [ordGo]
  | x :: r => by
    rw [ordGo]
    constructor
    · intro h k hk
      by_cases h0 : insF x = 0
      · rw [if_pos h0] at h
        by_cases h1 : 0 < r.length ∧ outV x.dec = 3
        · rw [if_pos h1] at h
          exact absurd h (by decide)
        · rw [if_neg h1] at h
          cases k with
          | zero => exact ⟨h0, fun hl h3 => h1 ⟨by simpa using hl, h3⟩⟩
          | succ k =>
            have := (ordGo_iff r).1 h k (by simpa using hk)
            simp only [List.getD_cons_succ, List.length_cons]
            exact ⟨this.1, fun hl => this.2 (by omega)⟩
      · rw [if_neg h0] at h
        exact absurd h h0
    · intro h
      have h0 := h 0 (by simp)
      have e0 : insF x = 0 := h0.1
      rw [if_pos e0, if_neg (fun e => h0.2 (by simpa using e.1) e.2)]
      refine (ordGo_iff r).2 (fun k hk => ?_)
      have := h (k + 1) (by simpa using hk)
      simp only [List.getD_cons_succ, List.length_cons] at this
      exact ⟨this.1, fun hl => this.2 (by omega)⟩
theorem ord_iff (ds : List InstE) : ordF ds = 0 ↔ (1 ≤ ds.length ∧ ds.length ≤ 4) ∧ ∀ k, k < ds.length → insF (ds.getD k instNo) = 0 ∧ (k + 1 < ds.length → outV (ds.getD k instNo).dec ≠ 3) := by
  unfold ordF
  by_cases h : ds.length < 1 ∨ 4 < ds.length
  · rw [if_pos h]
    constructor
    · intro h; exact absurd h (by decide)
    · rintro ⟨h1, _⟩; omega
  · rw [if_neg h, ordGo_iff]
    constructor
    · intro h2; exact ⟨by omega, h2⟩
    · rintro ⟨_, h2⟩; exact h2
theorem ord_mem {ds : List InstE} (h : ordF ds = 0) : ∀ x ∈ ds, insF x = 0 := by
  intro x hx
  obtain ⟨k, hk, rfl⟩ := List.getElem_of_mem hx
  have := (((ord_iff ds).1 h).2 k hk).1
  simpa [List.getD, hk] using this
theorem decN_le (ds : List InstE) : decN ds ≤ ds.length := by
  unfold decN
  split <;> omega
/-- The first ones that have an outcome do. -/
theorem dec_out {ds : List InstE} (h : ordF ds = 0) (k : Nat) (hk : k < decN ds) : outV (ds.getD k instNo).dec ≠ 3 := by
  obtain ⟨hl, ha⟩ := (ord_iff ds).1 h
  unfold decN at hk
  split at hk
  · exact (ha k (by omega)).2 (by omega)
  · rename_i h3
    by_cases hkl : k + 1 < ds.length
    · exact (ha k hk).2 hkl
    · have : k = ds.length - 1 := by omega
      subst this
      exact h3

/-- One stands for another. -/
def stF (a b : TxnD) : Bool := (a.id == b.id) || ((a.session == b.session) && (a.seq == b.seq))
def knw (acc : List TxnD) (t : TxnD) : Bool := acc.any (fun a => stF a t)
/-- Each one once. -/
def onc : List TxnD → List TxnD → List TxnD
  | acc, [] => acc
  | acc, t :: r => onc (if knw acc t then acc else acc ++ [t]) r
/-- What is taken, in order. -/
def takF (ds : List InstE) : List TxnD := ds.flatMap (fun x => if outV x.dec = 1 then x.batch else [])
def defL (ds : List InstE) (n : Nat) : List TxnD := onc [] (takF (ds.take n))
theorem onc_append : ∀ (xs ys acc : List TxnD), onc acc (xs ++ ys) = onc (onc acc xs) ys
  | [], _, _ => rfl
  | t :: r, ys, acc => by
    simp only [List.cons_append, onc]
    exact onc_append r ys _
theorem onc_pre : ∀ (xs acc : List TxnD), ∃ zs, onc acc xs = acc ++ zs
  | [], acc => ⟨[], by simp [onc]⟩
  | t :: r, acc => by
    simp only [onc]
    obtain ⟨zs, e⟩ := onc_pre r (if knw acc t then acc else acc ++ [t])
    rw [e]
    split
    · exact ⟨zs, rfl⟩
    · exact ⟨t :: zs, by simp⟩
theorem onc_sub : ∀ (xs acc : List TxnD), ∀ t ∈ onc acc xs, t ∈ acc ∨ t ∈ xs
  | [], acc, t, h => Or.inl h
  | x :: r, acc, t, h => by
    simp only [onc] at h
    rcases onc_sub r _ t h with h | h
    · split at h
      · exact Or.inl h
      · rcases List.mem_append.1 h with h | h
        · exact Or.inl h
        · simp only [List.mem_singleton] at h
          exact Or.inr (by rw [h]; simp)
    · exact Or.inr (List.mem_cons_of_mem _ h)
theorem onc_len (xs acc : List TxnD) : (onc acc xs).length ≤ acc.length + xs.length := by
  induction xs generalizing acc with
  | nil => simp [onc]
  | cons t r ih =>
    simp only [onc, List.length_cons]
    have := ih (if knw acc t then acc else acc ++ [t])
    split at this
    · rename_i h; rw [if_pos h]; omega
    · rename_i h; rw [if_neg h]; simp only [List.length_append, List.length_singleton] at this; omega
theorem def_pre (ds : List InstE) (n m : Nat) (h : n ≤ m) : ∃ zs, defL ds m = defL ds n ++ zs := by
  have e : ds.take m = ds.take n ++ (ds.take m).drop n := by
    have := (List.take_append_drop n (ds.take m)).symm
    rwa [List.take_take, Nat.min_eq_left h] at this
  unfold defL
  rw [e]
  unfold takF
  rw [List.flatMap_append, onc_append]
  exact onc_pre _ _

/-- One row of votes has all that another one has. -/
def kps (was now : List Int) : Bool := (List.range was.length).all (fun i => (was.getD i 0 == 3) || (now.getD i 0 == was.getD i 0))

end Go.Proofs.YtjnkldlkbjldcaaGreatDoor
