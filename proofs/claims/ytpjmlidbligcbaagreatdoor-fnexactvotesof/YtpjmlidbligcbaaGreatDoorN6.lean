/- How much there is in what a move leaves. -/
import Derived.Test.YtpjmlidbligcbaaGreatDoorM6p
import Derived.Test.YtpjmlidbligcbaaGreatDoorGH
namespace Go.Proofs.YtpjmlidbligcbaaGreatDoor
open Go.RowKit
open Go.BigFrame
set_option linter.unusedVariables false
set_option maxRecDepth 100000
set_option linter.unusedSimpArgs false

theorem Blk.outs {w w' : World} {b : Nat} {t : TypeId} {cs : Array Value} {F : List Nat} (h : Blk w b t cs) (hU : Out F w w') (hF : b ∉ F) : Blk w' b t cs := (hU.block b h.lt hF).trans h
theorem nmL_map {P E : Type} (f : P → E) (nm : E → Nat) (ps : List P) : nmL nm (ps.map f) = nmL (fun p => nm (f p)) ps := by
  simp [nmL, Function.comp_def]
theorem inst_ne (q : InstQ) : q.n = InstE.n q.e := by
  unfold InstQ.n InstE.n txnsN roundsN
  rw [show q.e.batch = q.batch.map TxnQ.e from rfl, show q.e.rounds = q.rounds.map RoundQ.e from rfl, nmL_map, nmL_map, List.length_map, List.length_map]
  rfl
theorem nmL_set {P : Type} (nm : P → Nat) (ps : List P) (i : Nat) (p d : P) (h : nm p = nm (ps.getD i d)) : nmL nm (ps.set i p) = nmL nm ps := by
  induction ps generalizing i with
  | nil => rfl
  | cons q t ih =>
    cases i with
    | zero =>
      have : nm p = nm q := h
      simp [nmL, this]
    | succ i =>
      have := ih i (by simpa [List.getD] using h)
      simp only [nmL, List.set_cons_succ, List.map_cons, List.sum_cons] at this ⊢
      rw [this]
theorem ine0_n : InstE.n ine0 = 0 := rfl
theorem rstP_n (rs : List RoundE) (r n : Nat) (v : Int) : roundsN (rstP rs r n v) = roundsN rs := by
  unfold roundsN rstP
  rw [List.length_set, nmL_set RoundE.n rs r _ rnd0 (by simp [RoundE.n])]
theorem rstR_n (rs : List RoundE) (r n : Nat) (v : Int) : roundsN (rstR rs r n v) = roundsN rs := by
  unfold roundsN rstR
  rw [List.length_set, nmL_set RoundE.n rs r _ rnd0 (by simp [RoundE.n])]
theorem prI_n {q p : InstQ} {node round mask : Int} (h : q.e = prI p.e node round mask) (hp : p.n ≤ 1048576) : q.n ≤ 1048576 := by
  rw [inst_ne] at hp ⊢
  rw [h]
  unfold prI
  split
  · unfold InstE.n at hp ⊢
    dsimp only
    rw [rstP_n]
    exact hp
  · rw [ine0_n]; omega

end Go.Proofs.YtpjmlidbligcbaaGreatDoor
