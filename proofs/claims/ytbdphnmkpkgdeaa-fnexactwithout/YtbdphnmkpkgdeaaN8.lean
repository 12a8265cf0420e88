/- How much there is in what chapter 8 answers. No condition. -/
import Derived.Test.YtbdphnmkpkgdeaaP8
import Derived.Test.YtbdphnmkpkgdeaaR8
namespace Go.Proofs.Ytbdphnmkpkgdeaa
open Go.RowKit
open Go.BigFrame
set_option linter.unusedVariables false
set_option linter.unusedSimpArgs false

theorem wi_n {ps ps' qs : List TxnQ} (h : qs.map TxnQ.e = wiL (ps.map TxnQ.e) (ps'.map TxnQ.e)) (hl : ps.length + nmL TxnQ.n ps ≤ 1048576) (hl' : ps'.length + nmL TxnQ.n ps' ≤ 1048576) : qs.length + nmL TxnQ.n qs ≤ 1048576 := by
  unfold wiL at h
  split at h
  · rw [← wit_map] at h
    rw [txns_n h]
    exact Nat.le_trans (wit_n _ _) hl
  · have : qs = [] := List.map_eq_nil_iff.1 h
    subst this
    simp [nmL]
theorem plA_n {ps ps' qs : List TxnQ} (h : qs.map TxnQ.e = plA (ps.map TxnQ.e) (ps'.map TxnQ.e)) (hl : ps.length + nmL TxnQ.n ps ≤ 1048576) (hl' : ps'.length + nmL TxnQ.n ps' ≤ 1048576) : qs.length + nmL TxnQ.n qs ≤ 1048576 := by
  unfold plA at h
  split at h
  · rw [← List.map_drop] at h
    rw [txns_n h]
    exact Nat.le_trans (drop_n _ _) hl'
  · have : qs = [] := List.map_eq_nil_iff.1 h
    subst this
    simp [nmL]
theorem plK_n {ps ps' qs : List TxnQ} (h : qs.map TxnQ.e = plK (ps.map TxnQ.e) (ps'.map TxnQ.e)) (hl : ps.length + nmL TxnQ.n ps ≤ 1048576) (hl' : ps'.length + nmL TxnQ.n ps' ≤ 1048576) : qs.length + nmL TxnQ.n qs ≤ 1048576 := by
  unfold plK at h
  split at h
  · split at h
    · rw [← List.map_drop] at h
      rw [txns_n h]
      exact Nat.le_trans (drop_n _ _) hl
    · rw [← List.map_drop, ← wit_map] at h
      rw [txns_n h]
      exact Nat.le_trans (wit_n _ _) (Nat.le_trans (drop_n _ _) hl)
  · have : qs = [] := List.map_eq_nil_iff.1 h
    subst this
    simp [nmL]

end Go.Proofs.Ytbdphnmkpkgdeaa
