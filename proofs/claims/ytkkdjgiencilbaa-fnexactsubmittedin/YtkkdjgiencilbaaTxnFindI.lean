/- FindTxn of the program and of its model, walked. No condition. -/
import Derived.Test.YtkkdjgiencilbaaTxnFind
namespace Go.Proofs.Ytkkdjgiencilbaa
open Go.RowKit
open Go.BigFrame
set_option linter.unusedVariables false
set_option linter.unusedSimpArgs false

theorem find_bad {ds : List TxnD} {x : Int} (h : idsC ds ≠ 0) : findC ds x = idsC ds ∧ findT ds x = txnNo := by
  have e : findC ds x = idsC ds := if_pos h
  exact ⟨e, if_neg (by rw [e]; exact h)⟩
theorem find_none {ds : List TxnD} {x : Int} (h : idsC ds = 0) (hk : ¬ idxN (ds.map TxnD.id) x < ds.length) : findC ds x = 4 ∧ findT ds x = txnNo := by
  have e : findC ds x = 4 := by simp [findC, h, hk]
  exact ⟨e, if_neg (by rw [e]; decide)⟩
theorem find_some {ds : List TxnD} {x : Int} (h : idsC ds = 0) (hk : idxN (ds.map TxnD.id) x < ds.length) : findC ds x = 0 ∧ findT ds x = ds.getD (idxN (ds.map TxnD.id) x) txnNo := by
  have e : findC ds x = 0 := by simp [findC, h, hk]
  exact ⟨e, if_pos e⟩
theorem allF_zero {ds : List TxnD} (h : allF ds = 0) : ∀ d ∈ ds, d.F = 0 := by
  induction ds with
  | nil => simp
  | cons y r ih =>
    simp only [allF] at h
    split at h
    · rename_i hy
      intro d hd
      rcases List.mem_cons.1 hd with rfl | hd
      · exact hy
      · exact ih h d hd
    · rename_i hy; exact absurd h hy
theorem ids_ok {ds : List TxnD} (h : idsC ds = 0) (k : Nat) (hk : k < ds.length) : 0 < (ds.getD k txnNo).acts.length := by
  have h6 := idsC_few h
  have ha : allF ds = 0 := by
    have e : idsC ds = allF ds := if_neg (by omega)
    rw [← e]; exact h
  have := allF_zero ha (ds.getD k txnNo) (by simp [List.getD, hk])
  have := (txnF_zero this).2.2.2.1
  omega

end Go.Proofs.Ytkkdjgiencilbaa
