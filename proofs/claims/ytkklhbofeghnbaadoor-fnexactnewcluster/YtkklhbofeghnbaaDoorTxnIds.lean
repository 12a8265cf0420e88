/- IdsOf: the program's function and its model tell the same code and the same numbers. No condition. -/
import Derived.Test.YtkklhbofeghnbaaDoorD2s
import Derived.Test.YtkklhbofeghnbaaDoorTxnPackI
namespace Go.Proofs.YtkklhbofeghnbaaDoor
open Go.RowKit
open Go.BigFrame
set_option linter.unusedVariables false
set_option linter.unusedSimpArgs false

def TxnD.F (d : TxnD) : Int := txnF d.id d.session d.seq d.acts
def allF : List TxnD → Int
  | [] => 0
  | d :: r => if d.F = 0 then allF r else d.F
def idsC (ds : List TxnD) : Int := if 60 < ds.length then 2 else allF ds
def idsR (ds : List TxnD) : List Int := if idsC ds = 0 then ds.map TxnD.id else []
def idsL (ds : List TxnD) (k : Nat) : List Int := (ds.take k).map TxnD.id

theorem idsL_succ (ds : List TxnD) (k : Nat) (h : k < ds.length) : idsL ds (k + 1) = idsL ds k ++ [(ds.getD k txnNo).id] := by
  have e : ds.getD k txnNo = ds[k] := by simp [List.getD, h]
  rw [idsL, idsL, List.take_succ_eq_append_getElem h, e]
  simp only [List.map_append, List.map_cons, List.map_nil]
theorem idsL_length (ds : List TxnD) (k : Nat) (h : k ≤ ds.length) : (idsL ds k).length = k := by simp [idsL]; omega
theorem idsR_le (ds : List TxnD) : (idsR ds).length ≤ ds.length := by
  unfold idsR
  split <;> simp

theorem allF_first (ds : List TxnD) : ∀ k, (∀ j, j < k → (ds.getD j txnNo).F = 0) → k < ds.length → (ds.getD k txnNo).F ≠ 0 → allF ds = (ds.getD k txnNo).F := by
  induction ds with
  | nil => intro k _ h; simp at h
  | cons x r ih =>
    intro k h0 hk hne
    cases k with
    | zero => simp [List.getD] at hne ⊢; simp [allF, hne]
    | succ k =>
      have hx : x.F = 0 := by simpa [List.getD] using h0 0 (by omega)
      have := ih k (fun j hj => by simpa [List.getD] using h0 (j + 1) (by omega)) (by simpa using hk) (by simpa [List.getD] using hne)
      simp only [allF, hx, if_true]
      rw [this]
      simp [List.getD]

theorem allF_none (ds : List TxnD) (h : ∀ j, j < ds.length → (ds.getD j txnNo).F = 0) : allF ds = 0 := by
  induction ds with
  | nil => rfl
  | cons x r ih =>
    have hx : x.F = 0 := by simpa [List.getD] using h 0 (by simp)
    simp only [allF, hx, if_true]
    exact ih (fun j hj => by simpa [List.getD] using h (j + 1) (by simpa using hj))

theorem TxnsAt.box {w : World} {b off i : Nat} {z : TxnD} {aa : Option Addr} {cc : Nat} (h0 : w.cell? ⟨b, off + i * 4, none⟩ = some (.int .i64 z.id)) (h1 : w.cell? ⟨b, off + i * 4 + 1, none⟩ = some (.int .i64 z.session)) (h2 : w.cell? ⟨b, off + i * 4 + 2, none⟩ = some (.int .i64 z.seq))
    (h3 : w.cell? ⟨b, off + i * 4 + 3, none⟩ = some (.slice aa z.acts.length cc)) : Box4 w b (off + i * 4) (.int .i64 z.id) (.int .i64 z.session) (.int .i64 z.seq) (.slice aa z.acts.length cc) := ⟨h0, h1, h2, h3⟩

end Go.Proofs.YtkklhbofeghnbaaDoor
