/- SameInstances, of the program and of its model: they answer alike. No condition. -/
import Derived.Test.YticfbapipdhhmaaKI
import Derived.Test.YticfbapipdhhmaaTxnSameI
import Derived.Test.YticfbapipdhhmaaTxnSameS
import Derived.Test.YticfbapipdhhmaaQuiet1
namespace Go.Proofs.Yticfbapipdhhmaa
open Go.RowKit
open Go.BigFrame
set_option linter.unusedVariables false
set_option linter.unusedSimpArgs false

def slA' : Value → Option Addr
  | .slice a _ _ => a
  | _ => none
def slK' : Value → Nat
  | .slice _ _ k => k
  | _ => 0
def TxnQ.p' (q : TxnQ) : TxnP := ⟨q.e, slA' q.va, slK' q.va⟩
theorem TxnQ.p_cells' {w : World} {q : TxnQ} (h : actK.At w q.va q.acts) : q.p'.cells = txnK.cells q := by
  obtain ⟨a, c, e⟩ := h.shape
  show [_, _, _, _] = [_, _, _, _]
  simp only [TxnP.sl, TxnQ.p', TxnQ.e, e, slA', slK']
theorem txnsAt_of' {w : World} {v : Value} {ps : List TxnQ} (h : txnK.At w v ps) : TxnsAt w v (ps.map TxnQ.e) := by
  obtain ⟨a, cap, e, hL, hr⟩ := h
  refine ⟨a, cap, ps.map TxnQ.p', by rw [List.length_map]; exact e, by simp only [List.map_map]; rfl, ?_, ?_⟩
  · have e2 : txnCells (ps.map TxnQ.p') = txnK.row ps := by
      clear hL e
      induction ps with
      | nil => rfl
      | cons q r ih =>
        have h1 : q.p'.cells = txnK.cells q := TxnQ.p_cells' (hr q (by simp))
        have h2 := ih (fun p hp => hr p (List.mem_cons_of_mem _ hp))
        show q.p'.cells ++ txnCells (r.map TxnQ.p') = txnK.cells q ++ txnK.row r
        rw [h1, h2]
    rw [e2]
    exact hL
  · intro p hp
    obtain ⟨q, hq, rfl⟩ := List.mem_map.1 hp
    have h1 : actK.At w q.va q.acts := hr q hq
    obtain ⟨a', c', e', hl', _⟩ := h1
    show ActRow w (slA' q.va) q.acts
    rw [e']
    exact hl'
theorem sumA_of' (ps : List TxnQ) : sumA (ps.map TxnQ.e) = nmL TxnQ.n ps := by
  simp only [sumA, nmL, List.map_map]
  rfl
def sameZ (x y : Int) : Bool := x == y
def sameZs : List Int → List Int → Bool
  | [], [] => true
  | x :: r, y :: s => sameZ x y && sameZs r s
  | _, _ => false
def sameR (x y : RoundE) : Bool := sameZs x.rep y.rep && sameZs x.pro y.pro
def sameRs : List RoundE → List RoundE → Bool
  | [], [] => true
  | x :: r, y :: s => sameR x y && sameRs r s
  | _, _ => false
def sameI (x y : InstE) : Bool := (x.has == y.has) && sameTs x.batch y.batch && sameRs x.rounds y.rounds && sameZs x.dec y.dec
def rndNo : RoundE := ⟨[], []⟩
theorem rnd_get (rs : List RoundQ) (r : Nat) (hr : r < rs.length) : (rs.map RoundQ.e).getD r rndNo = RoundQ.e rs[r] := by simp [List.getD, hr]

end Go.Proofs.Yticfbapipdhhmaa
