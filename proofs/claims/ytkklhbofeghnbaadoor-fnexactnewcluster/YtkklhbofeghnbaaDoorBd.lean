/- A board as plain cells: how many rounds there are, the votes of four rounds, whether there is a batch, the batch, what was decided. -/
import Derived.Test.YtkklhbofeghnbaaDoorS6
import Derived.Test.YtkklhbofeghnbaaDoorKI
import Derived.Laws.Rows
import Derived.Laws.Tables
import Derived.Deep.MidRow
namespace Go.Proofs.YtkklhbofeghnbaaDoor
open Go.RowKit
open Go.BigFrame
set_option linter.unusedVariables false
set_option linter.unusedSimpArgs false

abbrev iv (n : Int) : Value := .int .i64 n
/-- Each row has three votes. -/
def Wel (rs : List RoundE) : Prop := ∀ r ∈ rs, r.rep.length = 3 ∧ r.pro.length = 3
def rowC (r : RoundE) : List Value := (r.rep ++ r.pro).map iv
def rowsV (rs : List RoundE) : List Value := rs.flatMap rowC
def rndC (rs : List RoundE) : List Value := iv rs.length :: (rowsV rs ++ List.replicate (24 - 6 * rs.length) (iv 0))
def brdC (has : Bool) (vb : Value) (rs : List RoundE) (dec : List Int) : List Value := rndC rs ++ ([.bool has, vb] ++ dec.map iv)

theorem rowC_length {r : RoundE} (h : r.rep.length = 3 ∧ r.pro.length = 3) : (rowC r).length = 6 := by simp [rowC, h.1, h.2]
theorem rowsV_length {rs : List RoundE} (h : Wel rs) : (rowsV rs).length = rs.length * 6 := by
  induction rs with
  | nil => rfl
  | cons r t ih =>
    have h1 := ih (fun x hx => h x (List.mem_cons_of_mem _ hx))
    have h2 := rowC_length (h r (by simp))
    simp only [rowsV, List.flatMap_cons, List.length_append, List.length_cons] at h1 ⊢
    omega
theorem rndC_length {rs : List RoundE} (h : Wel rs) (h4 : rs.length ≤ 4) : (rndC rs).length = 25 := by
  have := rowsV_length h
  simp only [rndC, List.length_cons, List.length_append, List.length_replicate]
  omega
theorem brdC_length {has : Bool} {vb : Value} {rs : List RoundE} {dec : List Int} (h : Wel rs) (h4 : rs.length ≤ 4) (hd : dec.length = 3) : (brdC has vb rs dec).length = 30 := by
  have := rndC_length h h4
  simp only [brdC, List.length_append, List.length_cons, List.length_nil, List.length_map]
  omega
theorem rowsV_get {rs : List RoundE} (h : Wel rs) (r : Nat) (hr : r < rs.length) (j : Nat) (hj : j < 6) : (rowsV rs)[r * 6 + j]? = (rowC (rs.getD r rnd0))[j]? := by
  induction rs generalizing r with
  | nil => simp at hr
  | cons q t ih =>
    have hq := rowC_length (h q (by simp))
    simp only [rowsV, List.flatMap_cons]
    cases r with
    | zero =>
      rw [List.getElem?_append_left (by omega)]
      simp
    | succ r =>
      rw [List.getElem?_append_right (by omega), hq, show (r + 1) * 6 + j - 6 = r * 6 + j by omega]
      have := ih (fun x hx => h x (List.mem_cons_of_mem _ hx)) r (by simpa using hr)
      simpa [rowsV] using this
theorem wel_at {rs : List RoundE} (h : Wel rs) (r : Nat) (hr : r < rs.length) : (rs.getD r rnd0).rep.length = 3 ∧ (rs.getD r rnd0).pro.length = 3 := by
  have e : rs.getD r rnd0 = rs[r] := by simp [List.getD, hr]
  rw [e]
  exact h _ (List.getElem_mem hr)
theorem rowC_rep {q : RoundE} (h : q.rep.length = 3 ∧ q.pro.length = 3) (n : Nat) (hn : n < 3) : (rowC q)[n]? = some (iv (q.rep.getD n 0)) := by
  unfold rowC
  rw [List.getElem?_map, List.getElem?_append_left (by omega), List.getElem?_eq_getElem (by omega)]
  simp [List.getD, show n < q.rep.length by omega]
theorem rowC_pro {q : RoundE} (h : q.rep.length = 3 ∧ q.pro.length = 3) (n : Nat) (hn : n < 3) : (rowC q)[3 + n]? = some (iv (q.pro.getD n 0)) := by
  unfold rowC
  rw [List.getElem?_map, List.getElem?_append_right (by omega), h.1, show 3 + n - 3 = n by omega, List.getElem?_eq_getElem (by omega)]
  simp [List.getD, show n < q.pro.length by omega]
theorem rnd_cnt (rs : List RoundE) : (rndC rs)[0]? = some (iv rs.length) := rfl
theorem rnd_in {rs : List RoundE} (h : Wel rs) (r : Nat) (hr : r < rs.length) (j : Nat) (hj : j < 6) : (rndC rs)[1 + r * 6 + j]? = (rowC (rs.getD r rnd0))[j]? := by
  have hl := rowsV_length h
  unfold rndC
  rw [show 1 + r * 6 + j = (r * 6 + j) + 1 by omega, List.getElem?_cons_succ, List.getElem?_append_left (by omega), rowsV_get h r hr j hj]
theorem rnd_rep {rs : List RoundE} (h : Wel rs) (r : Nat) (hr : r < rs.length) (n : Nat) (hn : n < 3) : (rndC rs)[1 + r * 6 + n]? = some (iv (repA rs r n)) := by
  rw [rnd_in h r hr n (by omega), rowC_rep (wel_at h r hr) n hn]; rfl
theorem rnd_pro {rs : List RoundE} (h : Wel rs) (r : Nat) (hr : r < rs.length) (n : Nat) (hn : n < 3) : (rndC rs)[1 + r * 6 + 3 + n]? = some (iv (proA rs r n)) := by
  rw [show 1 + r * 6 + 3 + n = 1 + r * 6 + (3 + n) by omega, rnd_in h r hr (3 + n) (by omega), rowC_pro (wel_at h r hr) n hn]; rfl
theorem brd_rnd {has : Bool} {vb : Value} {rs : List RoundE} {dec : List Int} (h : Wel rs) (h4 : rs.length ≤ 4) (j : Nat) (hj : j < 25) : (brdC has vb rs dec)[j]? = (rndC rs)[j]? := by
  have := rndC_length h h4
  unfold brdC
  rw [List.getElem?_append_left (by omega)]
theorem brd_has {has : Bool} {vb : Value} {rs : List RoundE} {dec : List Int} (h : Wel rs) (h4 : rs.length ≤ 4) : (brdC has vb rs dec)[25]? = some (.bool has) := by
  have := rndC_length h h4
  unfold brdC
  rw [List.getElem?_append_right (by omega), this]; rfl
theorem brd_bat {has : Bool} {vb : Value} {rs : List RoundE} {dec : List Int} (h : Wel rs) (h4 : rs.length ≤ 4) : (brdC has vb rs dec)[26]? = some vb := by
  have := rndC_length h h4
  unfold brdC
  rw [List.getElem?_append_right (by omega), this]; rfl
theorem brd_dec {has : Bool} {vb : Value} {rs : List RoundE} {dec : List Int} (h : Wel rs) (h4 : rs.length ≤ 4) (hd : dec.length = 3) (n : Nat) (hn : n < 3) : (brdC has vb rs dec)[27 + n]? = some (iv (dec.getD n 0)) := by
  have := rndC_length h h4
  unfold brdC
  rw [List.getElem?_append_right (by omega), this, show 27 + n - 25 = n + 2 by omega]
  simp [List.getD, show n < dec.length by omega]

end Go.Proofs.YtkklhbofeghnbaaDoor
