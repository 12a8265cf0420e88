/- PackTxn: the program's function and its model tell the same code and the same bytes. No condition. -/
import Derived.Test.YtkklhbofeghnbaaDoorJA
import Derived.Test.YtkklhbofeghnbaaDoorPack
namespace Go.Proofs.YtkklhbofeghnbaaDoor
open Go.RowKit
open Go.BigFrame
set_option linter.unusedVariables false
set_option linter.unusedSimpArgs false

def actNums (z : ActD) : List Int := [z.kind, z.key, z.val]
/-- The numbers of a transaction, up to its act number k. -/
def numsL (i s q : Int) (zs : List ActD) (k : Nat) : List Int := [i, s, q] ++ (zs.take k).flatMap actNums
theorem numsL_succ (i s q : Int) (zs : List ActD) (k : Nat) (h : k < zs.length) : numsL i s q zs (k + 1) = numsL i s q zs k ++ actNums (zs.getD k actNo) := by
  have e : zs.getD k actNo = zs[k] := by simp [List.getD, h]
  rw [numsL, numsL, List.take_succ_eq_append_getElem h, e]
  simp only [List.flatMap_append, List.flatMap_cons, List.flatMap_nil, List.append_nil, List.append_assoc]
theorem numsL_length (i s q : Int) (zs : List ActD) (k : Nat) (h : k ≤ zs.length) : (numsL i s q zs k).length = 3 + 3 * k := by
  induction k with
  | zero => simp [numsL]
  | succ k ih =>
    rw [numsL_succ i s q zs k h, List.length_append, ih (by omega)]
    simp [actNums]; omega

theorem inW_true {n lo hi : Int} : inW n lo hi = true ↔ lo ≤ n ∧ n ≤ hi := by simp [inW]
theorem inW_false {n lo hi : Int} : inW n lo hi = false ↔ ¬ (lo ≤ n ∧ n ≤ hi) := by
  rw [← inW_true]; simp

theorem actF_zeroP {z : ActD} (h : actF z = 0) : (1 ≤ z.kind ∧ z.kind ≤ 4) ∧ (1 ≤ z.key ∧ z.key ≤ 20) ∧ (-1000 ≤ z.val ∧ z.val ≤ 1000) ∧ (z.kind = 3 → z.val = 0) := by
  unfold actF at h
  split at h
  · simp at h
  · rename_i h1
    split at h
    · simp at h
    · rename_i h2
      simp only [not_or, Bool.not_eq_false, inW_true] at h1 h2
      refine ⟨h1.1, h2.1, h2.2, fun e => ?_⟩
      have := h1.2
      simp [e] at this
      exact this

theorem actsF_all {zs : List ActD} (h : actsF zs = 0) : ∀ z ∈ zs, actF z = 0 := by
  induction zs with
  | nil => simp
  | cons x r ih =>
    simp only [actsF] at h
    split at h
    · rename_i hx
      intro z hz
      rcases List.mem_cons.1 hz with rfl | hz
      · exact hx
      · exact ih h z hz
    · rename_i hx; exact absurd h hx

theorem txnF_zero {i s q : Int} {zs : List ActD} (h : txnF i s q zs = 0) : (1 ≤ i ∧ i ≤ 200) ∧ (1 ≤ s ∧ s ≤ 9) ∧ (1 ≤ q ∧ q ≤ 99) ∧ (1 ≤ zs.length ∧ zs.length ≤ 4) ∧ ∀ z ∈ zs, actF z = 0 := by
  unfold txnF at h
  split at h
  · simp at h
  · rename_i h1
    split at h
    · simp at h
    · rename_i h2
      simp only [not_or, Bool.not_eq_false, inW_true] at h1
      exact ⟨h1.1, h1.2.1, h1.2.2, by omega, actsF_all h⟩

theorem nums_short {i s q : Int} {zs : List ActD} (h : txnF i s q zs = 0) : ∀ j, j < (numsL i s q zs zs.length).length → shortB ((numsL i s q zs zs.length).getD j 0) = true := by
  obtain ⟨h1, h2, h3, h4, h5⟩ := txnF_zero h
  have hall : ∀ n ∈ numsL i s q zs zs.length, shortB n = true := by
    intro n hn
    simp only [numsL, List.take_length, List.mem_append, List.mem_cons, List.not_mem_nil, or_false, List.mem_flatMap] at hn
    rcases hn with (rfl | rfl | rfl) | ⟨z, hz, hn⟩
    · exact short_mk (by omega)
    · exact short_mk (by omega)
    · exact short_mk (by omega)
    · obtain ⟨a1, a2, a3, _⟩ := actF_zeroP (h5 z hz)
      simp only [actNums, List.mem_cons, List.not_mem_nil, or_false] at hn
      rcases hn with rfl | rfl | rfl
      · exact short_mk (by omega)
      · exact short_mk (by omega)
      · exact short_mk (by omega)
  intro j hj
  exact hall _ (by simp only [List.getD, List.getElem?_eq_getElem hj, Option.getD_some]; exact List.getElem_mem hj)

/-- What PackTxn tells. -/
def pkC (i s q : Int) (zs : List ActD) : Int := txnF i s q zs
def pkR (i s q : Int) (zs : List ActD) : List Int := if txnF i s q zs = 0 then packR (numsL i s q zs zs.length) else []
theorem pk_ok {i s q : Int} {zs : List ActD} (h : txnF i s q zs = 0) : packC (numsL i s q zs zs.length) = 0 ∧ packR (numsL i s q zs zs.length) = packL (numsL i s q zs zs.length) (numsL i s q zs zs.length).length := by
  obtain ⟨_, _, _, h4, _⟩ := txnF_zero h
  exact pack_ok (by rw [numsL_length _ _ _ _ _ (Nat.le_refl _)]; omega) (nums_short h)
theorem pkR_le (i s q : Int) (zs : List ActD) : (pkR i s q zs).length ≤ 81 := by
  unfold pkR
  split
  · exact packR_le _
  · simp

theorem Box4.cells {w : World} {b o : Nat} {x0 x1 x2 x3 : Value} (h : Box4 w b o x0 x1 x2 x3) : b < w.heap.size := World.block_lt_of_cell? w ⟨b, o, none⟩ h.c0

theorem latB_cell {w : World} {B : Nat} {a : Addr} {v : Value} (h : w.cell? a = some v) (hB : a.block < B) : ∀ u : LatB B w, u.val.cell? a = some v := fun u => by
  rw [u.isBelow.cell hB]; exact h

end Go.Proofs.YtkklhbofeghnbaaDoor
