/- TxnFault: the program's function and its model answer alike, by one plain function. No condition. -/
import Derived.Test.YticfbapipdhhmaaD2f
namespace Go.Proofs.Yticfbapipdhhmaa
open Go.RowKit
set_option linter.unusedVariables false
set_option linter.unusedSimpArgs false

/-- The ways through a transaction's first tests. -/
theorem txnF_ways (i s q : Int) (zs : List ActD) :
    (inW i 1 200 = false ∧ txnF i s q zs = 3) ∨ (inW i 1 200 = true ∧ inW s 1 9 = false ∧ txnF i s q zs = 3) ∨ (inW i 1 200 = true ∧ inW s 1 9 = true ∧ inW q 1 99 = false ∧ txnF i s q zs = 3) ∨
    (inW i 1 200 = true ∧ inW s 1 9 = true ∧ inW q 1 99 = true ∧ ((zs.length < 1 ∧ txnF i s q zs = 2) ∨ (4 < zs.length ∧ txnF i s q zs = 2) ∨ (¬ zs.length < 1 ∧ ¬ 4 < zs.length ∧ txnF i s q zs = actsF zs))) := by
  unfold txnF
  cases h1 : inW i 1 200 <;> cases h2 : inW s 1 9 <;> cases h3 : inW q 1 99 <;> simp only [Bool.false_eq_true, Bool.true_eq_false, reduceCtorEq, if_true, if_false, false_or, or_false, true_or, or_true, false_and, true_and, and_true, and_false]
  by_cases h4 : zs.length < 1 <;> by_cases h5 : 4 < zs.length <;> simp only [h4, h5, if_true, if_false, or_true, true_or, or_false, false_or, not_true_eq_false, not_false_eq_true, false_and, true_and, and_self]

/-- A transaction in a box of four cells. -/
structure Box4 (w : World) (b o : Nat) (x0 x1 x2 x3 : Value) : Prop where
  c0 : w.cell? ⟨b, o, none⟩ = some x0
  c1 : w.cell? ⟨b, o + 1, none⟩ = some x1
  c2 : w.cell? ⟨b, o + 2, none⟩ = some x2
  c3 : w.cell? ⟨b, o + 3, none⟩ = some x3

theorem Box4.below {w w' : World} {b o : Nat} {x0 x1 x2 x3 : Value} (h : Box4 w b o x0 x1 x2 x3) (hb : Below w.heap.size w w') : Box4 w' b o x0 x1 x2 x3 := by
  have hlt : b < w.heap.size := World.block_lt_of_cell? w ⟨b, o, none⟩ h.c0
  exact ⟨by rw [hb.cell (p := ⟨b, o, none⟩) hlt]; exact h.c0, by rw [hb.cell (p := ⟨b, o + 1, none⟩) hlt]; exact h.c1, by rw [hb.cell (p := ⟨b, o + 2, none⟩) hlt]; exact h.c2, by rw [hb.cell (p := ⟨b, o + 3, none⟩) hlt]; exact h.c3⟩

theorem box4_new (w : World) (x0 x1 x2 x3 : Value) (t : TypeId) : Box4 (w.alloc (.cells #[x0, x1, x2, x3] t)) w.heap.size 0 x0 x1 x2 x3 := ⟨by simp, by simp, by simp, by simp⟩

theorem Box4.zero {w : World} {b : Nat} {x0 x1 x2 x3 : Value} (h : Box4 w b 0 x0 x1 x2 x3) : w.cell? ⟨b, 0, none⟩ = some x0 ∧ w.cell? ⟨b, 1, none⟩ = some x1 ∧ w.cell? ⟨b, 2, none⟩ = some x2 ∧ w.cell? ⟨b, 3, none⟩ = some x3 :=
  ⟨h.c0, by simpa using h.c1, by simpa using h.c2, by simpa using h.c3⟩

theorem Box4.lat {w : World} {b : Nat} {x0 x1 x2 x3 : Value} (h : Box4 w b 0 x0 x1 x2 x3) : (∀ u : Lat w, u.val.cell? ⟨b, 0, none⟩ = some x0) ∧ (∀ u : Lat w, u.val.cell? ⟨b, 1, none⟩ = some x1) ∧ (∀ u : Lat w, u.val.cell? ⟨b, 2, none⟩ = some x2) ∧ (∀ u : Lat w, u.val.cell? ⟨b, 3, none⟩ = some x3) :=
  ⟨lat_cell h.zero.1, lat_cell h.zero.2.1, lat_cell h.zero.2.2.1, lat_cell h.zero.2.2.2⟩

end Go.Proofs.Yticfbapipdhhmaa
