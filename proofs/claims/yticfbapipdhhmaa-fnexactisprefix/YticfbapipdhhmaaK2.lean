/- The kinds of elements: numbers, acts, transactions. No condition. -/
import Derived.Test.YticfbapipdhhmaaFoot2
import Derived.Test.YticfbapipdhhmaaHelpI
import Derived.Test.YticfbapipdhhmaaD2s
namespace Go.Proofs.Yticfbapipdhhmaa
open Go.RowKit
set_option linter.unusedVariables false
set_option linter.unusedSimpArgs false

/-- Numbers. -/
def intK : Kind Int where
  ty := 2
  size := 1
  cells n := [.int .i64 n]
  own _ _ := True
  rd _ _ := True
  foot _ := []
  len _ := rfl
  own_rd _ := trivial
  own_out _ _ _ := trivial
  own_lt _ k hk := by simp at hk
  rd_below _ _ := trivial
/-- Acts. -/
def actK : Kind ActD where
  ty := 42
  size := 3
  cells := ActD.cells
  own _ _ := True
  rd _ _ := True
  foot _ := []
  len _ := rfl
  own_rd _ := trivial
  own_out _ _ _ := trivial
  own_lt _ k hk := by simp at hk
  rd_below _ _ := trivial

/-- A transaction where it lies. -/
structure TxnQ where
  i : Int
  s : Int
  q : Int
  va : Value
  acts : List ActD
def txnK : Kind TxnQ where
  ty := 34
  size := 4
  cells p := [.int .i64 p.i, .int .i64 p.s, .int .i64 p.q, p.va]
  own w p := actK.Own w p.va p.acts
  rd w p := actK.At w p.va p.acts
  foot p := actK.fp p.va p.acts
  len _ := rfl
  own_rd h := h.at
  own_out h ho hd := h.out ho hd
  own_lt h := h.lt
  rd_below h hb := h.below hb

/-- What a transaction tells, without where it lies. -/
def TxnQ.e (p : TxnQ) : TxnD := ⟨p.i, p.s, p.q, p.acts⟩
/-- How much there is. -/
def TxnD.n (d : TxnD) : Nat := d.acts.length
def txnsN (ds : List TxnD) : Nat := ds.length + nmL TxnD.n ds

end Go.Proofs.Yticfbapipdhhmaa
