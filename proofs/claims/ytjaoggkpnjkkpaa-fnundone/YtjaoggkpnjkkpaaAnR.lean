/- Answers with three lists: when their memory is theirs; what the helpers of the laws do on them. -/
import Derived.Test.YtjaoggkpnjkkpaaIR
namespace Go.Proofs.Ytjaoggkpnjkkpaa
open Go.RowKit
set_option linter.unusedVariables false
set_option linter.unusedSimpArgs false

/-- No two of the three lie in one block. -/
structure Apart3 (s1 s2 s3 : Value) : Prop where
  a12 : s1.ownBlock = none ∨ s1.ownBlock ≠ s2.ownBlock
  a13 : s1.ownBlock = none ∨ s1.ownBlock ≠ s3.ownBlock
  a23 : s2.ownBlock = none ∨ s2.ownBlock ≠ s3.ownBlock

theorem ne_swap {s t : Value} (h : s.ownBlock = none ∨ s.ownBlock ≠ t.ownBlock) : t.ownBlock = none ∨ t.ownBlock ≠ s.ownBlock := by
  rcases h with h | h
  · cases ht : t.ownBlock with
    | none => exact Or.inl rfl
    | some g => right; rw [h]; simp
  · exact Or.inr (fun e => h e.symm)

structure OwnA (lo hi : Nat) (w : World) (s1 s2 s3 : Value) (cs vs : List Int) (ys : List ItemD) : Prop where
  o1 : OwnS 2 1 lo hi w s1 cs.length (cs.map (Value.int .i64))
  o2 : OwnS 2 1 lo hi w s2 vs.length (vs.map (Value.int .i64))
  o3 : OwnS 94 2 lo hi w s3 ys.length (itemCells ys)
  ap : Apart3 s1 s2 s3

/-- The three lists read so. -/
structure RowA (w : World) (a1 a2 a3 : Option Addr) (cs vs : List Int) (ys : List ItemD) : Prop where
  r1 : Row .i64 w a1 cs
  r2 : Row .i64 w a2 vs
  r3 : ItemRow w a3 ys

theorem OwnA.below {lo hi : Nat} {w w' : World} {s1 s2 s3 : Value} {cs vs : List Int} {ys : List ItemD} (h : OwnA lo hi w s1 s2 s3 cs vs ys) (hb : Below w.heap.size w w') : OwnA lo hi w' s1 s2 s3 cs vs ys := ⟨h.o1.below hb, h.o2.below hb, h.o3.below hb, h.ap⟩
theorem OwnA.only {lo hi lo' hi' : Nat} {w w' : World} {s1 s2 s3 : Value} {cs vs : List Int} {ys : List ItemD} (h : OwnA lo hi w s1 s2 s3 cs vs ys) (ho : Only lo' hi' w w') (hh : hi' ≤ lo) : OwnA lo hi w' s1 s2 s3 cs vs ys := ⟨h.o1.only ho hh, h.o2.only ho hh, h.o3.only ho hh, h.ap⟩
theorem OwnA.row {lo hi c1 c2 c3 : Nat} {w : World} {a1 a2 a3 : Option Addr} {cs vs : List Int} {ys : List ItemD} (h : OwnA lo hi w (.slice a1 cs.length c1) (.slice a2 vs.length c2) (.slice a3 ys.length c3) cs vs ys) : RowA w a1 a2 a3 cs vs ys := ⟨Row.own h.o1.1, Row.own h.o2.1, Lies.own h.o3.1⟩
theorem RowA.below {w w' : World} {a1 a2 a3 : Option Addr} {cs vs : List Int} {ys : List ItemD} (h : RowA w a1 a2 a3 cs vs ys) (hb : Below w.heap.size w w') : RowA w' a1 a2 a3 cs vs ys := ⟨h.r1.below hb, h.r2.below hb, h.r3.below hb⟩

def ansM (n1 n2 n3 : Nat) : Int := 1 + (n1 : Int) + (n2 : Int) + ((n3 * 2 : Nat) : Int)

/-- The three lists hold their marks. -/
structure MarkA (w : World) (a1 a2 a3 : Option Addr) (n1 n2 n3 : Nat) : Prop where
  r1 : Row .i64 w a1 (marks .i64 1 n1)
  r2 : Row .i64 w a2 (marks .i64 (1 + (n1 : Int)) n2)
  r3 : ItemRow w a3 (itemMarks (1 + (n1 : Int) + (n2 : Int)) n3)
theorem MarkA.below {w w' : World} {a1 a2 a3 : Option Addr} {n1 n2 n3 : Nat} (h : MarkA w a1 a2 a3 n1 n2 n3) (hb : Below w.heap.size w w') : MarkA w' a1 a2 a3 n1 n2 n3 := ⟨h.r1.below hb, h.r2.below hb, h.r3.below hb⟩

end Go.Proofs.Ytjaoggkpnjkkpaa
