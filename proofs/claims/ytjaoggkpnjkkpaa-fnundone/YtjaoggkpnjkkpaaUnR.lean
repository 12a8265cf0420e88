/- Answers with undos and items: when their memory is theirs; what the helpers of the laws do on them. -/
import Derived.Test.YtjaoggkpnjkkpaaAnR
import Derived.Test.YtjaoggkpnjkkpaaU4
namespace Go.Proofs.Ytjaoggkpnjkkpaa
open Go.RowKit
set_option linter.unusedVariables false
set_option linter.unusedSimpArgs false

structure OwnU (lo hi : Nat) (w : World) (s1 s2 : Value) (us : List UndoD) (ys : List ItemD) : Prop where
  o1 : OwnS 96 3 lo hi w s1 us.length (undoCells us)
  o2 : OwnS 94 2 lo hi w s2 ys.length (itemCells ys)
  ap : s1.ownBlock = none ∨ s1.ownBlock ≠ s2.ownBlock

/-- The two lists read so. -/
structure RowU (w : World) (a1 a2 : Option Addr) (us : List UndoD) (ys : List ItemD) : Prop where
  r1 : UndoRow w a1 us
  r2 : ItemRow w a2 ys

theorem OwnU.below {lo hi : Nat} {w w' : World} {s1 s2 : Value} {us : List UndoD} {ys : List ItemD} (h : OwnU lo hi w s1 s2 us ys) (hb : Below w.heap.size w w') : OwnU lo hi w' s1 s2 us ys := ⟨h.o1.below hb, h.o2.below hb, h.ap⟩
theorem OwnU.only {lo hi lo' hi' : Nat} {w w' : World} {s1 s2 : Value} {us : List UndoD} {ys : List ItemD} (h : OwnU lo hi w s1 s2 us ys) (ho : Only lo' hi' w w') (hh : hi' ≤ lo) : OwnU lo hi w' s1 s2 us ys := ⟨h.o1.only ho hh, h.o2.only ho hh, h.ap⟩
theorem OwnU.setOther {lo hi g j : Nat} {w : World} {s1 s2 u : Value} {us : List UndoD} {ys : List ItemD} (h : OwnU lo hi w s1 s2 us ys) (hne : ∀ k, (s1.ownBlock = some k ∨ s2.ownBlock = some k) → k ≠ g) : OwnU lo hi (w.setCell ⟨g, j, none⟩ u) s1 s2 us ys :=
  ⟨⟨own_set_other h.o1.1 (fun k hk => hne k (Or.inl hk)), h.o1.2⟩, ⟨own_set_other h.o2.1 (fun k hk => hne k (Or.inr hk)), h.o2.2⟩, h.ap⟩
theorem OwnU.row {lo hi c1 c2 : Nat} {w : World} {a1 a2 : Option Addr} {us : List UndoD} {ys : List ItemD} (h : OwnU lo hi w (.slice a1 us.length c1) (.slice a2 ys.length c2) us ys) : RowU w a1 a2 us ys := ⟨Lies.own h.o1.1, Lies.own h.o2.1⟩
theorem RowU.below {w w' : World} {a1 a2 : Option Addr} {us : List UndoD} {ys : List ItemD} (h : RowU w a1 a2 us ys) (hb : Below w.heap.size w w') : RowU w' a1 a2 us ys := ⟨h.r1.below hb, h.r2.below hb⟩

set_option maxHeartbeats 1000000 in
theorem eqUnR_true (d y : Int) (a1 a1' : Option Addr) (c1 c1' : Nat) (a2 a2' : Option Addr) (c2 c2' : Nat) (us : List UndoD) (ys : List ItemD) (w : World) (h : RowU w a1 a2 us ys) (h' : RowU w a1' a2' us ys) (hl : us.length ≤ 1048576 ∧ ys.length ≤ 1048576) :
    Calls Try.prog 27 #[.agg #[.int .i64 d, .int .i64 y, .slice a1 us.length c1, .slice a2 ys.length c2], .agg #[.int .i64 d, .int .i64 y, .slice a1' us.length c1', .slice a2' ys.length c2']] w fun e w' => e = .returned (.bool true) ∧ Below w.heap.size w w' := by
  have h0 : (d != d) = false := by simp
  have h1 : (y != y) = false := by simp
  have hb0 : Below w.heap.size w ((w.alloc (.cells #[.int .i64 d, .int .i64 y, .slice a1 us.length c1, .slice a2 ys.length c2] 32)).alloc (.cells #[.int .i64 d, .int .i64 y, .slice a1' us.length c1', .slice a2' ys.length c2'] 32)) := by go_grown
  have Ba := (Blk.new w 32 #[.int .i64 d, .int .i64 y, .slice a1 us.length c1, .slice a2 ys.length c2]).below (w' := (w.alloc (.cells #[.int .i64 d, .int .i64 y, .slice a1 us.length c1, .slice a2 ys.length c2] 32)).alloc (.cells #[.int .i64 d, .int .i64 y, .slice a1' us.length c1', .slice a2' ys.length c2'] 32)) (by go_grown)
  have Bb := Blk.new (w.alloc (.cells #[.int .i64 d, .int .i64 y, .slice a1 us.length c1, .slice a2 ys.length c2] 32)) 32 #[.int .i64 d, .int .i64 y, .slice a1' us.length c1', .slice a2' ys.length c2']
  rw [World.size_alloc] at Bb
  go_enter Try.func27, Try.ntmps27
  go_wp2_with fail
  generalize (w.alloc (.cells #[.int .i64 d, .int .i64 y, .slice a1 us.length c1, .slice a2 ys.length c2] 32)).alloc (.cells #[.int .i64 d, .int .i64 y, .slice a1' us.length c1', .slice a2' ys.length c2'] 32) = W at hb0 Ba Bb
  refine (eqUndoS_true a1 a1' c1 c1' us _ (h.r1.below hb0) (h'.r1.below hb0) (by omega)).mono ?_
  rintro e w2 ⟨rfl, hb⟩
  replace Ba := Ba.below hb
  replace Bb := Bb.below hb
  replace hb0 := hb0.trans (hb.mono hb0.size)
  clear hb
  have p3 := Ba.cell 3 _ rfl
  have q3 := Bb.cell 3 _ rfl
  go_wp2_with fail
  clear p3 q3
  refine (eqItemS_true a2 a2' c2 c2' ys _ (h.r2.below hb0) (h'.r2.below hb0) (by omega)).mono ?_
  rintro e w3 ⟨rfl, hb⟩
  replace hb0 := hb0.trans (hb.mono hb0.size)
  clear hb Ba Bb
  go_wp2
  go_ret
  exact ⟨rfl, hb0⟩

def unM (n1 n2 : Nat) : Int := 1 + ((n1 * 3 : Nat) : Int) + ((n2 * 2 : Nat) : Int)

/-- The two lists hold their marks. -/
structure MarkU (w : World) (a1 a2 : Option Addr) (n1 n2 : Nat) : Prop where
  r1 : UndoRow w a1 (undoMarks 1 n1)
  r2 : ItemRow w a2 (itemMarks (1 + ((n1 * 3 : Nat) : Int)) n2)
theorem MarkU.below {w w' : World} {a1 a2 : Option Addr} {n1 n2 : Nat} (h : MarkU w a1 a2 n1 n2) (hb : Below w.heap.size w w') : MarkU w' a1 a2 n1 n2 := ⟨h.r1.below hb, h.r2.below hb⟩

set_option maxHeartbeats 1000000 in
theorem markUnR_any (lo hi : Nat) (d y : Int) (a1 : Option Addr) (c1 : Nat) (a2 : Option Addr) (c2 : Nat) (us : List UndoD) (ys : List ItemD) (w : World) (h : OwnU lo hi w (.slice a1 us.length c1) (.slice a2 ys.length c2) us ys) (hl : us.length ≤ 1048576 ∧ ys.length ≤ 1048576) :
    Calls Try.prog 32 #[.agg #[.int .i64 d, .int .i64 y, .slice a1 us.length c1, .slice a2 ys.length c2], .int .i64 1] w fun e w' => e = .returned (.int .i64 (unM us.length ys.length)) ∧ MarkU w' a1 a2 us.length ys.length ∧ Only lo hi w w' := by
  have hb0 : Below w.heap.size w (w.alloc (.cells #[.int .i64 d, .int .i64 y, .slice a1 us.length c1, .slice a2 ys.length c2] 32)) := by go_grown
  have Ba := Blk.new w 32 #[.int .i64 d, .int .i64 y, .slice a1 us.length c1, .slice a2 ys.length c2]
  have hO : Only lo hi w (w.alloc (.cells #[.int .i64 d, .int .i64 y, .slice a1 us.length c1, .slice a2 ys.length c2] 32)) := Only.of_below hb0
  have ha := h.ap
  have n1 := own_not3 h.o1.1 (b := w.heap.size) (Or.inr (Nat.le_refl _))
  have o1 := h.o1.below hb0
  have o2 := h.o2.below hb0
  go_enter Try.func32, Try.ntmps32
  go_wp2_with fail
  generalize w.alloc (.cells #[.int .i64 d, .int .i64 y, .slice a1 us.length c1, .slice a2 ys.length c2] 32) = W at hb0 Ba hO o1 o2
  refine (markUndoS_any lo _ us.length _ 1 W o1.1 (by omega) (by omega) (by omega)).mono ?_
  rintro e w1 ⟨rfl, m1, hg⟩
  replace Ba := Ba.grown hg n1
  replace hO := hO.trans (o1.grown hg)
  replace o2 := o2.beside hg (ne_swap ha)
  have p3 := Ba.cell 3 _ rfl
  clear hg o1
  go_wp2_with fail
  clear p3
  refine (markItemS_any lo _ ys.length _ (1 + ((us.length * 3 : Nat) : Int)) w1 o2.1 (by omega) (by omega) (by omega)).mono ?_
  rintro e w3 ⟨rfl, m3, hg⟩
  replace hO := hO.trans (o2.grown hg)
  replace m1 := m1.kept hg ha
  clear hg o2 Ba
  go_wp2
  go_ret
  refine ⟨rfl, ⟨Lies.own m1, Lies.own m3⟩, hO⟩

set_option maxHeartbeats 1000000 in
theorem heldUnR_true (d y : Int) (a1 : Option Addr) (c1 : Nat) (a2 : Option Addr) (c2 : Nat) (n1 n2 : Nat) (w : World) (h : MarkU w a1 a2 n1 n2) (hl : n1 ≤ 1048576 ∧ n2 ≤ 1048576) :
    Calls Try.prog 33 #[.agg #[.int .i64 d, .int .i64 y, .slice a1 n1 c1, .slice a2 n2 c2], .int .i64 1] w fun e w' => e = .returned (.int .i64 (unM n1 n2)) ∧ Below w.heap.size w w' := by
  have hb0 : Below w.heap.size w (w.alloc (.cells #[.int .i64 d, .int .i64 y, .slice a1 n1 c1, .slice a2 n2 c2] 32)) := by go_grown
  have Ba := Blk.new w 32 #[.int .i64 d, .int .i64 y, .slice a1 n1 c1, .slice a2 n2 c2]
  replace h := h.below hb0
  have e1 := heldUndoS_true a1 n1 c1 1 _ h.r1 (by omega) (by omega) (by omega)
  have e3 := heldItemS_true a2 n2 c2 (1 + ((n1 * 3 : Nat) : Int)) _ h.r2 (by omega) (by omega) (by omega)
  have hm : unM n1 n2 = 1 + ((n1 * 3 : Nat) : Int) + ((n2 * 2 : Nat) : Int) := rfl
  rw [hm]
  have g1 : ¬ 1 + ((n1 * 3 : Nat) : Int) < 0 := by omega
  have g3 : ¬ 1 + ((n1 * 3 : Nat) : Int) + ((n2 * 2 : Nat) : Int) < 0 := by omega
  generalize 1 + ((n1 * 3 : Nat) : Int) + ((n2 * 2 : Nat) : Int) = m3 at e3 g3
  generalize 1 + ((n1 * 3 : Nat) : Int) = m1 at e1 e3 g1
  have p3 := Ba.cell 3 _ rfl
  go_enter Try.func33, Try.ntmps33
  go_wp2_with fail
  generalize w.alloc (.cells #[.int .i64 d, .int .i64 y, .slice a1 n1 c1, .slice a2 n2 c2] 32) = W at *
  refine e1.mono ?_
  rintro e w1 ⟨rfl, hw⟩
  replace hw := hw.symm
  subst hw
  go_wp2_with fail
  refine e3.mono ?_
  rintro e w1 ⟨rfl, hw⟩
  replace hw := hw.symm
  subst hw
  go_wp2
  go_ret
  exact ⟨rfl, hb0⟩

end Go.Proofs.Ytjaoggkpnjkkpaa
