/- Answers with three lists: when their memory is theirs; what the helpers of the laws do on them. -/
import Derived.Test.YteoghlebijfbaaaIR
namespace Go.Proofs.Yteoghlebijfbaaa
open Go.RowKit
set_option linter.unusedVariables false
set_option linter.unusedSimpArgs false

/-- No two of the three lie in one block. -/
structure Apart3 (s1 s2 s3 : Value) : Prop where
  a12 : s1.ownBlock = none ∨ s1.ownBlock ≠ s2.ownBlock
  a13 : s1.ownBlock = none ∨ s1.ownBlock ≠ s3.ownBlock
  a23 : s2.ownBlock = none ∨ s2.ownBlock ≠ s3.ownBlock

theorem ne_swap {s t : Value} (h : s.ownBlock = none ∨ s.ownBlock ≠ t.ownBlock) : t.ownBlock = none ∨ t.ownBlock ≠ s.ownBlock := by
  rcases h with h | h
  · cases ht : t.ownBlock with
    | none => exact Or.inl rfl
    | some g => right; rw [h]; simp
  · exact Or.inr (fun e => h e.symm)

structure OwnA (lo hi : Nat) (w : World) (s1 s2 s3 : Value) (cs vs : List Int) (ys : List ItemD) : Prop where
  o1 : OwnS 2 1 lo hi w s1 cs.length (cs.map (Value.int .i64))
  o2 : OwnS 2 1 lo hi w s2 vs.length (vs.map (Value.int .i64))
  o3 : OwnS 53 2 lo hi w s3 ys.length (itemCells ys)
  ap : Apart3 s1 s2 s3

/-- The three lists read so. -/
structure RowA (w : World) (a1 a2 a3 : Option Addr) (cs vs : List Int) (ys : List ItemD) : Prop where
  r1 : Row .i64 w a1 cs
  r2 : Row .i64 w a2 vs
  r3 : ItemRow w a3 ys

theorem OwnA.below {lo hi : Nat} {w w' : World} {s1 s2 s3 : Value} {cs vs : List Int} {ys : List ItemD} (h : OwnA lo hi w s1 s2 s3 cs vs ys) (hb : Below w.heap.size w w') : OwnA lo hi w' s1 s2 s3 cs vs ys := ⟨h.o1.below hb, h.o2.below hb, h.o3.below hb, h.ap⟩
theorem OwnA.only {lo hi lo' hi' : Nat} {w w' : World} {s1 s2 s3 : Value} {cs vs : List Int} {ys : List ItemD} (h : OwnA lo hi w s1 s2 s3 cs vs ys) (ho : Only lo' hi' w w') (hh : hi' ≤ lo) : OwnA lo hi w' s1 s2 s3 cs vs ys := ⟨h.o1.only ho hh, h.o2.only ho hh, h.o3.only ho hh, h.ap⟩
theorem OwnA.row {lo hi c1 c2 c3 : Nat} {w : World} {a1 a2 a3 : Option Addr} {cs vs : List Int} {ys : List ItemD} (h : OwnA lo hi w (.slice a1 cs.length c1) (.slice a2 vs.length c2) (.slice a3 ys.length c3) cs vs ys) : RowA w a1 a2 a3 cs vs ys := ⟨Row.own h.o1.1, Row.own h.o2.1, Lies.own h.o3.1⟩
theorem RowA.below {w w' : World} {a1 a2 a3 : Option Addr} {cs vs : List Int} {ys : List ItemD} (h : RowA w a1 a2 a3 cs vs ys) (hb : Below w.heap.size w w') : RowA w' a1 a2 a3 cs vs ys := ⟨h.r1.below hb, h.r2.below hb, h.r3.below hb⟩

set_option maxHeartbeats 1000000 in
theorem eqAnR_true (d : Int) (a1 a1' : Option Addr) (c1 c1' : Nat) (a2 a2' : Option Addr) (c2 c2' : Nat) (a3 a3' : Option Addr) (c3 c3' : Nat) (cs vs : List Int) (ys : List ItemD) (w : World) (h : RowA w a1 a2 a3 cs vs ys) (h' : RowA w a1' a2' a3' cs vs ys) (hl : cs.length ≤ 1048576 ∧ vs.length ≤ 1048576 ∧ ys.length ≤ 1048576) :
    Calls Try.prog 43 #[.agg #[.int .i64 d, .slice a1 cs.length c1, .slice a2 vs.length c2, .slice a3 ys.length c3], .agg #[.int .i64 d, .slice a1' cs.length c1', .slice a2' vs.length c2', .slice a3' ys.length c3']] w fun e w' => e = .returned (.bool true) ∧ Below w.heap.size w w' := by
  have h0 : (d != d) = false := by simp
  have hb0 : Below w.heap.size w ((w.alloc (.cells #[.int .i64 d, .slice a1 cs.length c1, .slice a2 vs.length c2, .slice a3 ys.length c3] 38)).alloc (.cells #[.int .i64 d, .slice a1' cs.length c1', .slice a2' vs.length c2', .slice a3' ys.length c3'] 38)) := by go_grown
  have Ba := (Blk.new w 38 #[.int .i64 d, .slice a1 cs.length c1, .slice a2 vs.length c2, .slice a3 ys.length c3]).below (w' := (w.alloc (.cells #[.int .i64 d, .slice a1 cs.length c1, .slice a2 vs.length c2, .slice a3 ys.length c3] 38)).alloc (.cells #[.int .i64 d, .slice a1' cs.length c1', .slice a2' vs.length c2', .slice a3' ys.length c3'] 38)) (by go_grown)
  have Bb := Blk.new (w.alloc (.cells #[.int .i64 d, .slice a1 cs.length c1, .slice a2 vs.length c2, .slice a3 ys.length c3] 38)) 38 #[.int .i64 d, .slice a1' cs.length c1', .slice a2' vs.length c2', .slice a3' ys.length c3']
  rw [World.size_alloc] at Bb
  go_enter Try.func43, Try.ntmps43
  go_wp2_with fail
  generalize (w.alloc (.cells #[.int .i64 d, .slice a1 cs.length c1, .slice a2 vs.length c2, .slice a3 ys.length c3] 38)).alloc (.cells #[.int .i64 d, .slice a1' cs.length c1', .slice a2' vs.length c2', .slice a3' ys.length c3'] 38) = W at hb0 Ba Bb
  refine (eqI_true a1 a1' c1 c1' cs _ (h.r1.below hb0) (h'.r1.below hb0) (by omega)).mono ?_
  rintro e w1 ⟨rfl, nn, rfl⟩
  have hb := below_drewN (Below.refl W.heap.size W) nn
  replace Ba := Ba.below hb
  replace Bb := Bb.below hb
  replace hb0 := hb0.trans (hb.mono hb0.size)
  clear hb
  generalize W.drewN nn = w1 at hb0 Ba Bb ⊢
  have p2 := Ba.cell 2 _ rfl
  have q2 := Bb.cell 2 _ rfl
  go_wp2_with fail
  clear p2 q2
  refine (eqI_true a2 a2' c2 c2' vs _ (h.r2.below hb0) (h'.r2.below hb0) (by omega)).mono ?_
  rintro e w2 ⟨rfl, nn2, rfl⟩
  have hb := below_drewN (Below.refl w1.heap.size w1) nn2
  replace Ba := Ba.below hb
  replace Bb := Bb.below hb
  replace hb0 := hb0.trans (hb.mono hb0.size)
  clear hb
  generalize w1.drewN nn2 = w2 at hb0 Ba Bb ⊢
  have p3 := Ba.cell 3 _ rfl
  have q3 := Bb.cell 3 _ rfl
  go_wp2_with fail
  clear p3 q3
  refine (eqItemS_true a3 a3' c3 c3' ys _ (h.r3.below hb0) (h'.r3.below hb0) (by omega)).mono ?_
  rintro e w3 ⟨rfl, hb⟩
  replace hb0 := hb0.trans (hb.mono hb0.size)
  clear hb Ba Bb
  go_wp2
  go_ret
  exact ⟨rfl, hb0⟩

def ansM (n1 n2 n3 : Nat) : Int := 1 + (n1 : Int) + (n2 : Int) + ((n3 * 2 : Nat) : Int)

/-- The three lists hold their marks. -/
structure MarkA (w : World) (a1 a2 a3 : Option Addr) (n1 n2 n3 : Nat) : Prop where
  r1 : Row .i64 w a1 (marks .i64 1 n1)
  r2 : Row .i64 w a2 (marks .i64 (1 + (n1 : Int)) n2)
  r3 : ItemRow w a3 (itemMarks (1 + (n1 : Int) + (n2 : Int)) n3)
theorem MarkA.below {w w' : World} {a1 a2 a3 : Option Addr} {n1 n2 n3 : Nat} (h : MarkA w a1 a2 a3 n1 n2 n3) (hb : Below w.heap.size w w') : MarkA w' a1 a2 a3 n1 n2 n3 := ⟨h.r1.below hb, h.r2.below hb, h.r3.below hb⟩

set_option maxHeartbeats 1000000 in
theorem markAnR_any (lo hi : Nat) (d : Int) (a1 : Option Addr) (c1 : Nat) (a2 : Option Addr) (c2 : Nat) (a3 : Option Addr) (c3 : Nat) (cs vs : List Int) (ys : List ItemD) (w : World) (h : OwnA lo hi w (.slice a1 cs.length c1) (.slice a2 vs.length c2) (.slice a3 ys.length c3) cs vs ys) (hl : cs.length ≤ 1048576 ∧ vs.length ≤ 1048576 ∧ ys.length ≤ 1048576) :
    Calls Try.prog 46 #[.agg #[.int .i64 d, .slice a1 cs.length c1, .slice a2 vs.length c2, .slice a3 ys.length c3], .int .i64 1] w fun e w' => e = .returned (.int .i64 (ansM cs.length vs.length ys.length)) ∧ MarkA w' a1 a2 a3 cs.length vs.length ys.length ∧ Only lo hi w w' := by
  have hb0 : Below w.heap.size w (w.alloc (.cells #[.int .i64 d, .slice a1 cs.length c1, .slice a2 vs.length c2, .slice a3 ys.length c3] 38)) := by go_grown
  have Ba := Blk.new w 38 #[.int .i64 d, .slice a1 cs.length c1, .slice a2 vs.length c2, .slice a3 ys.length c3]
  have hO : Only lo hi w (w.alloc (.cells #[.int .i64 d, .slice a1 cs.length c1, .slice a2 vs.length c2, .slice a3 ys.length c3] 38)) := Only.of_below hb0
  have ha := h.ap
  have n1 := own_not3 h.o1.1 (b := w.heap.size) (Or.inr (Nat.le_refl _))
  have n2 := own_not3 h.o2.1 (b := w.heap.size) (Or.inr (Nat.le_refl _))
  have o1 := h.o1.below hb0
  have o2 := h.o2.below hb0
  have o3 := h.o3.below hb0
  go_enter Try.func46, Try.ntmps46
  go_wp2_with fail
  generalize w.alloc (.cells #[.int .i64 d, .slice a1 cs.length c1, .slice a2 vs.length c2, .slice a3 ys.length c3] 38) = W at hb0 Ba hO o1 o2 o3
  refine (markI_any lo _ cs.length _ 1 W o1.1 (by omega) (by omega) (by omega)).mono ?_
  rintro e w1 ⟨rfl, m1, hg⟩
  replace Ba := Ba.grown hg n1
  replace hO := hO.trans (o1.grown hg)
  replace o2 := o2.beside hg (ne_swap ha.a12)
  replace o3 := o3.beside hg (ne_swap ha.a13)
  have p2 := Ba.cell 2 _ rfl
  clear hg o1
  go_wp2_with fail
  clear p2
  refine (markI_any lo _ vs.length _ (1 + (cs.length : Int)) w1 o2.1 (by omega) (by omega) (by omega)).mono ?_
  rintro e w2 ⟨rfl, m2, hg⟩
  replace Ba := Ba.grown hg n2
  replace hO := hO.trans (o2.grown hg)
  replace m1 := m1.kept hg ha.a12
  replace o3 := o3.beside hg (ne_swap ha.a23)
  have p3 := Ba.cell 3 _ rfl
  clear hg o2
  go_wp2_with fail
  clear p3
  refine (markItemS_any lo _ ys.length _ (1 + (cs.length : Int) + (vs.length : Int)) w2 o3.1 (by omega) (by omega) (by omega)).mono ?_
  rintro e w3 ⟨rfl, m3, hg⟩
  replace hO := hO.trans (o3.grown hg)
  replace m1 := m1.kept hg ha.a13
  replace m2 := m2.kept hg ha.a23
  clear hg o3 Ba
  go_wp2
  go_ret
  refine ⟨rfl, ⟨Row.own m1, Row.own m2, Lies.own m3⟩, hO⟩

set_option maxHeartbeats 1000000 in
theorem heldAnR_true (d : Int) (a1 : Option Addr) (c1 : Nat) (a2 : Option Addr) (c2 : Nat) (a3 : Option Addr) (c3 : Nat) (n1 n2 n3 : Nat) (w : World) (h : MarkA w a1 a2 a3 n1 n2 n3) (hl : n1 ≤ 1048576 ∧ n2 ≤ 1048576 ∧ n3 ≤ 1048576) :
    Calls Try.prog 47 #[.agg #[.int .i64 d, .slice a1 n1 c1, .slice a2 n2 c2, .slice a3 n3 c3], .int .i64 1] w fun e w' => e = .returned (.int .i64 (ansM n1 n2 n3)) ∧ Below w.heap.size w w' := by
  have hb0 : Below w.heap.size w (w.alloc (.cells #[.int .i64 d, .slice a1 n1 c1, .slice a2 n2 c2, .slice a3 n3 c3] 38)) := by go_grown
  have Ba := Blk.new w 38 #[.int .i64 d, .slice a1 n1 c1, .slice a2 n2 c2, .slice a3 n3 c3]
  replace h := h.below hb0
  have e1 := heldI_true a1 n1 c1 1 _ h.r1 (by omega) (by omega) (by omega)
  have e2 := heldI_true a2 n2 c2 (1 + (n1 : Int)) _ h.r2 (by omega) (by omega) (by omega)
  have e3 := heldItemS_true a3 n3 c3 (1 + (n1 : Int) + (n2 : Int)) _ h.r3 (by omega) (by omega) (by omega)
  have hm : ansM n1 n2 n3 = 1 + (n1 : Int) + (n2 : Int) + ((n3 * 2 : Nat) : Int) := rfl
  rw [hm]
  have g1 : ¬ 1 + (n1 : Int) < 0 := by omega
  have g2 : ¬ 1 + (n1 : Int) + (n2 : Int) < 0 := by omega
  have g3 : ¬ 1 + (n1 : Int) + (n2 : Int) + ((n3 * 2 : Nat) : Int) < 0 := by omega
  generalize 1 + (n1 : Int) + (n2 : Int) + ((n3 * 2 : Nat) : Int) = m3 at e3 g3
  generalize 1 + (n1 : Int) + (n2 : Int) = m2 at e2 e3 g2
  generalize 1 + (n1 : Int) = m1 at e1 e2 g1
  have p2 := Ba.cell 2 _ rfl
  have p3 := Ba.cell 3 _ rfl
  go_enter Try.func47, Try.ntmps47
  go_wp2_with fail
  generalize w.alloc (.cells #[.int .i64 d, .slice a1 n1 c1, .slice a2 n2 c2, .slice a3 n3 c3] 38) = W at *
  refine e1.mono ?_
  rintro e w1 ⟨rfl, hw⟩
  replace hw := hw.symm
  subst hw
  go_wp2_with fail
  refine e2.mono ?_
  rintro e w1 ⟨rfl, hw⟩
  replace hw := hw.symm
  subst hw
  go_wp2_with fail
  refine e3.mono ?_
  rintro e w1 ⟨rfl, hw⟩
  replace hw := hw.symm
  subst hw
  go_wp2
  go_ret
  exact ⟨rfl, hb0⟩

end Go.Proofs.Yteoghlebijfbaaa
