/- The kinds of elements: items, what undoes, lists of these; what the helpers of the laws do with them. No condition. -/
import Derived.Test.YtkkdjgiencilbaaKL
import Derived.Test.YtkkdjgiencilbaaKT
import Derived.Test.YtkkdjgiencilbaaD3
import Derived.Test.YtkkdjgiencilbaaD4
import Derived.Test.YtkkdjgiencilbaaBlk5
namespace Go.Proofs.Ytkkdjgiencilbaa
open Go.RowKit
open Go.BigFrame
set_option linter.unusedVariables false
set_option linter.unusedSimpArgs false

def itemK : Kind ItemD where
  ty := 168
  size := 2
  cells := ItemD.cells
  own _ _ := True
  rd _ _ := True
  foot _ := []
  len _ := rfl
  own_rd _ := trivial
  own_out _ _ _ := trivial
  own_lt _ k hk := by simp at hk
  rd_below _ _ := trivial
theorem itemK_row (zs : List ItemD) : itemK.row zs = itemCells zs := rfl
theorem itemK_at {w : World} {a : Option Addr} {n cap : Nat} {zs : List ItemD} (h : itemK.At w (.slice a n cap) zs) : n = zs.length ∧ ItemRow w a zs := by
  obtain ⟨a', c, e, hl, _⟩ := h
  simp only [Value.slice.injEq] at e
  obtain ⟨rfl, rfl, _⟩ := e
  exact ⟨rfl, hl⟩
theorem itemK_mk {w : World} {a : Option Addr} {cap : Nat} {zs : List ItemD} (h : ItemRow w a zs) : itemK.At w (.slice a zs.length cap) zs := ⟨a, cap, rfl, h, fun _ _ => trivial⟩
theorem itemK_fp (v : Value) (zs : List ItemD) : itemK.fp v zs = blk v := by
  have : zs.flatMap itemK.foot = [] := by simp [show ∀ z, itemK.foot z = [] from fun _ => rfl]
  simp [Kind.fp, this]

def undoK : Kind UndoD where
  ty := 170
  size := 3
  cells := UndoD.cells
  own _ _ := True
  rd _ _ := True
  foot _ := []
  len _ := rfl
  own_rd _ := trivial
  own_out _ _ _ := trivial
  own_lt _ k hk := by simp at hk
  rd_below _ _ := trivial
theorem undoK_row (zs : List UndoD) : undoK.row zs = undoCells zs := rfl
theorem undoK_at {w : World} {a : Option Addr} {n cap : Nat} {zs : List UndoD} (h : undoK.At w (.slice a n cap) zs) : n = zs.length ∧ UndoRow w a zs := by
  obtain ⟨a', c, e, hl, _⟩ := h
  simp only [Value.slice.injEq] at e
  obtain ⟨rfl, rfl, _⟩ := e
  exact ⟨rfl, hl⟩
theorem undoK_mk {w : World} {a : Option Addr} {cap : Nat} {zs : List UndoD} (h : UndoRow w a zs) : undoK.At w (.slice a zs.length cap) zs := ⟨a, cap, rfl, h, fun _ _ => trivial⟩
theorem undoK_fp (v : Value) (zs : List UndoD) : undoK.fp v zs = blk v := by
  have : zs.flatMap undoK.foot = [] := by simp [show ∀ z, undoK.foot z = [] from fun _ => rfl]
  simp [Kind.fp, this]

theorem szItems_k (v : Value) (zs : List ItemD) (c : Int) (w : World) (h : itemK.At w v zs) (hn : zs.length ≤ 9223372036854775807) (h0 : 0 ≤ c) (h1 : c ≤ 1048576) :
    Calls Try.prog 100 #[v, .int .i64 c] w fun e w' => ∃ r : Int, e = .returned (.int .i64 r) ∧ (¬ r < 0 → (zs.length : Int) + r = c) ∧ Below w.heap.size w w' := by
  obtain ⟨a, cap, rfl⟩ := h.shape
  refine (szItemS_any a zs.length cap c w hn h0 (by omega)).mono ?_
  rintro e w' ⟨rfl, rfl⟩
  refine ⟨_, rfl, ?_, Below.refl _ _⟩
  split <;> omega

theorem toItems_k (v : Value) (zs : List ItemD) (w : World) (h : itemK.At w v zs) (hl : zs.length ≤ 1048576) :
    Calls Try.prog 107 #[v] w fun e w' => ∃ v', e = .returned v' ∧ itemK.Own w' v' zs ∧ (itemK.fp v' zs).Nodup ∧ (∀ k ∈ itemK.fp v' zs, w.heap.size ≤ k) ∧ Below w.heap.size w w' := by
  obtain ⟨a, cap, rfl⟩ := h.shape
  refine (toItemS_any a cap zs w (itemK_at h).2 hl).mono ?_
  rintro e w' ⟨g, c, rfl, ho, hb⟩
  obtain ⟨o, hk⟩ := own_zero ho
  refine ⟨_, rfl, ⟨o, fun _ _ => trivial⟩, ?_, ?_, hb⟩
  · rw [itemK_fp]; exact blk_nodup _
  · rw [itemK_fp]; exact hk

theorem eqItems_k (v v' : Value) (zs : List ItemD) (w : World) (h : itemK.At w v zs) (h' : itemK.At w v' zs) (hl : zs.length ≤ 1048576) :
    Calls Try.prog 113 #[v, v'] w fun e w' => e = .returned (.bool true) ∧ Below w.heap.size w w' := by
  obtain ⟨a, cap, rfl⟩ := h.shape
  obtain ⟨a', cap', rfl⟩ := h'.shape
  exact eqItemS_true a a' cap cap' zs w (itemK_at h).2 (itemK_at h').2 (by omega)

theorem szUndos_k (v : Value) (zs : List UndoD) (c : Int) (w : World) (h : undoK.At w v zs) (hn : zs.length ≤ 9223372036854775807) (h0 : 0 ≤ c) (h1 : c ≤ 1048576) :
    Calls Try.prog 115 #[v, .int .i64 c] w fun e w' => ∃ r : Int, e = .returned (.int .i64 r) ∧ (¬ r < 0 → (zs.length : Int) + r = c) ∧ Below w.heap.size w w' := by
  obtain ⟨a, cap, rfl⟩ := h.shape
  refine (szUndoS_any a zs.length cap c w hn h0 (by omega)).mono ?_
  rintro e w' ⟨rfl, rfl⟩
  refine ⟨_, rfl, ?_, Below.refl _ _⟩
  split <;> omega

theorem toUndos_k (v : Value) (zs : List UndoD) (w : World) (h : undoK.At w v zs) (hl : zs.length ≤ 1048576) :
    Calls Try.prog 119 #[v] w fun e w' => ∃ v', e = .returned v' ∧ undoK.Own w' v' zs ∧ (undoK.fp v' zs).Nodup ∧ (∀ k ∈ undoK.fp v' zs, w.heap.size ≤ k) ∧ Below w.heap.size w w' := by
  obtain ⟨a, cap, rfl⟩ := h.shape
  refine (toUndoS_any a cap zs w (undoK_at h).2 hl).mono ?_
  rintro e w' ⟨g, c, rfl, ho, hb⟩
  obtain ⟨o, hk⟩ := own_zero ho
  refine ⟨_, rfl, ⟨o, fun _ _ => trivial⟩, ?_, ?_, hb⟩
  · rw [undoK_fp]; exact blk_nodup _
  · rw [undoK_fp]; exact hk

theorem eqUndos_k (v v' : Value) (zs : List UndoD) (w : World) (h : undoK.At w v zs) (h' : undoK.At w v' zs) (hl : zs.length ≤ 1048576) :
    Calls Try.prog 121 #[v, v'] w fun e w' => e = .returned (.bool true) ∧ Below w.heap.size w w' := by
  obtain ⟨a, cap, rfl⟩ := h.shape
  obtain ⟨a', cap', rfl⟩ := h'.shape
  exact eqUndoS_true a a' cap cap' zs w (undoK_at h).2 (undoK_at h').2 (by omega)

/-- A list of undos where it lies. -/
structure USQ where
  va : Value
  us : List UndoD
def ussK : Kind USQ where
  ty := 152
  size := 1
  cells p := [p.va]
  own w p := undoK.Own w p.va p.us
  rd w p := undoK.At w p.va p.us
  foot p := undoK.fp p.va p.us
  len _ := rfl
  own_rd h := h.at
  own_out h ho hd := h.out ho hd
  own_lt h := h.lt
  rd_below h hb := h.below hb
def USQ.e (p : USQ) : List UndoD := p.us
def USQ.n (p : USQ) : Nat := p.us.length
def USQ.wf (p : USQ) : Prop := p.us.length ≤ 9223372036854775807
theorem infoUndos9 : (Try.prog.info? 152).map (fun i => (i.zero, i.size, i.bytes)) = some (some (.slice none 0 0), 1, 24) := by kernel_rfl


end Go.Proofs.Ytkkdjgiencilbaa
