/- The kinds of elements: items, what undoes, lists of these; what the helpers of the laws do with them. No condition. -/
import Derived.Test.YtkklhbofeghnbaaDoorKL
import Derived.Test.YtkklhbofeghnbaaDoorKT
import Derived.Test.YtkklhbofeghnbaaDoorD3
import Derived.Test.YtkklhbofeghnbaaDoorD4
import Derived.Test.YtkklhbofeghnbaaDoorBlk5
namespace Go.Proofs.YtkklhbofeghnbaaDoor
open Go.RowKit
open Go.BigFrame
set_option linter.unusedVariables false
set_option linter.unusedSimpArgs false

def itemK : Kind ItemD where
  ty := 92
  size := 2
  cells := ItemD.cells
  own _ _ := True
  rd _ _ := True
  foot _ := []
  len _ := rfl
  own_rd _ := trivial
  own_out _ _ _ := trivial
  own_lt _ k hk := by simp at hk
  rd_below _ _ := trivial
theorem itemK_row (zs : List ItemD) : itemK.row zs = itemCells zs := rfl
theorem itemK_at {w : World} {a : Option Addr} {n cap : Nat} {zs : List ItemD} (h : itemK.At w (.slice a n cap) zs) : n = zs.length ∧ ItemRow w a zs := by
  obtain ⟨a', c, e, hl, _⟩ := h
  simp only [Value.slice.injEq] at e
  obtain ⟨rfl, rfl, _⟩ := e
  exact ⟨rfl, hl⟩
theorem itemK_mk {w : World} {a : Option Addr} {cap : Nat} {zs : List ItemD} (h : ItemRow w a zs) : itemK.At w (.slice a zs.length cap) zs := ⟨a, cap, rfl, h, fun _ _ => trivial⟩
theorem itemK_fp (v : Value) (zs : List ItemD) : itemK.fp v zs = blk v := by
  have : zs.flatMap itemK.foot = [] := by simp [show ∀ z, itemK.foot z = [] from fun _ => rfl]
  simp [Kind.fp, this]

def undoK : Kind UndoD where
  ty := 103
  size := 3
  cells := UndoD.cells
  own _ _ := True
  rd _ _ := True
  foot _ := []
  len _ := rfl
  own_rd _ := trivial
  own_out _ _ _ := trivial
  own_lt _ k hk := by simp at hk
  rd_below _ _ := trivial
theorem undoK_row (zs : List UndoD) : undoK.row zs = undoCells zs := rfl
theorem undoK_at {w : World} {a : Option Addr} {n cap : Nat} {zs : List UndoD} (h : undoK.At w (.slice a n cap) zs) : n = zs.length ∧ UndoRow w a zs := by
  obtain ⟨a', c, e, hl, _⟩ := h
  simp only [Value.slice.injEq] at e
  obtain ⟨rfl, rfl, _⟩ := e
  exact ⟨rfl, hl⟩
theorem undoK_mk {w : World} {a : Option Addr} {cap : Nat} {zs : List UndoD} (h : UndoRow w a zs) : undoK.At w (.slice a zs.length cap) zs := ⟨a, cap, rfl, h, fun _ _ => trivial⟩
theorem undoK_fp (v : Value) (zs : List UndoD) : undoK.fp v zs = blk v := by
  have : zs.flatMap undoK.foot = [] := by simp [show ∀ z, undoK.foot z = [] from fun _ => rfl]
  simp [Kind.fp, this]


theorem eqItems_k (v v' : Value) (zs : List ItemD) (w : World) (h : itemK.At w v zs) (h' : itemK.At w v' zs) (hl : zs.length ≤ 1048576) :
    Calls Tryd.prog 53 #[v, v'] w fun e w' => e = .returned (.bool true) ∧ Below w.heap.size w w' := by
  obtain ⟨a, cap, rfl⟩ := h.shape
  obtain ⟨a', cap', rfl⟩ := h'.shape
  exact eqItemS_true a a' cap cap' zs w (itemK_at h).2 (itemK_at h').2 (by omega)

def mkItems (c : Int) (zs : List ItemD) : List ItemD := itemMarks c zs.length
theorem mkItems_fp (c : Int) (v : Value) (zs : List ItemD) : itemK.fp v (mkItems c zs) = itemK.fp v zs := by rw [itemK_fp, itemK_fp]

theorem markItems_k (v : Value) (zs : List ItemD) (c : Int) (w : World) (h : itemK.Own w v zs) (hl : zs.length ≤ 1048576) (h0 : 0 ≤ c) (h1 : c ≤ 1099511627776) :
    Calls Tryd.prog 33 #[v, .int .i64 c] w fun e w' => e = .returned (.int .i64 (c + ((zs.length * 2 : Nat) : Int))) ∧ itemK.Own w' v (mkItems c zs) ∧ Out (itemK.fp v zs) w w' := by
  refine (markItemS_any 0 v zs.length _ c w h.1 (by omega) h0 h1).mono ?_
  rintro e w' ⟨rfl, ho, hg⟩
  refine ⟨rfl, ⟨?_, fun _ _ => trivial⟩, ?_⟩
  · have e : (mkItems c zs).length = zs.length := by simp [mkItems, itemMarks_length]
    rw [e]
    exact ho
  · rw [itemK_fp]; exact Out.of_grown hg


theorem heldItems_k (v : Value) (zs : List ItemD) (c : Int) (w : World) (h : itemK.At w v (mkItems c zs)) (hl : zs.length ≤ 1048576) (h0 : 0 ≤ c) (h1 : c ≤ 1099511627776) :
    Calls Tryd.prog 38 #[v, .int .i64 c] w fun e w' => e = .returned (.int .i64 (c + ((zs.length * 2 : Nat) : Int))) ∧ Below w.heap.size w w' := by
  obtain ⟨a, cap, rfl⟩ := h.shape
  have e : (mkItems c zs).length = zs.length := by simp [mkItems, itemMarks_length]
  have hA := (itemK_at h).2
  rw [e]
  refine (heldItemS_true a zs.length cap c w hA (by omega) h0 h1).mono ?_
  rintro e w' ⟨rfl, hw⟩
  exact ⟨rfl, by subst hw; exact Below.refl _ _⟩


theorem eqUndos_k (v v' : Value) (zs : List UndoD) (w : World) (h : undoK.At w v zs) (h' : undoK.At w v' zs) (hl : zs.length ≤ 1048576) :
    Calls Tryd.prog 57 #[v, v'] w fun e w' => e = .returned (.bool true) ∧ Below w.heap.size w w' := by
  obtain ⟨a, cap, rfl⟩ := h.shape
  obtain ⟨a', cap', rfl⟩ := h'.shape
  exact eqUndoS_true a a' cap cap' zs w (undoK_at h).2 (undoK_at h').2 (by omega)

def mkUndos (c : Int) (zs : List UndoD) : List UndoD := undoMarks c zs.length
theorem mkUndos_fp (c : Int) (v : Value) (zs : List UndoD) : undoK.fp v (mkUndos c zs) = undoK.fp v zs := by rw [undoK_fp, undoK_fp]

theorem markUndos_k (v : Value) (zs : List UndoD) (c : Int) (w : World) (h : undoK.Own w v zs) (hl : zs.length ≤ 1048576) (h0 : 0 ≤ c) (h1 : c ≤ 1099511627776) :
    Calls Tryd.prog 47 #[v, .int .i64 c] w fun e w' => e = .returned (.int .i64 (c + ((zs.length * 3 : Nat) : Int))) ∧ undoK.Own w' v (mkUndos c zs) ∧ Out (undoK.fp v zs) w w' := by
  refine (markUndoS_any 0 v zs.length _ c w h.1 (by omega) h0 h1).mono ?_
  rintro e w' ⟨rfl, ho, hg⟩
  refine ⟨rfl, ⟨?_, fun _ _ => trivial⟩, ?_⟩
  · have e : (mkUndos c zs).length = zs.length := by simp [mkUndos, undoMarks_length]
    rw [e]
    exact ho
  · rw [undoK_fp]; exact Out.of_grown hg


theorem heldUndos_k (v : Value) (zs : List UndoD) (c : Int) (w : World) (h : undoK.At w v (mkUndos c zs)) (hl : zs.length ≤ 1048576) (h0 : 0 ≤ c) (h1 : c ≤ 1099511627776) :
    Calls Tryd.prog 49 #[v, .int .i64 c] w fun e w' => e = .returned (.int .i64 (c + ((zs.length * 3 : Nat) : Int))) ∧ Below w.heap.size w w' := by
  obtain ⟨a, cap, rfl⟩ := h.shape
  have e : (mkUndos c zs).length = zs.length := by simp [mkUndos, undoMarks_length]
  have hA := (undoK_at h).2
  rw [e]
  refine (heldUndoS_true a zs.length cap c w hA (by omega) h0 h1).mono ?_
  rintro e w' ⟨rfl, hw⟩
  exact ⟨rfl, by subst hw; exact Below.refl _ _⟩

/-- A list of undos where it lies. -/
structure USQ where
  va : Value
  us : List UndoD
def ussK : Kind USQ where
  ty := 94
  size := 1
  cells p := [p.va]
  own w p := undoK.Own w p.va p.us
  rd w p := undoK.At w p.va p.us
  foot p := undoK.fp p.va p.us
  len _ := rfl
  own_rd h := h.at
  own_out h ho hd := h.out ho hd
  own_lt h := h.lt
  rd_below h hb := h.below hb
def USQ.e (p : USQ) : List UndoD := p.us
def USQ.n (p : USQ) : Nat := p.us.length
def USQ.wf (p : USQ) : Prop := p.us.length ≤ 9223372036854775807
theorem infoUndos9 : (Tryd.prog.info? 94).map (fun i => (i.zero, i.size, i.bytes)) = some (some (.slice none 0 0), 1, 24) := by kernel_rfl


end Go.Proofs.YtkklhbofeghnbaaDoor
