/- Lists of lists of undos as plain data; what the helpers of the laws do with them: count, copy, compare, mark. -/
import Derived.Test.YtjaoggkpnjkkpabD4f
import Derived.Test.YtjaoggkpnjkkpabD2m
namespace Go.Proofs.Ytjaoggkpnjkkpab
open Go.RowKit
open Go.BigFrame
set_option linter.unusedVariables false
set_option linter.unusedSimpArgs false

/-- A list of undos, and where it lies. -/
structure USP where
  d : List UndoD
  a : Option Addr
  cap : Nat
def USP.sl (p : USP) : Value := .slice p.a p.d.length p.cap
def usCells (ps : List USP) : List Value := ps.map USP.sl
def uspNo : USP := ⟨[], none, 0⟩

theorem usCells_length (ps : List USP) : (usCells ps).length = ps.length := by simp [usCells]
theorem usCells_get (ps : List USP) (i : Nat) (h : i < ps.length) : (usCells ps)[i]? = some (ps.getD i uspNo).sl := by simp [usCells, List.getD, h]

/-- v is a slice that reads as these lists. -/
def UssAt (w : World) (v : Value) (ds : List (List UndoD)) : Prop :=
  ∃ a cap ps, v = .slice a ds.length cap ∧ ps.map USP.d = ds ∧ Lies w a (usCells ps) ∧ ∀ p ∈ ps, UndoRow w p.a p.d

theorem UssAt.below {w w' : World} {v : Value} {ds : List (List UndoD)} (h : UssAt w v ds) (hb : Below w.heap.size w w') : UssAt w' v ds := by
  obtain ⟨a, cap, ps, e, hd, hL, hA⟩ := h
  exact ⟨a, cap, ps, e, hd, hL.below hb, fun p hp => (hA p hp).below hb⟩

theorem UssAt.shape {w : World} {v : Value} {ds : List (List UndoD)} (h : UssAt w v ds) : ∃ a cap, v = .slice a ds.length cap := by
  obtain ⟨a, cap, _, e, _⟩ := h
  exact ⟨a, cap, e⟩

theorem UssAt.at {w : World} {a : Option Addr} {n cap : Nat} {ds : List (List UndoD)} (h : UssAt w (.slice a n cap) ds) (i : Nat) (hi : i < ds.length) :
    ∃ b off aa cc, a = some ⟨b, off, none⟩ ∧ b < w.heap.size ∧ w.cell? ⟨b, off + i, none⟩ = some (.slice aa (ds.getD i []).length cc) ∧ UndoRow w aa (ds.getD i []) := by
  obtain ⟨a', cap', ps, e, hd, hL, hA⟩ := h
  simp only [Value.slice.injEq] at e
  obtain ⟨rfl, _, _⟩ := e
  have hl : ps.length = ds.length := by rw [← hd]; simp
  have h1 := usCells_get ps i (by omega)
  have hp : (ps.getD i uspNo).d = ds.getD i [] := by
    rw [← hd]
    simp [List.getD, show i < ps.length by omega]
  have hm : ps.getD i uspNo ∈ ps := by simp [List.getD, show i < ps.length by omega]
  rcases hL with h | ⟨b, off, ha, hlt, hc⟩
  · have := usCells_length ps
    rw [h] at this
    simp at this
    omega
  · have hAA := hA _ hm
    rw [hp] at hAA
    refine ⟨b, off, (ps.getD i uspNo).a, (ps.getD i uspNo).cap, ha, hlt, ?_, hAA⟩
    rw [hc _ _ h1]
    simp only [USP.sl, hp]

/-- v is a slice of lists, all of whose memory lies in blocks from lo up to hi, and is its own. -/
def OwnUss (lo hi : Nat) (w : World) (v : Value) (ds : List (List UndoD)) : Prop :=
  ∃ g cap ps, v = .slice (some ⟨g, 0, none⟩) ds.length cap ∧ g < hi ∧ ps.map USP.d = ds ∧ w.ownsRow lo 25 1 (.slice (some ⟨g, 0, none⟩) ds.length cap) ds.length (usCells ps) ∧
    ∀ p ∈ ps, w.ownsRow lo 29 3 p.sl p.d.length (undoCells p.d) ∧ ∀ k, p.sl.ownBlock = some k → k < hi ∧ k ≠ g

theorem OwnUss.row {lo hi : Nat} {w : World} {v : Value} {ds : List (List UndoD)} (h : OwnUss lo hi w v ds) : UssAt w v ds := by
  obtain ⟨g, cap, ps, e, _, hd, ho, hp⟩ := h
  exact ⟨_, cap, ps, e, hd, Lies.own ho, fun p hm => Lies.own (hp p hm).1⟩

theorem OwnUss.below {lo hi : Nat} {w w' : World} {v : Value} {ds : List (List UndoD)} (h : OwnUss lo hi w v ds) (hb : Below w.heap.size w w') : OwnUss lo hi w' v ds := by
  obtain ⟨g, cap, ps, e, hg, hd, ho, hp⟩ := h
  exact ⟨g, cap, ps, e, hg, hd, own_below ho hb, fun p hm => ⟨own_below (hp p hm).1 hb, (hp p hm).2⟩⟩

theorem OwnUss.only {lo hi lo' hi' : Nat} {w w' : World} {v : Value} {ds : List (List UndoD)} (h : OwnUss lo hi w v ds) (ho : Only lo' hi' w w') (hh : hi' ≤ lo) : OwnUss lo hi w' v ds := by
  obtain ⟨g, cap, ps, e, hg, hd, o, hp⟩ := h
  exact ⟨g, cap, ps, e, hg, hd, own_only o ho hh, fun p hm => ⟨own_only (hp p hm).1 ho hh, (hp p hm).2⟩⟩

def sumU (ds : List (List UndoD)) : Nat := (ds.map List.length).sum
theorem sumU_take_succ (ds : List (List UndoD)) (k : Nat) (h : k < ds.length) : sumU (ds.take (k + 1)) = sumU (ds.take k) + (ds.getD k []).length := by
  have e : ds.getD k [] = ds[k] := by simp [List.getD, h]
  rw [List.take_succ_eq_append_getElem h, e]
  simp only [sumU, List.map_append, List.map_cons, List.map_nil, List.sum_append, List.sum_cons, List.sum_nil, Nat.add_zero]
theorem sumU_take_le (ds : List (List UndoD)) (k : Nat) : sumU (ds.take k) ≤ sumU ds := by
  have e : sumU ds = sumU (ds.take k) + sumU (ds.drop k) := by
    conv => lhs; rw [← List.take_append_drop k ds]
    simp only [sumU, List.map_append, List.sum_append]
  omega
theorem mem_le_sumU {ds : List (List UndoD)} {d : List UndoD} (h : d ∈ ds) : d.length ≤ sumU ds := by
  induction ds with
  | nil => simp at h
  | cons x r ih =>
    simp only [sumU, List.map_cons, List.sum_cons] at ih ⊢
    rcases List.mem_cons.1 h with rfl | h
    · omega
    · have := ih h; omega

theorem infoUndos : (Try.prog.info? 25).map (fun i => (i.zero, i.size, i.bytes)) = some (some (.slice none 0 0), 1, 24) := by kernel_rfl

/-- One cell of a row is written over. -/
theorem lay1 {w : World} {base e g cap n k : Nat} {A ys : List Value} {v0 : Value} (ho : w.ownsRow base e 1 (.slice (some ⟨g, 0, none⟩) n cap) n (A ++ ys.drop k))
    (hl : ys.length = n) (hA : A.length = k) (hk : k < n) :
    (w.setCell ⟨g, k, none⟩ v0).ownsRow base e 1 (.slice (some ⟨g, 0, none⟩) n cap) n ((A ++ [v0]) ++ ys.drop (k + 1)) ∧
    w.frozen? ⟨g, k, none⟩ = false ∧ (∃ u, w.cell? ⟨g, k, none⟩ = some u) := by
  have s := (ho.stored k v0).1
  have hd : ys.drop k = ys[k] :: ys.drop (k + 1) := List.drop_eq_getElem_cons (by omega)
  have e : (A ++ ys.drop k).set k v0 = (A ++ [v0]) ++ ys.drop (k + 1) := by
    subst hA
    rw [hd, List.set_append_right _ _ (Nat.le_refl _), Nat.sub_self, List.set_cons_zero, List.append_assoc, List.singleton_append]
  rw [e] at s
  refine ⟨s, ho.frozenAt _, ?_⟩
  rw [ho.cellAt k (by omega)]
  exact ⟨_, List.getElem?_eq_getElem (by rw [ho.1]; omega)⟩

end Go.Proofs.Ytjaoggkpnjkkpab
