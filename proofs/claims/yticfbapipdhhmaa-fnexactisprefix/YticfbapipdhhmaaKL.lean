/- What the helpers of the laws do with lists of numbers and of acts, in the form of kinds. No condition. -/
import Derived.Test.YticfbapipdhhmaaK2
import Derived.Test.YticfbapipdhhmaaD2t
namespace Go.Proofs.Yticfbapipdhhmaa
open Go.RowKit
open Go.BigFrame
set_option linter.unusedVariables false
set_option linter.unusedSimpArgs false

theorem intK_row (zs : List Int) : intK.row zs = zs.map (Value.int .i64) := by
  induction zs with
  | nil => rfl
  | cons z r ih =>
    simp only [Kind.row, List.flatMap_cons, List.map_cons] at ih ⊢
    rw [ih]
    rfl
theorem actK_row (zs : List ActD) : actK.row zs = actCells zs := rfl
theorem row_of_lies {w : World} {a : Option Addr} {zs : List Int} (h : Lies w a (zs.map (Value.int .i64))) : Row .i64 w a zs := by
  intro i hi
  rcases h with h | ⟨b, off, ha, hlt, hc⟩
  · have := congrArg List.length h
    rw [List.length_map, List.length_nil] at this
    omega
  · exact ⟨b, off, ha, hlt, hc i _ (by simp [List.getD, hi])⟩
theorem lies_of_row {w : World} {a : Option Addr} {zs : List Int} (h : Row .i64 w a zs) : Lies w a (zs.map (Value.int .i64)) := by
  by_cases h0 : zs = []
  · left; simp [h0]
  · obtain ⟨b, off, ha, hlt, _⟩ := h 0 (List.length_pos_iff.2 h0)
    right
    refine ⟨b, off, ha, hlt, fun i x hx => ?_⟩
    have hi : i < zs.length := by
      have := (List.getElem?_eq_some_iff.1 hx).1
      simpa using this
    obtain ⟨b', off', ha', _, hc⟩ := h i hi
    rw [ha] at ha'
    simp only [Option.some.injEq, Addr.mk.injEq, and_true] at ha'
    obtain ⟨rfl, rfl⟩ := ha'
    rw [hc]
    simp [hi] at hx
    rw [← hx]
    simp [List.getD, hi]
theorem intK_at {w : World} {a : Option Addr} {n cap : Nat} {zs : List Int} (h : intK.At w (.slice a n cap) zs) : n = zs.length ∧ Row .i64 w a zs := by
  obtain ⟨a', c, e, hl, _⟩ := h
  simp only [Value.slice.injEq] at e
  obtain ⟨rfl, rfl, _⟩ := e
  rw [intK_row] at hl
  exact ⟨rfl, row_of_lies hl⟩
theorem intK_mk {w : World} {a : Option Addr} {cap : Nat} {zs : List Int} (h : Row .i64 w a zs) : intK.At w (.slice a zs.length cap) zs := ⟨a, cap, rfl, by rw [intK_row]; exact lies_of_row h, fun _ _ => trivial⟩
theorem actK_at {w : World} {a : Option Addr} {n cap : Nat} {zs : List ActD} (h : actK.At w (.slice a n cap) zs) : n = zs.length ∧ ActRow w a zs := by
  obtain ⟨a', c, e, hl, _⟩ := h
  simp only [Value.slice.injEq] at e
  obtain ⟨rfl, rfl, _⟩ := e
  exact ⟨rfl, hl⟩
theorem actK_mk {w : World} {a : Option Addr} {cap : Nat} {zs : List ActD} (h : ActRow w a zs) : actK.At w (.slice a zs.length cap) zs := ⟨a, cap, rfl, h, fun _ _ => trivial⟩
theorem intK_fp (v : Value) (zs : List Int) : intK.fp v zs = blk v := by
  have : zs.flatMap intK.foot = [] := by rw [List.flatMap_eq_nil_iff]; intro _ _; rfl
  simp [Kind.fp, this]
theorem actK_fp (v : Value) (zs : List ActD) : actK.fp v zs = blk v := by
  have : zs.flatMap actK.foot = [] := by rw [List.flatMap_eq_nil_iff]; intro _ _; rfl
  simp [Kind.fp, this]
theorem blk_nodup (v : Value) : (blk v).Nodup := by unfold blk; cases v.ownBlock <;> simp
theorem own_zero {w : World} {base e s n : Nat} {v : Value} {xs : List Value} (h : w.ownsRow base e s v n xs) : w.ownsRow 0 e s v n xs ∧ ∀ k ∈ blk v, base ≤ k := ⟨own_base h (Nat.zero_le _), fun k hk => (h.lt k (by simpa [blk] using hk)).1⟩

theorem szActs_k (v : Value) (zs : List ActD) (c : Int) (w : World) (h : actK.At w v zs) (hn : zs.length ≤ 9223372036854775807) (h0 : 0 ≤ c) (h1 : c ≤ 1048576) :
    Calls Try.prog 15 #[v, .int .i64 c] w fun e w' => ∃ r : Int, e = .returned (.int .i64 r) ∧ (¬ r < 0 → (zs.length : Int) + r = c) ∧ Below w.heap.size w w' := by
  obtain ⟨a, cap, rfl⟩ := h.shape
  refine (szActS_any a zs.length cap c w hn h0 (by omega)).mono ?_
  rintro e w' ⟨rfl, rfl⟩
  refine ⟨_, rfl, ?_, Below.refl _ _⟩
  split <;> omega

theorem toActs_k (v : Value) (zs : List ActD) (w : World) (h : actK.At w v zs) (hl : zs.length ≤ 1048576) :
    Calls Try.prog 17 #[v] w fun e w' => ∃ v', e = .returned v' ∧ actK.Own w' v' zs ∧ (actK.fp v' zs).Nodup ∧ (∀ k ∈ actK.fp v' zs, w.heap.size ≤ k) ∧ Below w.heap.size w w' := by
  obtain ⟨a, cap, rfl⟩ := h.shape
  refine (toActS_any a cap zs w (actK_at h).2 hl).mono ?_
  rintro e w' ⟨g, c, rfl, ho, hb⟩
  obtain ⟨o, hk⟩ := own_zero ho
  refine ⟨_, rfl, ⟨o, fun _ _ => trivial⟩, ?_, ?_, hb⟩
  · rw [actK_fp]; exact blk_nodup _
  · rw [actK_fp]; exact hk

theorem eqActs_k (v v' : Value) (zs : List ActD) (w : World) (h : actK.At w v zs) (h' : actK.At w v' zs) (hl : zs.length ≤ 1048576) :
    Calls Try.prog 20 #[v, v'] w fun e w' => e = .returned (.bool true) ∧ Below w.heap.size w w' := by
  obtain ⟨a, cap, rfl⟩ := h.shape
  obtain ⟨a', cap', rfl⟩ := h'.shape
  exact eqActS_true a a' cap cap' zs w (actK_at h).2 (actK_at h').2 (by omega)

def mkActs (c : Int) (zs : List ActD) : List ActD := actMarks c zs.length
theorem mkActs_fp (c : Int) (v : Value) (zs : List ActD) : actK.fp v (mkActs c zs) = actK.fp v zs := by rw [actK_fp, actK_fp]
def mkInts (c : Int) (zs : List Int) : List Int := marks .i64 c zs.length
theorem mkInts_fp (c : Int) (v : Value) (zs : List Int) : intK.fp v (mkInts c zs) = intK.fp v zs := by rw [intK_fp, intK_fp]
end Go.Proofs.Yticfbapipdhhmaa
