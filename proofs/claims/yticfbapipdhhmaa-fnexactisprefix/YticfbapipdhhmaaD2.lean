/- Acts and transactions as plain data, and when memory reads as such a list. No condition. -/
import Derived.Test.YticfbapipdhhmaaProg
import Derived.Test.YticfbapipdhhmaaBase
namespace Go.Proofs.Yticfbapipdhhmaa
open Go.RowKit
set_option linter.unusedVariables false
set_option linter.unusedSimpArgs false

/-- The cells from 'a' on hold xs. -/
def Lies (w : World) (a : Option Addr) (xs : List Value) : Prop :=
  xs = [] ∨ ∃ b off, a = some ⟨b, off, none⟩ ∧ b < w.heap.size ∧ ∀ i x, xs[i]? = some x → w.cell? ⟨b, off + i, none⟩ = some x

theorem Lies.below {w w' : World} {a : Option Addr} {xs : List Value} (h : Lies w a xs) (hb : Below w.heap.size w w') : Lies w' a xs := by
  rcases h with h | ⟨b, off, ha, hlt, hc⟩
  · exact Or.inl h
  · exact Or.inr ⟨b, off, ha, Nat.lt_of_lt_of_le hlt hb.size, fun i x hx => by rw [hb.cell (p := ⟨b, off + i, none⟩) hlt]; exact hc i x hx⟩

theorem Lies.own {w : World} {base e size n c : Nat} {a : Option Addr} {xs : List Value} (h : w.ownsRow base e size (.slice a n c) n xs) : Lies w a xs := by
  rcases h.2 with ⟨he, hn⟩ | ⟨g, cap, cur, he, hb, hg, r⟩
  · left
    have := h.1
    rw [hn, Nat.zero_mul] at this
    exact List.eq_nil_of_length_eq_zero this
  · right
    simp only [Value.slice.injEq, true_and] at he
    obtain ⟨rfl, rfl⟩ := he
    refine ⟨g, 0, rfl, (Array.getElem?_eq_some_iff.1 hg).1, fun i x hx => ?_⟩
    have hi : i < n * size := by rw [← h.1]; exact (List.getElem?_eq_some_iff.1 hx).1
    rw [Nat.zero_add, h.cellAt i hi, hx]

/-- A list whose head is written over, place by place. -/
def layV (zs xs : List Value) (k : Nat) : List Value := zs.take k ++ xs.drop k

theorem layV_zero (zs xs : List Value) : layV zs xs 0 = xs := by simp [layV]
theorem layV_all (zs xs : List Value) (k : Nat) (h : xs.length = zs.length) (hk : zs.length = k) : layV zs xs k = zs := by
  have : xs.drop k = [] := List.drop_of_length_le (by omega)
  simp [layV, this, ← hk]
  omega
theorem layV_length (zs xs : List Value) (k : Nat) (h : xs.length = zs.length) (hk : k ≤ zs.length) : (layV zs xs k).length = zs.length := by simp [layV]; omega
theorem layV_step (zs xs : List Value) (k : Nat) (v : Value) (h : xs.length = zs.length) (hv : zs[k]? = some v) : (layV zs xs k).set k v = layV zs xs (k + 1) := by
  have hk : k < zs.length := (List.getElem?_eq_some_iff.1 hv).1
  apply List.ext_getElem?
  intro j
  simp only [layV, List.getElem?_set, List.getElem?_append, List.length_append, List.length_take, List.length_drop, List.getElem?_drop, List.getElem?_take]
  by_cases hj : j = k
  · subst hj
    simp [Nat.min_eq_left (Nat.le_of_lt hk), Nat.min_eq_left (show j + 1 ≤ zs.length by omega), hv]
    omega
  · rw [if_neg (by omega), Nat.min_eq_left (by omega), Nat.min_eq_left (by omega)]
    by_cases hlt : j < k
    · simp [hlt, show j < k + 1 by omega]
    · rw [if_neg hlt, if_neg (by omega)]
      congr 1; omega

structure ActD where
  kind : Int
  key : Int
  val : Int
def actNo : ActD := ⟨0, 0, 0⟩
def ActD.cells (x : ActD) : List Value := [.int .i64 x.kind, .int .i64 x.key, .int .i64 x.val]
def actCells (xs : List ActD) : List Value := xs.flatMap ActD.cells
def ActRow (w : World) (a : Option Addr) (xs : List ActD) : Prop := Lies w a (actCells xs)

theorem actCells_length (xs : List ActD) : (actCells xs).length = xs.length * 3 := by
  induction xs with
  | nil => rfl
  | cons x xs ih => simp only [actCells, List.flatMap_cons, List.length_append, List.length_cons] at ih ⊢; rw [ih]; simp [ActD.cells]; omega

theorem actCells_get (xs : List ActD) : ∀ (i : Nat), i < xs.length → (actCells xs)[i * 3]? = some (.int .i64 (xs.getD i actNo).kind) ∧ (actCells xs)[i * 3 + 1]? = some (.int .i64 (xs.getD i actNo).key) ∧ (actCells xs)[i * 3 + 2]? = some (.int .i64 (xs.getD i actNo).val) := by
  induction xs with
  | nil => intro i h; simp at h
  | cons x xs ih =>
    intro i h
    cases i with
    | zero => simp [actCells, ActD.cells]
    | succ i =>
      have e : actCells (x :: xs) = x.cells ++ actCells xs := rfl
      have hl : x.cells.length = 3 := rfl
      obtain ⟨h1, h2, h3⟩ := ih i (by simpa using h)
      rw [e, List.getElem?_append_right (by omega), List.getElem?_append_right (by omega), List.getElem?_append_right (by omega), hl, show (i + 1) * 3 - 3 = i * 3 by omega, show (i + 1) * 3 + 1 - 3 = i * 3 + 1 by omega, show (i + 1) * 3 + 2 - 3 = i * 3 + 2 by omega]
      simpa [List.getD] using ⟨h1, h2, h3⟩

theorem ActRow.below {w w' : World} {a : Option Addr} {xs : List ActD} (h : ActRow w a xs) (hb : Below w.heap.size w w') : ActRow w' a xs := Lies.below h hb

theorem ActRow.at {w : World} {a : Option Addr} {xs : List ActD} (h : ActRow w a xs) (i : Nat) (hi : i < xs.length) :
    ∃ b off, a = some ⟨b, off, none⟩ ∧ b < w.heap.size ∧ w.cell? ⟨b, off + i * 3, none⟩ = some (.int .i64 (xs.getD i actNo).kind) ∧ w.cell? ⟨b, off + i * 3 + 1, none⟩ = some (.int .i64 (xs.getD i actNo).key) ∧ w.cell? ⟨b, off + i * 3 + 2, none⟩ = some (.int .i64 (xs.getD i actNo).val) := by
  obtain ⟨h1, h2, h3⟩ := actCells_get xs i hi
  rcases h with h | ⟨b, off, ha, hlt, hc⟩
  · have := actCells_length xs
    rw [h] at this
    simp at this
    omega
  · exact ⟨b, off, ha, hlt, hc _ _ h1, by rw [Nat.add_assoc]; exact hc _ _ h2, by rw [Nat.add_assoc]; exact hc _ _ h3⟩

theorem infoAct : (Try.prog.info? 42).map (fun i => (i.zero, i.size, i.bytes)) = some (some (.agg #[.int .i64 0, .int .i64 0, .int .i64 0]), 3, 24) := by kernel_rfl

set_option maxHeartbeats 1000000 in
theorem toAct_any (k y v : Int) (w : World) :
    Calls Try.prog 22 #[.agg #[.int .i64 k, .int .i64 y, .int .i64 v]] w fun e w' => e = .returned (.agg #[.int .i64 k, .int .i64 y, .int .i64 v]) ∧ Below w.heap.size w w' := by
  go_enter Try.func22, Try.ntmps22
  go_wp2
  exact bodyPost_ret (v := .agg #[.int .i64 k, .int .i64 y, .int .i64 v]) (by simp [results, Try.results22, go_sem]) rfl ⟨rfl, by go_grown⟩

/-- Three cells of a row of threes are written over. -/
theorem lay3 {w : World} {base e g cap n k : Nat} {zs ys : List Value} {v0 v1 v2 : Value} (ho : w.ownsRow base e 3 (.slice (some ⟨g, 0, none⟩) n cap) n (layV zs ys (k * 3)))
    (hl : ys.length = zs.length) (hz : zs.length = n * 3) (hk : k < n) (g0 : zs[k * 3]? = some v0) (g1 : zs[k * 3 + 1]? = some v1) (g2 : zs[k * 3 + 2]? = some v2) :
    (((w.setCell ⟨g, k * 3, none⟩ v0).setCell ⟨g, k * 3 + 1, none⟩ v1).setCell ⟨g, k * 3 + 2, none⟩ v2).ownsRow base e 3 (.slice (some ⟨g, 0, none⟩) n cap) n (layV zs ys ((k + 1) * 3)) ∧
    (w.frozen? ⟨g, k * 3, none⟩ = false ∧ w.frozen? ⟨g, k * 3 + 1, none⟩ = false ∧ w.frozen? ⟨g, k * 3 + 2, none⟩ = false) ∧
    ((∃ u, w.cell? ⟨g, k * 3, none⟩ = some u) ∧ (∃ u, w.cell? ⟨g, k * 3 + 1, none⟩ = some u) ∧ (∃ u, w.cell? ⟨g, k * 3 + 2, none⟩ = some u)) ∧
    (∀ B a, Below B a w → B ≤ g → Below B a (((w.setCell ⟨g, k * 3, none⟩ v0).setCell ⟨g, k * 3 + 1, none⟩ v1).setCell ⟨g, k * 3 + 2, none⟩ v2)) := by
  have hc : ∀ j, j < n * 3 → ∃ u, w.cell? ⟨g, j, none⟩ = some u := fun j hj => by
    rw [ho.cellAt j hj]
    exact ⟨_, List.getElem?_eq_getElem (by rw [ho.1]; exact hj)⟩
  have s0 := (ho.stored (k * 3) v0).1
  rw [layV_step _ _ _ _ hl g0] at s0
  have s1 := (s0.stored (k * 3 + 1) v1).1
  rw [layV_step _ _ _ _ hl g1] at s1
  have s2 := (s1.stored (k * 3 + 2) v2).1
  rw [layV_step _ _ _ _ hl g2, show k * 3 + 2 + 1 = (k + 1) * 3 by omega] at s2
  exact ⟨s2, ⟨ho.frozenAt _, ho.frozenAt _, ho.frozenAt _⟩, ⟨hc _ (by omega), hc _ (by omega), hc _ (by omega)⟩, fun B a h hB => ((h.setCell hB _).setCell hB _).setCell hB _⟩

set_option maxHeartbeats 1000000 in
theorem toActS_any (a : Option Addr) (cap : Nat) (zs : List ActD) (w : World) (h : ActRow w a zs) (hl : zs.length ≤ 1048576) :
    Calls Try.prog 17 #[.slice a zs.length cap] w fun e w' => ∃ g c, e = .returned (.slice (some ⟨g, 0, none⟩) zs.length c) ∧
      w'.ownsRow w.heap.size 42 3 (.slice (some ⟨g, 0, none⟩) zs.length c) zs.length (actCells zs) ∧ Below w.heap.size w w' := by
  obtain ⟨i0, hi, hz0, hz1, hz2⟩ := info_parts infoAct
  have hbytes : i0.bytes * zs.length ≤ 281474976710656 := by rw [hz2]; omega
  have hmax : zs.length ≤ maxLen := by unfold maxLen; omega
  have hcl := actCells_length zs
  go_enter Try.func17, Try.ntmps17
  go_wp2_with (at_make; refine wpList_make_full _ rfl _ _ 32 rfl w.heap.size 42 i0 (.agg #[.int .i64 0, .int .i64 0, .int .i64 0]) 3 Try.underlying32 hi hz0 hz1 _ _ _ _ zs.length rfl rfl rfl rfl hbytes hmax (Nat.le_refl _) ?_)
  intro w1 hown hgrow
  have hlen0 : (madeCells #[Value.int .i64 0, .int .i64 0, .int .i64 0] (zs.length * 3)).toList.length = (actCells zs).length := by simp [size_madeCells, hcl]
  have hb1 : Below w.heap.size w w1 := (Below.refl _ _).grown hgrow (Nat.le_refl _) (by simp)
  generalize (madeCells #[Value.int .i64 0, .int .i64 0, .int .i64 0] (zs.length * 3)).toList = ys at hown hlen0
  rw [← layV_zero (actCells zs) ys] at hown
  go_wp2
  go_loopw [4] (fun i wr => ∃ k : Nat, k ≤ zs.length ∧ i = .int .i64 k ∧ wr.ownsRow w.heap.size 42 3 (.slice (some ⟨w.heap.size, 0, none⟩) zs.length zs.length) zs.length (layV (actCells zs) ys (k * 3)) ∧ Below w.heap.size w wr) (fun i _ => zs.length - (intOf i).toNat)
  case atStart => exact ⟨0, Nat.zero_le _, rfl, by simpa using hown, hb1⟩
  case round =>
    obtain ⟨k, hk, rfl, ho, hb⟩ := hrel
    by_cases hlt : k < zs.length
    · obtain ⟨b, off, rfl, hbs, hc0, hc1, hc2⟩ := (h.below hb).at k hlt
      obtain ⟨g0, g1, g2⟩ := actCells_get zs k hlt
      generalize zs.getD k actNo = z at hc0 hc1 hc2 g0 g1 g2
      go_wp2_with fail
      refine (toAct_any _ _ _ _).mono ?_
      rintro e w2 ⟨rfl, hb2⟩
      replace ho := own_below ho hb2
      replace hb := hb.trans (hb2.mono hb.size)
      clear hc0 hc1 hc2 hb2
      obtain ⟨hst, hfr, hce, hbel⟩ := lay3 ho hlen0 hcl hlt g0 g1 g2
      obtain ⟨f0, f1, f2⟩ := hfr
      obtain ⟨⟨u0, e0⟩, ⟨u1, e1⟩, ⟨u2, e2⟩⟩ := hce
      have R : Hid (_ ∧ _) := ⟨hst, hbel _ _ hb (Nat.le_refl _)⟩
      clear hst hbel g0 g1 g2 ho
      go_wp2
      go_roundw
      case rel => exact ⟨k + 1, by omega, by go_num, R.out.1, R.out.2⟩
      case measure => simp [intOf]; omega
    · go_wp2
      go_ret
      have hkl : k = zs.length := by omega
      subst hkl
      rw [layV_all _ _ _ hlen0 hcl] at ho
      exact ⟨_, _, rfl, ho, hb⟩

end Go.Proofs.Yticfbapipdhhmaa
