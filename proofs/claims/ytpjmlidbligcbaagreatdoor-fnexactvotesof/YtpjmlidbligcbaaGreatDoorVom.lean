/- Texts that stand together: data, memory, helpers. No condition. -/
import Derived.Test.YtpjmlidbligcbaaGreatDoorGB
import Derived.Test.YtpjmlidbligcbaaGreatDoorGE
import Derived.Test.YtpjmlidbligcbaaGreatDoorV10
namespace Go.Proofs.YtpjmlidbligcbaaGreatDoor
open Go.RowKit
open Go.BigFrame
set_option linter.unusedVariables false
set_option maxRecDepth 100000
set_option linter.unusedSimpArgs false

structure ItemD where
  key : Int
  val : Int
deriving DecidableEq
def itemNo : ItemD := ⟨0, 0⟩
def ItemD.cells (x : ItemD) : List Value := [.int .i64 x.key, .int .i64 x.val]
def itemCells (xs : List ItemD) : List Value := xs.flatMap ItemD.cells
def ItemRow (w : World) (a : Option Addr) (xs : List ItemD) : Prop := Lies w a (itemCells xs)

theorem itemCells_length (xs : List ItemD) : (itemCells xs).length = xs.length * 2 := by
  induction xs with
  | nil => rfl
  | cons x xs ih => simp only [itemCells, List.flatMap_cons, List.length_append, List.length_cons] at ih ⊢; rw [ih]; simp [ItemD.cells]; omega

theorem itemCells_append (xs ys : List ItemD) : itemCells (xs ++ ys) = itemCells xs ++ itemCells ys := by simp [itemCells]

theorem itemCells_one (x : ItemD) : itemCells [x] = x.cells := by simp [itemCells]

theorem itemCells_get (xs : List ItemD) : ∀ (i : Nat), i < xs.length → (itemCells xs)[i * 2]? = some (.int .i64 (xs.getD i itemNo).key) ∧ (itemCells xs)[i * 2 + 1]? = some (.int .i64 (xs.getD i itemNo).val) := by
  induction xs with
  | nil => intro i h; simp at h
  | cons x xs ih =>
    intro i h
    cases i with
    | zero => simp [itemCells, ItemD.cells]
    | succ i =>
      have e : itemCells (x :: xs) = x.cells ++ itemCells xs := rfl
      have hl : x.cells.length = 2 := rfl
      obtain ⟨h1, h2⟩ := ih i (by simpa using h)
      rw [e, List.getElem?_append_right (by omega), List.getElem?_append_right (by omega), hl, show (i + 1) * 2 - 2 = i * 2 by omega, show (i + 1) * 2 + 1 - 2 = i * 2 + 1 by omega]
      simpa [List.getD] using ⟨h1, h2⟩

theorem ItemRow.below {w w' : World} {a : Option Addr} {xs : List ItemD} (h : ItemRow w a xs) (hb : Below w.heap.size w w') : ItemRow w' a xs := Lies.below h hb

theorem ItemRow.at {w : World} {a : Option Addr} {xs : List ItemD} (h : ItemRow w a xs) (i : Nat) (hi : i < xs.length) :
    ∃ b off, a = some ⟨b, off, none⟩ ∧ b < w.heap.size ∧ w.cell? ⟨b, off + i * 2, none⟩ = some (.int .i64 (xs.getD i itemNo).key) ∧ w.cell? ⟨b, off + i * 2 + 1, none⟩ = some (.int .i64 (xs.getD i itemNo).val) := by
  obtain ⟨h1, h2⟩ := itemCells_get xs i hi
  rcases h with h | ⟨b, off, ha, hlt, hc⟩
  · have := itemCells_length xs
    rw [h] at this
    simp at this
    omega
  · exact ⟨b, off, ha, hlt, hc _ _ h1, by rw [Nat.add_assoc]; exact hc _ _ h2⟩

/-- The cells of one element are written over. -/
theorem layItem {w : World} {base e g cap n k : Nat} {zs ys : List Value} {v0 v1 : Value} (ho : w.ownsRow base e 2 (.slice (some ⟨g, 0, none⟩) n cap) n (layV zs ys (k * 2)))
    (hl : ys.length = zs.length) (hz : zs.length = n * 2) (hk : k < n) (g0 : zs[k * 2]? = some v0) (g1 : zs[k * 2 + 1]? = some v1) :
    ((w.setCell ⟨g, k * 2, none⟩ v0).setCell ⟨g, k * 2 + 1, none⟩ v1).ownsRow base e 2 (.slice (some ⟨g, 0, none⟩) n cap) n (layV zs ys ((k + 1) * 2)) ∧
    (w.frozen? ⟨g, k * 2, none⟩ = false ∧ w.frozen? ⟨g, k * 2 + 1, none⟩ = false) ∧
    ((∃ u, w.cell? ⟨g, k * 2, none⟩ = some u) ∧ (∃ u, w.cell? ⟨g, k * 2 + 1, none⟩ = some u)) ∧
    (∀ B a, Below B a w → B ≤ g → Below B a ((w.setCell ⟨g, k * 2, none⟩ v0).setCell ⟨g, k * 2 + 1, none⟩ v1)) := by
  have hc : ∀ j, j < n * 2 → ∃ u, w.cell? ⟨g, j, none⟩ = some u := fun j hj => by
    rw [ho.cellAt j hj]
    exact ⟨_, List.getElem?_eq_getElem (by rw [ho.1]; exact hj)⟩
  have s0 := (ho.stored (k * 2) v0).1
  rw [layV_step _ _ _ _ hl g0] at s0
  have s1 := (s0.stored (k * 2 + 1) v1).1
  rw [layV_step _ _ _ _ hl g1, show k * 2 + 1 + 1 = (k + 1) * 2 by omega] at s1
  exact ⟨s1, ⟨ho.frozenAt _, ho.frozenAt _⟩, ⟨hc _ (by omega), hc _ (by omega)⟩, fun B a h hB => ((h.setCell hB _).setCell hB _)⟩

theorem grownItem {w wr : World} {g k : Nat} {v0 v1 : Value} (h : w.grownBy wr (some g)) : w.grownBy ((wr.setCell ⟨g, k, none⟩ v0).setCell ⟨g, k + 1, none⟩ v1) (some g) := by
  have one : ∀ (u : World) (j : Nat) (v : Value), w.grownBy u (some g) → w.grownBy (u.setCell ⟨g, j, none⟩ v) (some g) := fun u j v h =>
    ⟨h.os, h.tape, h.output, by simpa [World.setCell] using h.size, fun i hi hne => by rw [Below.heap_setCell _ _ _ _ (by intro e; apply hne; simp [e])]; exact h.block i hi hne⟩
  exact (one _ _ _ (one _ _ _ h))

/-- Marks, 2 cells an element. -/
def itemMarks (c : Int) (n : Nat) : List ItemD := (List.range n).map fun (i : Nat) => ⟨c + ((i * 2 : Nat) : Int), c + ((i * 2 + 1 : Nat) : Int)⟩
theorem itemMarks_length (c : Int) (n : Nat) : (itemMarks c n).length = n := by simp [itemMarks]
theorem itemMarks_getD (c : Int) (n i : Nat) (h : i < n) : (itemMarks c n).getD i itemNo = ⟨c + ((i * 2 : Nat) : Int), c + ((i * 2 + 1 : Nat) : Int)⟩ := by simp [itemMarks, List.getD, h]

end Go.Proofs.YtpjmlidbligcbaaGreatDoor

namespace Go.Proofs.YtpjmlidbligcbaaGreatDoor
open Go.RowKit
open Go.BigFrame
set_option linter.unusedVariables false
set_option maxRecDepth 100000
set_option linter.unusedSimpArgs false

/-- The first of f 0, f 1 .. f (n - 1) that is not 0; else 0. -/
def firstNZ (f : Nat → Int) : Nat → Int
  | 0 => 0
  | n + 1 => if firstNZ f n = 0 then f n else firstNZ f n

theorem firstNZ_none (f : Nat → Int) : ∀ n, (∀ j, j < n → f j = 0) → firstNZ f n = 0
  | 0, _ => rfl
  | n + 1, h => by
    have := firstNZ_none f n (fun j hj => h j (by omega))
    simp only [firstNZ, this, if_true]
    exact h n (by omega)

theorem firstNZ_first (f : Nat → Int) (k : Nat) (h : ∀ j, j < k → f j = 0) (hne : f k ≠ 0) : ∀ n, k < n → firstNZ f n = f k
  | 0, hk => by omega
  | n + 1, hk => by
    by_cases e : k = n
    · subst e
      simp only [firstNZ, firstNZ_none f k h, if_true]
    · have := firstNZ_first f k h hne n (by omega)
      simp only [firstNZ, this, hne, if_false]

theorem firstNZ_zero (f : Nat → Int) : ∀ n, firstNZ f n = 0 → ∀ j, j < n → f j = 0
  | 0, _, j, hj => by omega
  | n + 1, h, j, hj => by
    simp only [firstNZ] at h
    by_cases e : firstNZ f n = 0
    · rw [if_pos e] at h
      by_cases ej : j = n
      · subst ej; exact h
      · exact firstNZ_zero f n e j (by omega)
    · rw [if_neg e] at h; exact absurd h e

def prevK (xs : List ItemD) (k : Nat) : Int := if k = 0 then 0 else (xs.getD (k - 1) itemNo).key

def itF (xs : List ItemD) (k : Nat) : Int :=
  if inW (xs.getD k itemNo).key 1 20 = false ∨ inW (xs.getD k itemNo).val (-20000) 20000 = false then 3
  else if (xs.getD k itemNo).key ≤ prevK xs k then 1 else 0

def itemsF (xs : List ItemD) : Int := if 8 < xs.length then 2 else firstNZ (itF xs) xs.length

theorem itF_ways (xs : List ItemD) (k : Nat) :
    (inW (xs.getD k itemNo).key 1 20 = false ∧ itF xs k = 3) ∨ (inW (xs.getD k itemNo).key 1 20 = true ∧ inW (xs.getD k itemNo).val (-20000) 20000 = false ∧ itF xs k = 3) ∨
    (inW (xs.getD k itemNo).key 1 20 = true ∧ inW (xs.getD k itemNo).val (-20000) 20000 = true ∧ (xs.getD k itemNo).key ≤ prevK xs k ∧ itF xs k = 1) ∨
    (inW (xs.getD k itemNo).key 1 20 = true ∧ inW (xs.getD k itemNo).val (-20000) 20000 = true ∧ ¬ (xs.getD k itemNo).key ≤ prevK xs k ∧ itF xs k = 0) := by
  unfold itF
  generalize xs.getD k itemNo = x
  generalize prevK xs k = p
  cases h1 : inW x.key 1 20 <;> cases h2 : inW x.val (-20000) 20000 <;> by_cases h3 : x.key ≤ p <;> simp [h3]

end Go.Proofs.YtpjmlidbligcbaaGreatDoor

namespace Go.Proofs.YtpjmlidbligcbaaGreatDoor
open Go.RowKit
set_option linter.unusedVariables false
set_option maxRecDepth 100000
set_option linter.unusedSimpArgs false

theorem own_again {w w' : World} {lo e s n n' : Nat} {v v' : Value} {xs xs2 xs' : List Value} (h : w.ownsRow lo e s v n xs) (h2 : w'.ownsRow lo e s v n xs2) (hg : w.grownBy w' v.ownBlock) (h' : w.ownsRow lo e s v' n' xs') : ∃ ys, w'.ownsRow lo e s v' n' ys := by
  rcases h'.2 with ⟨rfl, rfl⟩ | ⟨g', cap', cur', rfl, hb', hh', hn', hm', hs', ht'⟩
  · exact ⟨[], World.ownsRow_nil _ _ _ _⟩
  · by_cases hgg : v.ownBlock = some g'
    · rcases h.2 with ⟨rfl, _⟩ | ⟨g, cap, cur, rfl, hb, hh, _, _, hs, _⟩
      · simp [Value.ownBlock] at hgg
      · simp only [Value.ownBlock, Option.some.injEq] at hgg
        subst hgg
        rcases h2.2 with ⟨he, _⟩ | ⟨g2, cap2, cur2, he, _, hh2, _, _, hs2, _⟩
        · simp at he
        · simp only [Value.slice.injEq, Option.some.injEq, Addr.mk.injEq, and_true, true_and] at he
          obtain ⟨rfl, rfl⟩ := he
          rw [hh] at hh'
          simp only [Option.some.injEq, Obj.cells.injEq] at hh'
          obtain ⟨rfl, _⟩ := hh'
          refine ⟨cur2.toList.take (n' * s), ?_, Or.inr ⟨_, cap', cur2, rfl, hb', hh2, hn', hm', by omega, rfl⟩⟩
          have : n' * s ≤ cap' * s := Nat.mul_le_mul_right _ hn'
          simp; omega
    · exact ⟨xs', h'.kept hg (Or.inr (fun e => hgg e.symm))⟩

theorem only_set {lo hi g j : Nat} {w wr : World} {u : Value} (h : Only lo hi w wr) (h1 : lo ≤ g) (h2 : g < hi) : Only lo hi w (wr.setCell ⟨g, j, none⟩ u) :=
  ⟨h.os, h.tape, h.output, by simpa [World.setCell] using h.size, fun k hk hc => by rw [Below.heap_setCell _ _ _ _ (by dsimp only; omega)]; exact h.block k hk hc⟩

set_option maxHeartbeats 2000000 in
theorem markTxnS_c (lo hi : Nat) (v : Value) (ds : List TxnD) (c : Int) (w : World) (h : OwnTxns lo hi w v ds) (hl : ds.length + sumA ds ≤ 1048576) (h0 : 0 ≤ c) (h1 : c ≤ 16777216) :
    Calls Tryz.prog 124 #[v, .int .i64 c] w fun e w' => ∃ m, e = .returned (.int .i64 m) ∧ (c ≤ m ∧ m ≤ c + 3145728) ∧ Only lo hi w w' := by
  obtain ⟨g, cap, ps, rfl, hg, hd, ho0, hp0⟩ := h
  have hpl : ps.length = ds.length := by rw [← hd]; simp
  have hlo : lo ≤ g := (ho0.lt g rfl).1
  have hcl := txnCells_length ps
  have HS0 : Hid (∀ j, j < ds.length → (txnCells ps)[j * 4 + 3]? = some (ps.getD j txnPNo).sl) := fun j hj => (txnCells_get ps j (by omega)).2.2.2
  have HP0 : Hid (∀ p ∈ ps, (∃ ys, w.ownsRow lo 195 3 p.sl p.d.acts.length ys)) := fun p hp => ⟨_, (hp0 p hp).1⟩
  have HB : Hid (∀ p ∈ ps, ∀ k, p.sl.ownBlock = some k → k < hi ∧ k ≠ g) := fun p hp => (hp0 p hp).2
  have HL : Hid (∀ p ∈ ps, p.d.acts.length ≤ 1048576) := fun p hp => by
    have := mem_le_sumA (ds := ds) (d := p.d) (by rw [← hd]; exact List.mem_map_of_mem hp)
    omega
  have HDD : Hid (ps.map TxnP.d = ds) := hd
  clear hp0 hd
  go_enter Tryz.func124, Tryz.ntmps124
  go_wp2
  go_loopw [1, 5] (fun j i wr => ∃ (k : Nat) (x : Int) (xs : List Value), k ≤ ds.length ∧ i = .int .i64 k ∧ j = .int .i64 x ∧ 0 ≤ x ∧ Hid (x = c + 3 * (k : Int) + 3 * (sumA (ds.take k) : Int)) ∧ wr.ownsRow lo 68 4 (.slice (some ⟨g, 0, none⟩) ds.length cap) ds.length xs ∧ Hid (∀ j, j < ds.length → xs[j * 4 + 3]? = some (ps.getD j txnPNo).sl) ∧ Hid (∀ p ∈ ps, (∃ ys, wr.ownsRow lo 195 3 p.sl p.d.acts.length ys)) ∧ Only lo hi w wr) (fun _ i _ => ds.length - (intOf i).toNat)
  case atStart => exact ⟨0, c, _, Nat.zero_le _, rfl, rfl, by omega, show c = _ by simp [sumA], ho0, HS0, HP0, Only.refl _ _ _⟩
  case round =>
    obtain ⟨k, x, xs, hk, rfl, rfl, hx0, HX, ho, HS, HP, hO⟩ := hrel
    by_cases hlt : k < ds.length
    · have hxl : xs.length = ds.length * 4 := ho.1
      have hm : ps.getD k txnPNo ∈ ps := by simp [List.getD, show k < ps.length by omega]
      have hc : ∀ j, j < ds.length * 4 → ∃ u, wr.cell? ⟨g, j, none⟩ = some u := fun j hj => by
        rw [ho.cellAt j hj]
        exact ⟨_, List.getElem?_eq_getElem (by omega)⟩
      obtain ⟨u0, e0⟩ := hc (k * 4) (by omega)
      obtain ⟨u1, e1⟩ := hc (k * 4 + 1) (by omega)
      obtain ⟨u2, e2⟩ := hc (k * 4 + 2) (by omega)
      have e3 : wr.cell? ⟨g, k * 4 + 3, none⟩ = some (ps.getD k txnPNo).sl := by rw [ho.cellAt _ (by omega)]; exact HS.out k hlt
      have f0 := ho.frozenAt (k * 4)
      have f1 := ho.frozenAt (k * 4 + 1)
      have f2 := ho.frozenAt (k * 4 + 2)
      have hx1 : x ≤ 25165824 := by have := HX.out; have := sumA_take_le ds k; omega
      have HZ : Hid (sumA (ds.take (k + 1)) = sumA (ds.take k) + (ps.getD k txnPNo).d.acts.length) := by
        have e : (ps.getD k txnPNo).d = ds.getD k txnNo := by rw [← HDD.out]; simp [List.getD, show k < ps.length by omega]
        show _ = _
        rw [e]; exact sumA_take_succ ds k hlt
      have hs := (((ho.stored (k * 4) (.int .i64 x)).1.stored (k * 4 + 1) (.int .i64 (x + 1))).1.stored (k * 4 + 2) (.int .i64 (x + 1 + 1))).1
      have HS2 : Hid (∀ j, j < ds.length → (((xs.set (k * 4) (.int .i64 x)).set (k * 4 + 1) (.int .i64 (x + 1))).set (k * 4 + 2) (.int .i64 (x + 1 + 1)))[j * 4 + 3]? = some (ps.getD j txnPNo).sl) := by
        intro j hj
        rw [List.getElem?_set_ne (by omega), List.getElem?_set_ne (by omega), List.getElem?_set_ne (by omega)]
        exact HS.out j hj
      obtain ⟨ys, hys⟩ := HP.out _ hm
      have hne := fun k hk => (HB.out _ hm k hk).2
      have hys3 := own_set_other (j := k * 4 + 2) (u := .int .i64 (x + 1 + 1)) (own_set_other (j := k * 4 + 1) (u := .int .i64 (x + 1)) (own_set_other (j := k * 4) (u := .int .i64 x) hys hne) hne) hne
      have HP3 : Hid (∀ p ∈ ps, (∃ ys, (((wr.setCell ⟨g, k * 4, none⟩ (.int .i64 x)).setCell ⟨g, k * 4 + 1, none⟩ (.int .i64 (x + 1))).setCell ⟨g, k * 4 + 2, none⟩ (.int .i64 (x + 1 + 1))).ownsRow lo 195 3 p.sl p.d.acts.length ys)) := fun p hp => by
        obtain ⟨zs, hz⟩ := HP.out p hp
        have hne := fun k hk => (HB.out p hp k hk).2
        exact ⟨zs, own_set_other (own_set_other (own_set_other hz hne) hne) hne⟩
      have hO3 : Only lo hi w (((wr.setCell ⟨g, k * 4, none⟩ (.int .i64 x)).setCell ⟨g, k * 4 + 1, none⟩ (.int .i64 (x + 1))).setCell ⟨g, k * 4 + 2, none⟩ (.int .i64 (x + 1 + 1))) := only_set (only_set (only_set hO hlo hg) hlo hg) hlo hg
      have hbk : ∀ j, (ps.getD k txnPNo).sl.ownBlock = some j → lo ≤ j ∧ j < hi := fun j hj => ⟨(hys.lt j hj).1, (HB.out _ hm j hj).1⟩
      have hap : (Value.slice (some ⟨g, 0, none⟩) ds.length cap).ownBlock ≠ (ps.getD k txnPNo).sl.ownBlock := fun e => (HB.out _ hm g e.symm).2 rfl
      have hal := HL.out _ hm
      clear hys HP hO HS ho hc hne hm
      generalize (ps.getD k txnPNo) = p at e3 hys3 hbk hap hal HZ
      obtain ⟨⟨i0, i1, i2, za⟩, aa, cc⟩ := p
      simp only [TxnP.sl] at e3 hys3 hbk hap hal
      have HZ' : Hid (sumA (ds.take (k + 1)) = sumA (ds.take k) + za.length) := HZ
      clear HZ
      have HH : Hid (_ ∧ _) := ⟨hys3, hs⟩
      clear hys3 hs
      go_wp2_with fail
      refine (markActS_any lo _ za.length ys (x + 1 + 1 + 1) _ HH.out.1 (by omega) (by omega) (by omega)).mono ?_
      rintro e w2 ⟨rfl, o2, hg2⟩
      have hrow := HH.out.2.kept hg2 (Or.inr hap)
      have HP4 : Hid (∀ p ∈ ps, (∃ ys, w2.ownsRow lo 195 3 p.sl p.d.acts.length ys)) := fun p hp => by
        obtain ⟨zs, hz⟩ := HP3.out p hp
        exact own_again HH.out.1 o2 hg2 hz
      have hO4 := hO3.trans (only_of_grown hg2 hbk)
      have HX2 : Hid (0 ≤ x + 1 + 1 + 1 + ((za.length * 3 : Nat) : Int) ∧ x + 1 + 1 + 1 + ((za.length * 3 : Nat) : Int) = c + 3 * ((k + 1 : Nat) : Int) + 3 * (sumA (ds.take (k + 1)) : Int)) := by
        have := HX.out
        have := HZ'.out
        constructor <;> omega
      generalize x + 1 + 1 + 1 + ((za.length * 3 : Nat) : Int) = y at HX2
      clear HH HP3 hO3 HX o2 hg2
      have R : Hid (_ ∧ _ ∧ _) := ⟨hrow, HP4, hO4⟩
      clear hrow HP4 hO4
      go_wp2
      go_roundw
      case rel => exact ⟨k + 1, y, _, by omega, by go_num, rfl, HX2.out.1, HX2.out.2, R.out.1, HS2, R.out.2.1, R.out.2.2⟩
      case measure => simp [intOf]; omega
    · have hfin : c ≤ x ∧ x ≤ c + 3145728 := by
        have := HX.out
        have := sumA_take_le ds k
        omega
      clear HX
      go_wp2
      go_ret
      exact ⟨_, rfl, hfin, hO⟩

theorem markTxnS_any (lo hi : Nat) (v : Value) (ds : List TxnD) (w : World) (h : OwnTxns lo hi w v ds) (hl : ds.length + sumA ds ≤ 1048576) :
    Calls Tryz.prog 124 #[v, .int .i64 1] w fun e w' => ∃ m, e = .returned (.int .i64 m) ∧ ¬ m < 0 ∧ Only lo hi w w' := by
  refine (markTxnS_c lo hi v ds 1 w h hl (by omega) (by omega)).mono ?_
  rintro e w' ⟨m, rfl, hm, ho⟩
  exact ⟨m, rfl, by omega, ho⟩

end Go.Proofs.YtpjmlidbligcbaaGreatDoor

namespace Go.Proofs.YtpjmlidbligcbaaGreatDoor
open Go.RowKit
set_option linter.unusedVariables false
set_option maxRecDepth 100000
set_option linter.unusedSimpArgs false

/-- v owns its row, which lies in blocks from lo up to hi. -/
def OwnS (e size lo hi : Nat) (w : World) (v : Value) (n : Nat) (xs : List Value) : Prop := w.ownsRow lo e size v n xs ∧ ∀ g, v.ownBlock = some g → g < hi

theorem OwnS.of {e size lo n : Nat} {w : World} {v : Value} {xs : List Value} (o : w.ownsRow lo e size v n xs) : OwnS e size lo w.heap.size w v n xs := ⟨o, fun g hg => (o.lt g hg).2⟩
theorem OwnS.below {e size lo hi n : Nat} {w w' : World} {v : Value} {xs : List Value} (o : OwnS e size lo hi w v n xs) (hb : Below w.heap.size w w') : OwnS e size lo hi w' v n xs := ⟨own_below o.1 hb, o.2⟩
theorem OwnS.only {e size lo hi n lo' hi' : Nat} {w w' : World} {v : Value} {xs : List Value} (o : OwnS e size lo hi w v n xs) (h : Only lo' hi' w w') (hh : hi' ≤ lo) : OwnS e size lo hi w' v n xs := ⟨own_only o.1 h hh, o.2⟩
theorem OwnS.lies {e size lo hi n c : Nat} {w : World} {a : Option Addr} {xs : List Value} (o : OwnS e size lo hi w (.slice a n c) n xs) : Lies w a xs := Lies.own o.1
theorem OwnS.wide {e size lo hi n lo' hi' : Nat} {w : World} {v : Value} {xs : List Value} (o : OwnS e size lo hi w v n xs) (h : lo' ≤ lo) (hh : hi ≤ hi') : OwnS e size lo' hi' w v n xs := ⟨own_base o.1 h, fun g hg => Nat.lt_of_lt_of_le (o.2 g hg) hh⟩
theorem OwnS.grown {e size lo hi n : Nat} {w w' : World} {v : Value} {xs : List Value} (o : OwnS e size lo hi w v n xs) (hg : w.grownBy w' v.ownBlock) : Only lo hi w w' := only_of_grown hg (fun g h => ⟨(o.1.lt g h).1, o.2 g h⟩)
/-- Another list's marking leaves it, where the two lie in two blocks. -/
theorem OwnS.beside {e size lo hi n : Nat} {w w' : World} {v v' : Value} {xs : List Value} (o : OwnS e size lo hi w v n xs) (hg : w.grownBy w' v'.ownBlock) (h : v.ownBlock = none ∨ v.ownBlock ≠ v'.ownBlock) : OwnS e size lo hi w' v n xs := ⟨o.1.kept hg h, o.2⟩

-- 68
theorem OwnTxns.only {lo hi lo' hi' : Nat} {w w' : World} {v : Value} {ds : List TxnD} (h : OwnTxns lo hi w v ds) (ho : Only lo' hi' w w') (hh : hi' ≤ lo) : OwnTxns lo hi w' v ds := by
  obtain ⟨g, cap, ps, e, hg, hd, o, hp⟩ := h
  exact ⟨g, cap, ps, e, hg, hd, own_only o ho hh, fun p hm => ⟨own_only (hp p hm).1 ho hh, (hp p hm).2⟩⟩

theorem szTxn_u (i s q : Int) (a : Option Addr) (n cap : Nat) (c : Int) (w : World) (hn : n ≤ 9223372036854775807) (h0 : 0 ≤ c) (h1 : c ≤ 1048576) :
    Calls Tryz.prog 176 #[.agg #[.int .i64 i, .int .i64 s, .int .i64 q, .slice a n cap], .int .i64 c] w fun e w' => ∃ s : Int, e = .returned (.int .i64 s) ∧ (¬ s < 0 → (n : Int) + s = c) ∧ Below w.heap.size w w' := by
  refine (szTxn_any i s q a n cap c w hn h0 (by omega)).mono ?_
  rintro e w' ⟨rfl, hb⟩
  refine ⟨_, rfl, ?_, hb⟩
  split <;> omega

theorem szTxns_u (v : Value) (ds : List TxnD) (c : Int) (w : World) (h : TxnsAt w v ds) (hn : ds.length ≤ 9223372036854775807) (hn1 : ∀ d ∈ ds, d.acts.length ≤ 9223372036854775807) (h0 : 0 ≤ c) (h1 : c ≤ 1048576) :
    Calls Tryz.prog 114 #[v, .int .i64 c] w fun e w' => ∃ s : Int, e = .returned (.int .i64 s) ∧ (¬ s < 0 → ((ds.length + sumA ds : Nat) : Int) + s = c) ∧ Below w.heap.size w w' := by
  refine (szTxnS_any v ds c w h hn hn1 h0 h1).mono ?_
  rintro e w' ⟨s, rfl, hs, hb⟩
  exact ⟨s, rfl, fun h => by have := hs (by omega); omega, hb⟩

theorem toTxn_u (i s q : Int) (a : Option Addr) (cap : Nat) (zs : List ActD) (w : World) (h : ActRow w a zs) (hl : zs.length ≤ 1048576) :
    Calls Tryz.prog 178 #[.agg #[.int .i64 i, .int .i64 s, .int .i64 q, .slice a zs.length cap]] w fun e w' => ∃ a' c', e = .returned (.agg #[.int .i64 i, .int .i64 s, .int .i64 q, .slice a' zs.length c']) ∧
      OwnS 195 3 w.heap.size w'.heap.size w' (.slice a' zs.length c') zs.length (actCells zs) ∧ Below w.heap.size w w' := by
  refine (toTxn_any i s q a cap zs w h hl).mono ?_
  rintro e w' ⟨g, c, rfl, o, hb⟩
  exact ⟨_, _, rfl, OwnS.of o, hb⟩

end Go.Proofs.YtpjmlidbligcbaaGreatDoor

namespace Go.Proofs.YtpjmlidbligcbaaGreatDoor
open Go.RowKit
set_option linter.unusedVariables false
set_option maxRecDepth 100000
set_option linter.unusedSimpArgs false

theorem markVotes_u (lo hi : Nat) (v : Value) (n : Nat) (xs : List Value) (c : Int) (w : World) (h : OwnS 79 4 lo hi w v n xs) (hn : n ≤ 1048576) (h0 : 0 ≤ c) (h1 : c ≤ 16777216) :
    Calls Tryz.prog 127 #[v, .int .i64 c] w fun e w' => ∃ m, e = .returned (.int .i64 m) ∧ (c ≤ m ∧ m ≤ c + 4194304) ∧ Only lo hi w w' := by
  refine (markVoteS_any lo v n xs c w h.1 (by omega) h0 (by omega)).mono ?_
  rintro e w' ⟨rfl, o, hg⟩
  exact ⟨_, rfl, by omega, h.grown hg⟩

end Go.Proofs.YtpjmlidbligcbaaGreatDoor

namespace Go.Proofs.YtpjmlidbligcbaaGreatDoor
open Go.RowKit
set_option linter.unusedVariables false
set_option maxRecDepth 100000
set_option linter.unusedSimpArgs false

set_option maxHeartbeats 1000000 in
theorem eqVtR_true (d : Int) (a a' : Option Addr) (cap cap' : Nat) (zs : List VoteD) (w : World) (h : VoteRow w a zs) (h' : VoteRow w a' zs) (hl : zs.length ≤ 1048576) :
    Calls Tryz.prog 51 #[.agg #[.int .i64 d, .slice a zs.length cap], .agg #[.int .i64 d, .slice a' zs.length cap']] w fun e w' => e = .returned (.bool true) ∧ Below w.heap.size w w' := by
  have h0 : (d != d) = false := by simp
  go_enter Tryz.func51, Tryz.ntmps51
  go_wp2_with (go_at_call 120; refine (eqVoteS_true a a' cap cap' zs _ (h.below (by go_grown)) (h'.below (by go_grown)) (by omega)).mono ?_; rintro e w' ⟨rfl, hb⟩)
  go_ret
  exact ⟨rfl, below_from (by go_grown) hb⟩

set_option maxHeartbeats 1000000 in
theorem markVtR_any (lo hi : Nat) (d : Int) (v : Value) (n : Nat) (xs : List Value) (c : Int) (w : World) (h : OwnS 79 4 lo hi w v n xs) (hn : n ≤ 1048576) (h0 : 0 ≤ c) (h1 : c ≤ 1048576) :
    Calls Tryz.prog 54 #[.agg #[.int .i64 d, v], .int .i64 c] w fun e w' => e = .returned (.int .i64 (c + ((n * 4 : Nat) : Int))) ∧ OwnS 79 4 lo hi w' v n (voteCells (voteMarks c n)) ∧ Only lo hi w w' := by
  obtain ⟨a, k, rfl⟩ := own_shape h.1
  go_enter Tryz.func54, Tryz.ntmps54
  go_wp2_with (go_at_call 127; refine (markVoteS_any lo _ n xs c _ (own_below h.1 (by go_grown)) (by omega) h0 (by omega)).mono ?_; rintro e w' ⟨rfl, ho, hg⟩)
  go_ret
  exact ⟨rfl, ⟨ho, h.2⟩, h.grown (grown_from (by go_grown) hg)⟩

set_option maxHeartbeats 1000000 in
theorem heldVtR_true (d : Int) (a : Option Addr) (n cap : Nat) (c : Int) (w : World) (h : VoteRow w a (voteMarks c n)) (hn : n ≤ 1048576) (h0 : 0 ≤ c) (h1 : c ≤ 1048576) :
    Calls Tryz.prog 55 #[.agg #[.int .i64 d, .slice a n cap], .int .i64 c] w fun e w' => e = .returned (.int .i64 (c + ((n * 4 : Nat) : Int))) ∧ Below w.heap.size w w' := by
  have hnn : ¬ c + ((n * 4 : Nat) : Int) < 0 := by omega
  have hh := fun w h => heldVoteS_true a n cap c w h (by omega) h0 (by omega)
  generalize c + ((n * 4 : Nat) : Int) = r at hh hnn
  go_enter Tryz.func55, Tryz.ntmps55
  go_wp2_with (go_at_call 128; refine (hh _ (h.below (by go_grown))).mono ?_; rintro e w' ⟨rfl, rfl⟩)
  go_ret
  exact ⟨rfl, by go_grown⟩

end Go.Proofs.YtpjmlidbligcbaaGreatDoor
