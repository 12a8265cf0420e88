/- What PackNumbers of the program and of its model do at a list of int64 that can be read: the same bytes, the same code. -/
import Derived.Test.YtmlkfmjenkcflaaGreatDoorGA
import Derived.Test.YtmlkfmjenkcflaaGreatDoorGB
import Derived.Test.YtmlkfmjenkcflaaGreatDoorGE
namespace Go.Proofs.YtmlkfmjenkcflaaGreatDoor
open Go.RowKit
set_option linter.unusedVariables false
set_option maxRecDepth 100000
set_option linter.unusedSimpArgs false

theorem own_some {w : World} {base e n k : Nat} {a : Option Addr} {xs : List Value} (h : w.ownsRow base e 1 (.slice a n k) n xs) (hn : 0 < n) : ∃ g, a = some ⟨g, 0, none⟩ := by
  rcases h.2 with ⟨he, h0⟩ | ⟨g, cap, cur, he, r⟩
  · omega
  · simp only [Value.slice.injEq] at he
    exact ⟨g, he.1⟩

/-- How many, and the bytes of the first k. -/
def packL (zs : List Int) (k : Nat) : List Int := (zs.length : Int) :: (zs.take k).flatMap put2
theorem packL_succ (zs : List Int) (k : Nat) (h : k < zs.length) : packL zs (k + 1) = packL zs k ++ put2 (zs.getD k 0) := by
  have e : zs.getD k 0 = zs[k] := by simp [List.getD, h]
  rw [packL, packL, List.take_succ_eq_append_getElem h, e]
  simp only [List.flatMap_append, List.flatMap_cons, List.flatMap_nil, List.append_nil, List.cons_append]
theorem packL_length (zs : List Int) (k : Nat) (h : k ≤ zs.length) : (packL zs k).length = 1 + 2 * k := by
  induction k with
  | zero => simp [packL]
  | succ k ih =>
    rw [packL_succ zs k h, List.length_append, ih (by omega)]
    simp [put2]; omega
def packC (zs : List Int) : Int := if 40 < zs.length then 2 else if zs.all shortB then 0 else 3
def packR (zs : List Int) : List Int := if 40 < zs.length then [] else if zs.all shortB then packL zs zs.length else []
theorem pack_many {zs : List Int} (h : 40 < zs.length) : packC zs = 2 ∧ packR zs = [] := by simp [packC, packR, h]
theorem pack_ok {zs : List Int} (h : ¬ 40 < zs.length) (ha : ∀ j, j < zs.length → shortB (zs.getD j 0) = true) : packC zs = 0 ∧ packR zs = packL zs zs.length := by
  have e : zs.all shortB = true := by
    rw [List.all_eq_true]
    intro x hx
    obtain ⟨j, hj, rfl⟩ := List.mem_iff_getElem.1 hx
    have := ha j hj
    simpa [List.getD, hj] using this
  simp [packC, packR, h, e]
theorem pack_bad {zs : List Int} (h : ¬ 40 < zs.length) (j : Nat) (hj : j < zs.length) (hb : shortB (zs.getD j 0) = false) : packC zs = 3 ∧ packR zs = [] := by
  have e : zs.all shortB = false := by
    rw [List.all_eq_false]
    refine ⟨zs[j], List.getElem_mem hj, ?_⟩
    simpa [List.getD, hj] using hb
  simp [packC, packR, h, e]
theorem packR_le (zs : List Int) : (packR zs).length ≤ 81 := by
  unfold packR
  split
  · simp
  · split
    · rw [packL_length _ _ (Nat.le_refl _)]; omega
    · simp

end Go.Proofs.YtmlkfmjenkcflaaGreatDoor

/- PackTxn: the program's function and its model tell the same code and the same bytes. No condition. -/
namespace Go.Proofs.YtmlkfmjenkcflaaGreatDoor
open Go.RowKit
open Go.BigFrame
set_option linter.unusedVariables false
set_option maxRecDepth 100000
set_option linter.unusedSimpArgs false

def actNums (z : ActD) : List Int := [z.kind, z.key, z.val]
/-- The numbers of a transaction, up to its act number k. -/
def numsL (i s q : Int) (zs : List ActD) (k : Nat) : List Int := [i, s, q] ++ (zs.take k).flatMap actNums
theorem numsL_succ (i s q : Int) (zs : List ActD) (k : Nat) (h : k < zs.length) : numsL i s q zs (k + 1) = numsL i s q zs k ++ actNums (zs.getD k actNo) := by
  have e : zs.getD k actNo = zs[k] := by simp [List.getD, h]
  rw [numsL, numsL, List.take_succ_eq_append_getElem h, e]
  simp only [List.flatMap_append, List.flatMap_cons, List.flatMap_nil, List.append_nil, List.append_assoc]
theorem numsL_length (i s q : Int) (zs : List ActD) (k : Nat) (h : k ≤ zs.length) : (numsL i s q zs k).length = 3 + 3 * k := by
  induction k with
  | zero => simp [numsL]
  | succ k ih =>
    rw [numsL_succ i s q zs k h, List.length_append, ih (by omega)]
    simp [actNums]; omega

theorem inW_true {n lo hi : Int} : inW n lo hi = true ↔ lo ≤ n ∧ n ≤ hi := by simp [inW]
theorem inW_false {n lo hi : Int} : inW n lo hi = false ↔ ¬ (lo ≤ n ∧ n ≤ hi) := by
  rw [← inW_true]; simp

theorem actF_zeroP {z : ActD} (h : actF z = 0) : (1 ≤ z.kind ∧ z.kind ≤ 4) ∧ (1 ≤ z.key ∧ z.key ≤ 20) ∧ (-1000 ≤ z.val ∧ z.val ≤ 1000) ∧ (z.kind = 3 → z.val = 0) := by
  unfold actF at h
  split at h
  · simp at h
  · rename_i h1
    split at h
    · simp at h
    · rename_i h2
      simp only [not_or, Bool.not_eq_false, inW_true] at h1 h2
      refine ⟨h1.1, h2.1, h2.2, fun e => ?_⟩
      have := h1.2
      simp [e] at this
      exact this

theorem actsF_all {zs : List ActD} (h : actsF zs = 0) : ∀ z ∈ zs, actF z = 0 := by
  induction zs with
  | nil => simp
  | cons x r ih =>
    simp only [actsF] at h
    split at h
    · rename_i hx
      intro z hz
      rcases List.mem_cons.1 hz with rfl | hz
      · exact hx
      · exact ih h z hz
    · rename_i hx; exact absurd h hx

theorem txnF_zero {i s q : Int} {zs : List ActD} (h : txnF i s q zs = 0) : (1 ≤ i ∧ i ≤ 200) ∧ (1 ≤ s ∧ s ≤ 9) ∧ (1 ≤ q ∧ q ≤ 99) ∧ (1 ≤ zs.length ∧ zs.length ≤ 4) ∧ ∀ z ∈ zs, actF z = 0 := by
  unfold txnF at h
  split at h
  · simp at h
  · rename_i h1
    split at h
    · simp at h
    · rename_i h2
      simp only [not_or, Bool.not_eq_false, inW_true] at h1
      exact ⟨h1.1, h1.2.1, h1.2.2, by omega, actsF_all h⟩

theorem nums_short {i s q : Int} {zs : List ActD} (h : txnF i s q zs = 0) : ∀ j, j < (numsL i s q zs zs.length).length → shortB ((numsL i s q zs zs.length).getD j 0) = true := by
  obtain ⟨h1, h2, h3, h4, h5⟩ := txnF_zero h
  have hall : ∀ n ∈ numsL i s q zs zs.length, shortB n = true := by
    intro n hn
    simp only [numsL, List.take_length, List.mem_append, List.mem_cons, List.not_mem_nil, or_false, List.mem_flatMap] at hn
    rcases hn with (rfl | rfl | rfl) | ⟨z, hz, hn⟩
    · exact short_mk (by omega)
    · exact short_mk (by omega)
    · exact short_mk (by omega)
    · obtain ⟨a1, a2, a3, _⟩ := actF_zeroP (h5 z hz)
      simp only [actNums, List.mem_cons, List.not_mem_nil, or_false] at hn
      rcases hn with rfl | rfl | rfl
      · exact short_mk (by omega)
      · exact short_mk (by omega)
      · exact short_mk (by omega)
  intro j hj
  exact hall _ (by simp only [List.getD, List.getElem?_eq_getElem hj, Option.getD_some]; exact List.getElem_mem hj)

/-- What PackTxn tells. -/
def pkC (i s q : Int) (zs : List ActD) : Int := txnF i s q zs
def pkR (i s q : Int) (zs : List ActD) : List Int := if txnF i s q zs = 0 then packR (numsL i s q zs zs.length) else []
theorem pk_ok {i s q : Int} {zs : List ActD} (h : txnF i s q zs = 0) : packC (numsL i s q zs zs.length) = 0 ∧ packR (numsL i s q zs zs.length) = packL (numsL i s q zs zs.length) (numsL i s q zs zs.length).length := by
  obtain ⟨_, _, _, h4, _⟩ := txnF_zero h
  exact pack_ok (by rw [numsL_length _ _ _ _ _ (Nat.le_refl _)]; omega) (nums_short h)
theorem pkR_le (i s q : Int) (zs : List ActD) : (pkR i s q zs).length ≤ 81 := by
  unfold pkR
  split
  · exact packR_le _
  · simp

theorem Box4.cells {w : World} {b o : Nat} {x0 x1 x2 x3 : Value} (h : Box4 w b o x0 x1 x2 x3) : b < w.heap.size := World.block_lt_of_cell? w ⟨b, o, none⟩ h.c0

theorem latB_cell {w : World} {B : Nat} {a : Addr} {v : Value} (h : w.cell? a = some v) (hB : a.block < B) : ∀ u : LatB B w, u.val.cell? a = some v := fun u => by
  rw [u.isBelow.cell hB]; exact h

end Go.Proofs.YtmlkfmjenkcflaaGreatDoor

/- The program's PackTxn: the code and the bytes that the plain functions tell. No condition. -/
namespace Go.Proofs.YtmlkfmjenkcflaaGreatDoor
open Go.RowKit
open Go.BigFrame
set_option linter.unusedVariables false
set_option maxRecDepth 100000
set_option linter.unusedSimpArgs false

/-- A box of two cells that may be written. -/
structure Box2 (w : World) (b : Nat) (x y : Value) : Prop where
  lt : b < w.heap.size
  c0 : w.cell? ⟨b, 0, none⟩ = some x
  c1 : w.cell? ⟨b, 1, none⟩ = some y
  f0 : w.frozen? ⟨b, 0, none⟩ = false
  f1 : w.frozen? ⟨b, 1, none⟩ = false

theorem Box2.below {w w' : World} {b : Nat} {x y : Value} (h : Box2 w b x y) (hb : Below w.heap.size w w') : Box2 w' b x y :=
  ⟨Nat.lt_of_lt_of_le h.lt hb.size, by rw [hb.cell (p := ⟨b, 0, none⟩) h.lt]; exact h.c0, by rw [hb.cell (p := ⟨b, 1, none⟩) h.lt]; exact h.c1, by rw [hb.frozen (p := ⟨b, 0, none⟩) h.lt]; exact h.f0, by rw [hb.frozen (p := ⟨b, 1, none⟩) h.lt]; exact h.f1⟩

end Go.Proofs.YtmlkfmjenkcflaaGreatDoor

/- IdsOf: the program's function and its model tell the same code and the same numbers. No condition. -/
namespace Go.Proofs.YtmlkfmjenkcflaaGreatDoor
open Go.RowKit
open Go.BigFrame
set_option linter.unusedVariables false
set_option maxRecDepth 100000
set_option linter.unusedSimpArgs false

def TxnD.F (d : TxnD) : Int := txnF d.id d.session d.seq d.acts
def allF : List TxnD → Int
  | [] => 0
  | d :: r => if d.F = 0 then allF r else d.F
def idsC (ds : List TxnD) : Int := if 60 < ds.length then 2 else allF ds
def idsR (ds : List TxnD) : List Int := if idsC ds = 0 then ds.map TxnD.id else []
def idsL (ds : List TxnD) (k : Nat) : List Int := (ds.take k).map TxnD.id

theorem idsL_succ (ds : List TxnD) (k : Nat) (h : k < ds.length) : idsL ds (k + 1) = idsL ds k ++ [(ds.getD k txnNo).id] := by
  have e : ds.getD k txnNo = ds[k] := by simp [List.getD, h]
  rw [idsL, idsL, List.take_succ_eq_append_getElem h, e]
  simp only [List.map_append, List.map_cons, List.map_nil]
theorem idsL_length (ds : List TxnD) (k : Nat) (h : k ≤ ds.length) : (idsL ds k).length = k := by simp [idsL]; omega
theorem idsR_le (ds : List TxnD) : (idsR ds).length ≤ ds.length := by
  unfold idsR
  split <;> simp

theorem allF_first (ds : List TxnD) : ∀ k, (∀ j, j < k → (ds.getD j txnNo).F = 0) → k < ds.length → (ds.getD k txnNo).F ≠ 0 → allF ds = (ds.getD k txnNo).F := by
  induction ds with
  | nil => intro k _ h; simp at h
  | cons x r ih =>
    intro k h0 hk hne
    cases k with
    | zero => simp [List.getD] at hne ⊢; simp [allF, hne]
    | succ k =>
      have hx : x.F = 0 := by simpa [List.getD] using h0 0 (by omega)
      have := ih k (fun j hj => by simpa [List.getD] using h0 (j + 1) (by omega)) (by simpa using hk) (by simpa [List.getD] using hne)
      simp only [allF, hx, if_true]
      rw [this]
      simp [List.getD]

theorem allF_none (ds : List TxnD) (h : ∀ j, j < ds.length → (ds.getD j txnNo).F = 0) : allF ds = 0 := by
  induction ds with
  | nil => rfl
  | cons x r ih =>
    have hx : x.F = 0 := by simpa [List.getD] using h 0 (by simp)
    simp only [allF, hx, if_true]
    exact ih (fun j hj => by simpa [List.getD] using h (j + 1) (by simpa using hj))

theorem TxnsAt.box {w : World} {b off i : Nat} {z : TxnD} {aa : Option Addr} {cc : Nat} (h0 : w.cell? ⟨b, off + i * 4, none⟩ = some (.int .i64 z.id)) (h1 : w.cell? ⟨b, off + i * 4 + 1, none⟩ = some (.int .i64 z.session)) (h2 : w.cell? ⟨b, off + i * 4 + 2, none⟩ = some (.int .i64 z.seq))
    (h3 : w.cell? ⟨b, off + i * 4 + 3, none⟩ = some (.slice aa z.acts.length cc)) : Box4 w b (off + i * 4) (.int .i64 z.id) (.int .i64 z.session) (.int .i64 z.seq) (.slice aa z.acts.length cc) := ⟨h0, h1, h2, h3⟩

set_option maxHeartbeats 1000000 in
theorem l2Ids_any (v : Value) (ds : List TxnD) (w : World) (h : TxnsAt w v ds) (hl : ds.length ≤ 60) :
    Calls Tryz.prog 51 #[v] w fun e w' => ∃ b c, e = .returned (.slice b (ds.map TxnD.id).length c) ∧ w'.ownsRow w.heap.size 2 1 (.slice b (ds.map TxnD.id).length c) (ds.map TxnD.id).length ((ds.map TxnD.id).map (Value.int .i64)) ∧ Below w.heap.size w w' := by
  obtain ⟨a, cap, rfl⟩ := h.shape
  obtain ⟨i0, hi, hz0, hz1, hz2⟩ := info_parts infoI64
  go_enter Tryz.func51, Tryz.ntmps51
  go_wp2
  go_loopw [3, 4] (fun v j wr => ∃ k : Nat, k ≤ ds.length ∧ j = .int .i64 k ∧ wr.ownsRow w.heap.size 2 1 v (idsL ds k).length ((idsL ds k).map (Value.int .i64)) ∧ Below w.heap.size w wr) (fun _ j _ => ds.length - (intOf j).toNat)
  case atStart => exact ⟨0, Nat.zero_le _, rfl, by first | exact World.ownsRow_lit w #[] 0 (Nat.le_refl _) (by decide) rfl | (simp [idsL]; exact World.ownsRow_lit w #[] 0 (Nat.le_refl _) (by decide) rfl), by go_grown⟩
  case round =>
    obtain ⟨k, hk, rfl, ho, hb⟩ := hrel
    have hsz := hb.size
    have hkl : (idsL ds k).length ≤ 60 := by rw [idsL_length ds k hk]; omega
    obtain ⟨a1, c1, rfl⟩ := own_shape ho
    by_cases hlt : k < ds.length
    · have hsu : Hid (idsL ds (k + 1) = idsL ds k ++ [(ds.getD k txnNo).id]) := idsL_succ ds k hlt
      obtain ⟨b, off, aa, cc, rfl, hbs, hc0, _⟩ := (h.below hb).at k hlt
      generalize (ds.getD k txnNo).id = z at hc0 hsu
      have hW2 : Below w.heap.size wr (wr.alloc (.cells #[.int .i64 z] 2)) := (Below.refl _ _).alloc hsz _
      have ho2 := ho.alloc (.cells #[.int .i64 z] 2)
      go_wp2_with (at_builtin; refine wpList_append_own _ rfl _ _ 24 rfl w.heap.size 2 i0 (.int .i64 0) 1 8 Tryz.underlying24 hi hz0 hz1 hz2 rfl (by decide) _ (idsL ds k).length ((idsL ds k).map (Value.int .i64)) rfl ho2 ⟨wr.heap.size, 0, none⟩ 1 1 [.int .i64 z] rfl rfl ?c1 ?c2 ?c3 ?c4 ?c5 ?_)
      all_goals try
        (case c1 => intro j u hj; match j, hj with | 0, hj => simp at hj; subst hj; simp [Addr.add])
      all_goals try (case c2 => first | rfl | (intro u hu; simp at hu; subst hu; rfl))
      all_goals try (case c3 => unfold maxLen; omega)
      all_goals try (case c4 => omega)
      all_goals try (case c5 => first | omega | (simp; omega))
      intro v' w2 hown hgrow _
      obtain ⟨a2, c2, rfl⟩ := own_shape hown
      have hW3 : Below w.heap.size wr w2 := hW2.grown hgrow (by simp; omega) (fun j hj => (ho.lt j hj).1)
      clear hW2 hgrow ho2 ho
      have R : Hid (w2.ownsRow w.heap.size 2 1 (.slice a2 ((idsL ds k).length + 1) c2) ((idsL ds k).length + 1) ((idsL ds k ++ [z]).map (Value.int .i64)) ∧ Below w.heap.size w w2) := ⟨by simpa using hown, hb.trans hW3⟩
      clear hown hW3
      go_wp2
      go_roundw
      case rel =>
        refine ⟨k + 1, by omega, by go_num, ?_, R.out.2⟩
        rw [hsu.out]
        simpa using R.out.1
      case measure => simp [intOf]; omega
    · have hkk : k = ds.length := by omega
      subst hkk
      have e : idsL ds ds.length = ds.map TxnD.id := by simp [idsL]
      rw [e] at ho
      clear hkl
      go_wp2
      go_ret
      rw [e]
      exact ⟨_, _, rfl, ho, hb⟩

end Go.Proofs.YtmlkfmjenkcflaaGreatDoor

/- IdsOf of the program and of its model: the same code, the same numbers. No condition. -/
namespace Go.Proofs.YtmlkfmjenkcflaaGreatDoor
open Go.RowKit
open Go.BigFrame
set_option linter.unusedVariables false
set_option maxRecDepth 100000
set_option linter.unusedSimpArgs false

theorem idsC_few {ds : List TxnD} (h : idsC ds = 0) : ds.length ≤ 60 := by
  unfold idsC at h
  split at h
  · simp at h
  · omega

set_option maxRecDepth 100000 in
set_option maxHeartbeats 2000000 in
theorem implIdsOf_any (v : Value) (ds : List TxnD) (w : World) (h : TxnsAt w v ds) (hl : ds.length + sumA ds ≤ 1048576) :
    Calls Tryz.prog 67 #[v] w fun e w' => ∃ b c, e = .returned (.agg #[.int .i64 (idsC ds), .slice b (idsR ds).length c]) ∧
      w'.ownsRow w.heap.size 2 1 (.slice b (idsR ds).length c) (idsR ds).length ((idsR ds).map (Value.int .i64)) ∧ Below w.heap.size w w' := by
  obtain ⟨a, cap, rfl⟩ := h.shape
  by_cases h60 : 60 < ds.length
  · have e1 : idsC ds = 2 := if_pos h60
    have e2 : idsR ds = [] := if_neg (by rw [e1]; decide)
    rw [e1, e2]
    clear e1 e2
    go_enter Tryz.func67, Tryz.ntmps67
    go_wp2
    exact bodyPost_ret (v := .agg #[.int .i64 2, .slice none 0 0]) (by simp [results, Tryz.results67, go_sem]) rfl ⟨_, _, rfl, World.ownsRow_nil _ _ _ _, by go_grown⟩
  · have e1 : idsC ds = allF ds := if_neg h60
    have hR0 : Box2 (w.alloc (.cells #[.int .i64 0, .slice none 0 0] 114)) w.heap.size (.int .i64 0) (.slice none 0 0) := ⟨by simp, by simp, by simp, by simp, by simp⟩
    have hb0 : Below w.heap.size w (w.alloc (.cells #[.int .i64 0, .slice none 0 0] 114)) := by go_grown
    obtain ⟨i0, hi, hz0, hz1, hz2⟩ := info_parts infoI64
    go_enter Tryz.func67, Tryz.ntmps67
    go_wp2
    generalize w.alloc (.cells #[.int .i64 0, .slice none 0 0] 114) = W at hR0 hb0
    have hsW := hR0.lt
    go_loopw [3, 13] (fun v j wr => ∃ k : Nat, k ≤ ds.length ∧ j = .int .i64 k ∧ wr.ownsRow W.heap.size 2 1 v (idsL ds k).length ((idsL ds k).map (Value.int .i64)) ∧ Below W.heap.size W wr ∧ Hid (∀ j, j < k → (ds.getD j txnNo).F = 0)) (fun _ j _ => ds.length - (intOf j).toNat)
    case atStart => exact ⟨0, Nat.zero_le _, rfl, World.ownsRow_nil _ _ _ _, Below.refl _ _, fun j hj => absurd hj (Nat.not_lt_zero _)⟩
    case round =>
      obtain ⟨k, hk, rfl, ho, hb, HA⟩ := hrel
      have hsz := hb.size
      have hkl : (idsL ds k).length ≤ 60 := by rw [idsL_length ds k hk]; omega
      obtain ⟨a1, c1, rfl⟩ := own_shape ho
      by_cases hlt : k < ds.length
      · obtain ⟨b, off, aa, cc, rfl, hbs, hc0, hc1, hc2, hc3, hA⟩ := (h.below (below_from hb0 hb)).at k hlt
        have hzl : (ds.getD k txnNo).acts.length ≤ sumA ds := mem_le_sumA (by simp [List.getD, hlt])
        have hcall := fun w h => txnFault_any (ds.getD k txnNo).id (ds.getD k txnNo).session (ds.getD k txnNo).seq aa cc (ds.getD k txnNo).acts w h (by omega)
        change ∀ w h, Calls _ _ _ _ fun e w' => e = .returned (.int .i64 ((ds.getD k txnNo).F)) ∧ _ at hcall
        by_cases hF : (ds.getD k txnNo).F = 0
        · have HB : Hid (∀ j, j < k + 1 → (ds.getD j txnNo).F = 0) := by
            intro j hj
            by_cases hjk : j = k
            · subst hjk; exact hF
            · exact HA.out j (by omega)
          have hsu : Hid (idsL ds (k + 1) = idsL ds k ++ [(ds.getD k txnNo).id]) := idsL_succ ds k hlt
          rw [hF] at hcall
          clear HA hF
          generalize ds.getD k txnNo = z at hc0 hc1 hc2 hc3 hA hcall hsu hzl
          obtain ⟨z0, z1, z2, zs⟩ := z
          dsimp only at hc0 hc1 hc2 hc3 hA hcall hzl
          have hW1 : Below wr.heap.size wr (wr.alloc (.cells #[.int .i64 z0, .int .i64 z1, .int .i64 z2, .slice aa zs.length cc] 65)) := by go_grown
          have hBt := Blk.new wr 65 #[.int .i64 z0, .int .i64 z1, .int .i64 z2, .slice aa zs.length cc]
          go_wp2_with fail
          generalize wr.alloc (.cells #[.int .i64 z0, .int .i64 z1, .int .i64 z2, .slice aa zs.length cc] 65) = w1 at hW1 hBt
          refine (hcall _ (hA.below hW1)).mono ?_
          rintro e w2 ⟨rfl, hb2⟩
          replace hW1 := hW1.trans (hb2.mono hW1.size)
          have p0 := (hBt.below hb2).cell 0 _ rfl
          have ho1 := own_below ho hW1
          have hs2 := hW1.size
          clear hb2 hBt hcall hA hc0 hc1 hc2 hc3
          have hW2 : Below W.heap.size w2 (w2.alloc (.cells #[.int .i64 z0] 2)) := (Below.refl _ _).alloc (by omega) _
          have ho2 := ho1.alloc (.cells #[.int .i64 z0] 2)
          go_wp2_with (at_builtin; refine wpList_append_own _ rfl _ _ 24 rfl W.heap.size 2 i0 (.int .i64 0) 1 8 Tryz.underlying24 hi hz0 hz1 hz2 rfl (by decide) _ (idsL ds k).length ((idsL ds k).map (Value.int .i64)) rfl ho2 ⟨w2.heap.size, 0, none⟩ 1 1 [.int .i64 z0] rfl rfl ?c1 ?c2 ?c3 ?c4 ?c5 ?_)
          all_goals try
            (case c1 => intro j u hj; match j, hj with | 0, hj => simp at hj; subst hj; simp [Addr.add])
          all_goals try (case c2 => first | rfl | (intro u hu; simp at hu; subst hu; rfl))
          all_goals try (case c3 => unfold maxLen; omega)
          all_goals try (case c4 => omega)
          all_goals try (case c5 => first | omega | (simp; omega))
          intro v' w3 hown hgrow _
          obtain ⟨a2, c2, rfl⟩ := own_shape hown
          have hW3 : Below W.heap.size w2 w3 := hW2.grown hgrow (by simp; omega) (fun j hj => (ho1.lt j hj).1)
          have R : Hid (w3.ownsRow W.heap.size 2 1 (.slice a2 ((idsL ds k).length + 1) c2) ((idsL ds k).length + 1) ((idsL ds k ++ [z0]).map (Value.int .i64)) ∧ Below W.heap.size W w3) := ⟨by simpa using hown, (hb.trans (hW1.mono hsz)).trans hW3⟩
          clear hW2 hgrow ho2 ho hown hW3 ho1 hW1 p0
          go_wp2
          go_roundw
          case rel =>
            refine ⟨k + 1, by omega, by go_num, ?_, R.out.2, HB⟩
            rw [hsu.out]
            simpa using R.out.1
          case measure => simp [intOf]; omega
        · have E : Hid (allF ds = (ds.getD k txnNo).F) := allF_first ds k HA.out hlt hF
          have hne : ((ds.getD k txnNo).F != 0) = true := by simpa using hF
          have E2 : Hid (idsR ds = []) := if_neg (by rw [e1, E.out]; exact hF)
          clear HA hF
          generalize (ds.getD k txnNo).F = r at hcall E hne
          generalize ds.getD k txnNo = z at hc0 hc1 hc2 hc3 hA hcall hzl
          obtain ⟨z0, z1, z2, zs⟩ := z
          dsimp only at hc0 hc1 hc2 hc3 hA hcall hzl
          have hW1 : Below wr.heap.size wr (wr.alloc (.cells #[.int .i64 z0, .int .i64 z1, .int .i64 z2, .slice aa zs.length cc] 65)) := by go_grown
          have E1 : Hid (idsC ds = allF ds) := e1
          clear e1
          go_wp2_with fail
          generalize wr.alloc (.cells #[.int .i64 z0, .int .i64 z1, .int .i64 z2, .slice aa zs.length cc] 65) = w1 at hW1
          refine (hcall _ (hA.below hW1)).mono ?_
          rintro e w2 ⟨rfl, hb2⟩
          obtain ⟨hlt0, q0, q1, g0, g1⟩ := ((hR0.below hb).below hW1).below hb2
          clear hcall hA hc0 hc1 hc2 hc3 ho
          go_wp2
          refine bodyPost_ret (v := .agg #[.int .i64 r, .slice none 0 0]) (by simp [results, Tryz.results67, go_sem, q0, q1]) rfl ?_
          rw [E1.out, E.out, E2.out]
          refine ⟨_, _, rfl, World.ownsRow_nil _ _ _ _, ?_⟩
          repeat' (refine Below.setCell ?_ (by dsimp only; omega) _)
          exact below_from (below_from (below_from hb0 hb) hW1) hb2
      · have hkk : k = ds.length := by omega
        subst hkk
        have E : Hid (idsC ds = 0) := e1.trans (allF_none ds HA.out)
        have E2 : Hid (idsR ds = idsL ds ds.length) := by
          show _ = _
          rw [show idsR ds = ds.map TxnD.id from if_pos E.out]
          simp [idsL]
        clear HA e1
        obtain ⟨hlt0, q0, q1, g0, g1⟩ := hR0.below hb
        generalize idsL ds ds.length = L at ho E2 hkl
        go_wp2
        refine bodyPost_ret (v := .agg #[.int .i64 0, .slice a1 L.length c1]) (by simp [results, Tryz.results67, go_sem, q0, q1]) rfl ?_
        rw [E.out, E2.out]
        refine ⟨_, _, rfl, ?_, ?_⟩
        · refine own_base (base := W.heap.size) ?_ hb0.size
          repeat' (refine ownsRow_setCell_below ?_ (by dsimp only; omega) _)
          exact ho
        · repeat' (refine Below.setCell ?_ (by dsimp only; omega) _)
          exact below_from hb0 hb

end Go.Proofs.YtmlkfmjenkcflaaGreatDoor

/- FindTxn of the program and of its model: the same code, the same transaction. No condition. -/
namespace Go.Proofs.YtmlkfmjenkcflaaGreatDoor
open Go.RowKit
open Go.BigFrame
set_option linter.unusedVariables false
set_option maxRecDepth 100000
set_option linter.unusedSimpArgs false

/-- The first place of x, or the length. -/
def idxN : List Int → Int → Nat
  | [], _ => 0
  | y :: r, x => if y = x then 0 else idxN r x + 1
theorem idxN_at (L : List Int) (x : Int) : ∀ k, (∀ j, j < k → L.getD j 0 ≠ x) → k < L.length → L.getD k 0 = x → idxN L x = k := by
  induction L with
  | nil => intro k _ h; simp at h
  | cons y r ih =>
    intro k h0 hk he
    cases k with
    | zero => simp [List.getD] at he; simp [idxN, he]
    | succ k =>
      have hy : y ≠ x := by simpa [List.getD] using h0 0 (by omega)
      simp only [idxN, hy, if_false]
      rw [ih k (fun j hj => by simpa [List.getD] using h0 (j + 1) (by omega)) (by simpa using hk) (by simpa [List.getD] using he)]
theorem idxN_none (L : List Int) (x : Int) (h : ∀ j, j < L.length → L.getD j 0 ≠ x) : idxN L x = L.length := by
  induction L with
  | nil => rfl
  | cons y r ih =>
    have hy : y ≠ x := by simpa [List.getD] using h 0 (by simp)
    simp only [idxN, hy, if_false, List.length_cons]
    rw [ih (fun j hj => by simpa [List.getD] using h (j + 1) (by simpa using hj))]
def idxI (L : List Int) (x : Int) : Int := if idxN L x < L.length then (idxN L x : Int) else -1

def findC (ds : List TxnD) (x : Int) : Int := if idsC ds ≠ 0 then idsC ds else if idxN (ds.map TxnD.id) x < ds.length then 0 else 4
def findT (ds : List TxnD) (x : Int) : TxnD := if findC ds x = 0 then ds.getD (idxN (ds.map TxnD.id) x) txnNo else txnNo

theorem findR_le (ds : List TxnD) (x : Int) : (findT ds x).acts.length ≤ sumA ds := by
  unfold findT
  split
  · by_cases h : idxN (ds.map TxnD.id) x < ds.length
    · exact mem_le_sumA (by simp [List.getD, h])
    · simp [List.getD, List.getElem?_eq_none (show ds.length ≤ idxN (ds.map TxnD.id) x by omega), txnNo]
  · simp [txnNo]

set_option maxRecDepth 100000 in
set_option maxHeartbeats 1000000 in
theorem l1Find_any (a : Option Addr) (cap : Nat) (L : List Int) (x : Int) (w : World) (h : Row .i64 w a L) (hl : L.length ≤ 1048576) :
    Calls Tryz.prog 52 #[.slice a L.length cap, .int .i64 x] w fun e w' => e = .returned (.int .i64 (idxI L x)) ∧ w' = w := by
  go_enter Tryz.func52, Tryz.ntmps52
  go_wp2
  go_loop [5] (fun j => ∃ k : Nat, k ≤ L.length ∧ j = .int .i64 k ∧ Hid (∀ j, j < k → L.getD j 0 ≠ x)) (fun j => L.length - (intOf j).toNat)
  case atStart => exact ⟨0, Nat.zero_le _, rfl, fun j hj => absurd hj (Nat.not_lt_zero _)⟩
  case round =>
    obtain ⟨k, hk, rfl, HA⟩ := hrel
    by_cases hlt : k < L.length
    · obtain ⟨b, off, rfl, hbs, hc⟩ := h k hlt
      by_cases he : L.getD k 0 = x
      · have E : Hid (idxI L x = (k : Int)) := by
          show _ = _
          rw [idxI, idxN_at L x k HA.out hlt he, if_pos hlt]
        have hee : (L.getD k 0 == x) = true := by simpa using he
        clear HA he
        generalize L.getD k 0 = z at hc hee
        go_wp2
        go_ret
        rw [E.out]
        exact ⟨rfl, rfl⟩
      · have HB : Hid (∀ j, j < k + 1 → L.getD j 0 ≠ x) := by
          intro j hj
          by_cases hjk : j = k
          · subst hjk; exact he
          · exact HA.out j (by omega)
        have hee : (L.getD k 0 == x) = false := by simpa using he
        clear HA he
        generalize L.getD k 0 = z at hc hee
        go_wp2
        go_round
        case rel => exact ⟨k + 1, by omega, by go_num, HB⟩
        case measure => simp [intOf]; omega
    · have hkl : k = L.length := by omega
      subst hkl
      have E : Hid (idxI L x = -1) := by
        show _ = _
        rw [idxI, idxN_none L x HA.out, if_neg (Nat.lt_irrefl _)]
      clear HA
      go_wp2
      go_ret
      rw [E.out]
      exact ⟨rfl, rfl⟩

set_option maxRecDepth 100000 in
set_option maxHeartbeats 1000000 in
theorem index_any (a : Option Addr) (cap : Nat) (L : List Int) (x : Int) (w : World) (h : Row .i64 w a L) (hl : L.length ≤ 1048576) :
    Calls Tryz.prog 48 #[.slice a L.length cap, .int .i64 x] w fun e w' => e = .returned (.int .i64 (idxI L x)) ∧ w' = w := by
  go_enter Tryz.func48, Tryz.ntmps48
  go_wp2
  go_loop [8] (fun j => ∃ k : Nat, k ≤ L.length ∧ j = .int .i64 k ∧ Hid (∀ j, j < k → L.getD j 0 ≠ x)) (fun j => L.length - (intOf j).toNat)
  case atStart => exact ⟨0, Nat.zero_le _, rfl, fun j hj => absurd hj (Nat.not_lt_zero _)⟩
  case round =>
    obtain ⟨k, hk, rfl, HA⟩ := hrel
    by_cases hlt : k < L.length
    · obtain ⟨b, off, rfl, hbs, hc⟩ := h k hlt
      by_cases he : L.getD k 0 = x
      · have E : Hid (idxI L x = (k : Int)) := by
          show _ = _
          rw [idxI, idxN_at L x k HA.out hlt he, if_pos hlt]
        have hee : (x == L.getD k 0) = true := by simpa using he.symm
        clear HA he
        generalize L.getD k 0 = z at hc hee
        go_wp2
        go_ret
        rw [E.out]
        exact ⟨rfl, rfl⟩
      · have HB : Hid (∀ j, j < k + 1 → L.getD j 0 ≠ x) := by
          intro j hj
          by_cases hjk : j = k
          · subst hjk; exact he
          · exact HA.out j (by omega)
        have hee : (x == L.getD k 0) = false := by simpa using fun e => he e.symm
        clear HA he
        generalize L.getD k 0 = z at hc hee
        go_wp2
        go_round
        case rel => exact ⟨k + 1, by omega, by go_num, HB⟩
        case measure => simp [intOf]; omega
    · have hkl : k = L.length := by omega
      subst hkl
      have E : Hid (idxI L x = -1) := by
        show _ = _
        rw [idxI, idxN_none L x HA.out, if_neg (Nat.lt_irrefl _)]
      clear HA
      go_wp2
      go_ret
      rw [E.out]
      exact ⟨rfl, rfl⟩

theorem acts_oneCell (zs : List ActD) : ∀ u ∈ actCells zs, u.oneCell' = true := by
  intro u hu
  simp only [actCells, List.mem_flatMap, ActD.cells, List.mem_cons, List.not_mem_nil, or_false] at hu
  obtain ⟨z, _, rfl | rfl | rfl⟩ := hu <;> rfl

theorem lies_src {w : World} {b off : Nat} {xs : List Value} (h : Lies w (some ⟨b, off, none⟩) xs) : ∀ j u, xs[j]? = some u → w.cell? ((⟨b, off, none⟩ : Addr).add j) = some u := by
  intro j u hj
  rcases h with rfl | ⟨b', off', e, _, hc⟩
  · simp at hj
  · simp only [Option.some.injEq, Addr.mk.injEq, and_true] at e
    obtain ⟨rfl, rfl⟩ := e
    rw [Addr.add_lit]
    exact hc j u hj

end Go.Proofs.YtmlkfmjenkcflaaGreatDoor

/- One operation of a region that draws, which only reads, whatever it is: it yields the same value in every world of the class. No condition. -/
namespace Go.Proofs.YtmlkfmjenkcflaaGreatDoor
open Go.RowKit
set_option linter.unusedVariables false
set_option maxRecDepth 100000

section
variable {P : Program} {ops : Array Oper} {Q : Exit → Act → World → Prop} {S : World → Prop}

theorem quiet_at (i : Nat) (d : Option Tmp) (v : Value) (fuel : Nat) {F : Nat} {l : Array Bool} {a : Act} {w : World} (hF : F = fuel + 1) (hs : Region.noSelect ops = true)
    (hd : (ops[i]?).map (·.dst) = some d) (hok : okSeg ops [i] l = true) (hw : (ops[i]?).map (fun o => Region.wanted o (yielded ops a.tmps)) = some true)
    (hrun : ∀ u, S u → (ops[i]?).map (fun o => (execOp a.eval o).run P u) = some (.ok (.value v) u)) (hS : S w)
    (h : wpAnyH P .any ops (NoPanic Q) S fuel (upTo [i] l) (a.put d v) w) : wpAnyH P .any ops (NoPanic Q) S F l a w := by
  subst hF
  cases ho : ops[i]? with
  | none => rw [ho] at hd; simp at hd
  | some o =>
    rw [ho] at hd hw hrun
    simp only [Option.map_some, Option.some.injEq] at hd hw hrun
    subst hd
    simp only [okSeg, Bool.and_eq_true, Bool.and_true] at hok
    exact wpAnyH_take (i := i) (oi := o) (v := v) ho hs hok.1 hok.2 (fun c a w => noPanic_put c a _ _ w) (Or.inl ⟨hw, fun u hu => hrun u hu⟩) hS h

/-- One operation, walked as a list of one. -/
theorem op_one {K : Act → World → Prop} (i : Nat) (o : Oper) {a : Act} {w : World} (ho : ops[i]? = some o) (h : wpList P ops (ThenGo Q K) [o] a w) : wpOp P ops (NoPanic Q) i K a w := by
  unfold wpOp
  simp only [ho]
  simp only [wpList] at h
  split at h
  · rename_i hw
    rw [if_pos hw]
    rcases h with h | ⟨h1, h2⟩
    · left
      unfold Oper.wp at h ⊢
      revert h
      generalize (execOp a.eval o).run P w = r
      intro h
      unfold Oper.upon at h ⊢
      split at h
      · exact h
      · exact h
      · exact h
      · refine Calls.mono h fun e w' he => ?_
        cases e <;> exact he
      · exact h
      · exact h
      · exact h
    · exact Or.inr ⟨h1, h2⟩
  · rename_i hw
    rw [if_neg hw]
    exact h

/-- One call, by its contract. -/
theorem op_call {K : Act → World → Prop} (i : Nat) (d : Option Tmp) (f : Nat) (args : Array Value) {a : Act} {w : World}
    (hd : (ops[i]?).map (·.dst) = some d) (hw : (ops[i]?).map (fun o => Region.wanted o (yielded ops a.tmps)) = some true)
    (hrun : (ops[i]?).map (fun o => (execOp a.eval o).run P w) = some (.ok (.enter f args) w))
    (hc : Calls P f args w (fun e w' => ∃ v, e = .returned v ∧ K (a.put d v) w')) : wpOp P ops (NoPanic Q) i K a w := by
  cases ho : ops[i]? with
  | none => rw [ho] at hd; simp at hd
  | some o =>
    rw [ho] at hd hw hrun
    simp only [Option.map_some, Option.some.injEq] at hd hw hrun
    subst hd
    unfold wpOp
    simp only [ho, hw, if_true]
    refine .inl ?_
    unfold Oper.wp
    rw [hrun]
    simp only [Oper.upon]
    refine hc.mono fun e w' he => ?_
    obtain ⟨v, rfl, h1⟩ := he
    exact h1

/-- Two may come up: each of them first. -/
theorem two_at (i j : Nat) (fuel : Nat) {F : Nat} {l : Array Bool} {a : Act} {w : World} (hF : F = fuel + 1) (hr : Region.ready .any ops l = [i, j])
    (hi : wpOp P ops (NoPanic Q) i (fun a' w' => S w' ∧ wpAnyH P .any ops (NoPanic Q) S fuel (upTo [i] l) a' w') a w)
    (hj : wpOp P ops (NoPanic Q) j (fun a' w' => S w' ∧ wpAnyH P .any ops (NoPanic Q) S fuel (upTo [j] l) a' w') a w) : wpAnyH P .any ops (NoPanic Q) S F l a w := by
  subst hF
  refine wpAnyH_all hr (by simp) (fun k hk => ?_)
  simp only [List.mem_cons, List.not_mem_nil, or_false] at hk
  rcases hk with rfl | rfl
  · exact hi
  · exact hj

theorem qta (i : Nat) (d : Option Tmp) (v : Value) (fuel : Nat) {F : Nat} {l : Array Bool} {a : Act} {w : World} (h5 : (F, Region.noSelect ops, (ops[i]?).map (·.dst), okSeg ops [i] l, (ops[i]?).map (fun o => Region.wanted o (yielded ops a.tmps))) = (fuel + 1, true, some d, true, some true))
    (hrun : ∀ u, S u → (ops[i]?).map (fun o => (execOp a.eval o).run P u) = some (.ok (.value v) u)) (hS : S w)
    (h : wpAnyH P .any ops (NoPanic Q) S fuel (upTo [i] l) (a.put d v) w) : wpAnyH P .any ops (NoPanic Q) S F l a w := by
  simp only [Prod.mk.injEq] at h5
  exact quiet_at i d v fuel h5.1 h5.2.1 h5.2.2.1 h5.2.2.2.1 h5.2.2.2.2 hrun hS h

theorem opc {K : Act → World → Prop} (i : Nat) (d : Option Tmp) (f : Nat) (args : Array Value) {a : Act} {w : World}
    (h3 : ((ops[i]?).map (·.dst), (ops[i]?).map (fun o => Region.wanted o (yielded ops a.tmps)), (ops[i]?).map (fun o => (execOp a.eval o).run P w)) = (some d, some true, some (.ok (.enter f args) w)))
    (hc : Calls P f args w (fun e w' => ∃ v, e = .returned v ∧ K (a.put d v) w')) : wpOp P ops (NoPanic Q) i K a w := by
  simp only [Prod.mk.injEq] at h3
  exact op_call i d f args h3.1 h3.2.1 h3.2.2 hc

theorem twa (i j : Nat) (fuel : Nat) {F : Nat} {l : Array Bool} {a : Act} {w : World} (h2 : (F, Region.ready .any ops l) = (fuel + 1, [i, j]))
    (hi : wpOp P ops (NoPanic Q) i (fun a' w' => S w' ∧ wpAnyH P .any ops (NoPanic Q) S fuel (upTo [i] l) a' w') a w)
    (hj : wpOp P ops (NoPanic Q) j (fun a' w' => S w' ∧ wpAnyH P .any ops (NoPanic Q) S fuel (upTo [j] l) a' w') a w) : wpAnyH P .any ops (NoPanic Q) S F l a w := by
  simp only [Prod.mk.injEq] at h2
  exact two_at i j fuel h2.1 h2.2 hi hj

end

end Go.Proofs.YtmlkfmjenkcflaaGreatDoor
