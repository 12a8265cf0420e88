/- Lists of transactions as plain data; what the helpers of the laws do with them: count, copy, compare, mark. -/
import Derived.Test.YticfbapipdhhmaaBlk
namespace Go.Proofs.Yticfbapipdhhmaa
open Go.RowKit
open Go.BigFrame
set_option linter.unusedVariables false
set_option linter.unusedSimpArgs false

structure TxnD where
  id : Int
  session : Int
  seq : Int
  acts : List ActD
def txnNo : TxnD := ⟨0, 0, 0, []⟩

/-- A transaction, and where its acts lie. -/
structure TxnP where
  d : TxnD
  a : Option Addr
  cap : Nat
def TxnP.sl (p : TxnP) : Value := .slice p.a p.d.acts.length p.cap
def TxnP.cells (p : TxnP) : List Value := [.int .i64 p.d.id, .int .i64 p.d.session, .int .i64 p.d.seq, p.sl]
def txnCells (ps : List TxnP) : List Value := ps.flatMap TxnP.cells
def txnPNo : TxnP := ⟨txnNo, none, 0⟩

theorem txnCells_length (ps : List TxnP) : (txnCells ps).length = ps.length * 4 := by
  induction ps with
  | nil => rfl
  | cons x xs ih => simp only [txnCells, List.flatMap_cons, List.length_append, List.length_cons] at ih ⊢; rw [ih]; simp [TxnP.cells]; omega

theorem txnCells_get (ps : List TxnP) : ∀ (i : Nat), i < ps.length → (txnCells ps)[i * 4]? = some (.int .i64 (ps.getD i txnPNo).d.id) ∧ (txnCells ps)[i * 4 + 1]? = some (.int .i64 (ps.getD i txnPNo).d.session) ∧ (txnCells ps)[i * 4 + 2]? = some (.int .i64 (ps.getD i txnPNo).d.seq) ∧ (txnCells ps)[i * 4 + 3]? = some (ps.getD i txnPNo).sl := by
  induction ps with
  | nil => intro i h; simp at h
  | cons x xs ih =>
    intro i h
    cases i with
    | zero => simp [txnCells, TxnP.cells]
    | succ i =>
      have e : txnCells (x :: xs) = x.cells ++ txnCells xs := rfl
      have hl : x.cells.length = 4 := rfl
      obtain ⟨h1, h2, h3, h4⟩ := ih i (by simpa using h)
      rw [e, List.getElem?_append_right (by omega), List.getElem?_append_right (by omega), List.getElem?_append_right (by omega), List.getElem?_append_right (by omega), hl, show (i + 1) * 4 - 4 = i * 4 by omega, show (i + 1) * 4 + 1 - 4 = i * 4 + 1 by omega, show (i + 1) * 4 + 2 - 4 = i * 4 + 2 by omega, show (i + 1) * 4 + 3 - 4 = i * 4 + 3 by omega]
      simpa [List.getD] using ⟨h1, h2, h3, h4⟩

/-- v is a slice that reads as these transactions. -/
def TxnsAt (w : World) (v : Value) (ds : List TxnD) : Prop :=
  ∃ a cap ps, v = .slice a ds.length cap ∧ ps.map TxnP.d = ds ∧ Lies w a (txnCells ps) ∧ ∀ p ∈ ps, ActRow w p.a p.d.acts

theorem TxnsAt.below {w w' : World} {v : Value} {ds : List TxnD} (h : TxnsAt w v ds) (hb : Below w.heap.size w w') : TxnsAt w' v ds := by
  obtain ⟨a, cap, ps, e, hd, hL, hA⟩ := h
  exact ⟨a, cap, ps, e, hd, hL.below hb, fun p hp => (hA p hp).below hb⟩

theorem TxnsAt.shape {w : World} {v : Value} {ds : List TxnD} (h : TxnsAt w v ds) : ∃ a cap, v = .slice a ds.length cap := by
  obtain ⟨a, cap, _, e, _⟩ := h
  exact ⟨a, cap, e⟩

theorem TxnsAt.at {w : World} {a : Option Addr} {n cap : Nat} {ds : List TxnD} (h : TxnsAt w (.slice a n cap) ds) (i : Nat) (hi : i < ds.length) :
    ∃ b off aa cc, a = some ⟨b, off, none⟩ ∧ b < w.heap.size ∧ w.cell? ⟨b, off + i * 4, none⟩ = some (.int .i64 (ds.getD i txnNo).id) ∧ w.cell? ⟨b, off + i * 4 + 1, none⟩ = some (.int .i64 (ds.getD i txnNo).session) ∧ w.cell? ⟨b, off + i * 4 + 2, none⟩ = some (.int .i64 (ds.getD i txnNo).seq) ∧
      w.cell? ⟨b, off + i * 4 + 3, none⟩ = some (.slice aa (ds.getD i txnNo).acts.length cc) ∧ ActRow w aa (ds.getD i txnNo).acts := by
  obtain ⟨a', cap', ps, e, hd, hL, hA⟩ := h
  simp only [Value.slice.injEq] at e
  obtain ⟨rfl, _, _⟩ := e
  have hl : ps.length = ds.length := by rw [← hd]; simp
  obtain ⟨h1, h2, h3, h4⟩ := txnCells_get ps i (by omega)
  have hp : (ps.getD i txnPNo).d = ds.getD i txnNo := by
    rw [← hd]
    simp [List.getD, show i < ps.length by omega]
  have hm : ps.getD i txnPNo ∈ ps := by simp [List.getD, show i < ps.length by omega]
  rcases hL with h | ⟨b, off, ha, hlt, hc⟩
  · have := txnCells_length ps
    rw [h] at this
    simp at this
    omega
  · have hAA := hA _ hm
    rw [hp] at hAA h1 h2 h3
    refine ⟨b, off, (ps.getD i txnPNo).a, (ps.getD i txnPNo).cap, ha, hlt, hc _ _ h1, by rw [Nat.add_assoc]; exact hc _ _ h2, by rw [Nat.add_assoc]; exact hc _ _ h3, ?_, hAA⟩
    rw [Nat.add_assoc, hc _ _ h4]
    simp only [TxnP.sl, hp]

/-- v is a slice of transactions, all of whose memory lies in blocks from lo up to hi, and is its own. -/
def OwnTxns (lo hi : Nat) (w : World) (v : Value) (ds : List TxnD) : Prop :=
  ∃ g cap ps, v = .slice (some ⟨g, 0, none⟩) ds.length cap ∧ g < hi ∧ ps.map TxnP.d = ds ∧ w.ownsRow lo 34 4 (.slice (some ⟨g, 0, none⟩) ds.length cap) ds.length (txnCells ps) ∧
    ∀ p ∈ ps, w.ownsRow lo 42 3 p.sl p.d.acts.length (actCells p.d.acts) ∧ ∀ k, p.sl.ownBlock = some k → k < hi ∧ k ≠ g

-- 34
theorem OwnTxns.row {lo hi : Nat} {w : World} {v : Value} {ds : List TxnD} (h : OwnTxns lo hi w v ds) : TxnsAt w v ds := by
  obtain ⟨g, cap, ps, e, _, hd, ho, hp⟩ := h
  exact ⟨_, cap, ps, e, hd, Lies.own ho, fun p hm => Lies.own (hp p hm).1⟩

-- 34
theorem OwnTxns.below {lo hi : Nat} {w w' : World} {v : Value} {ds : List TxnD} (h : OwnTxns lo hi w v ds) (hb : Below w.heap.size w w') : OwnTxns lo hi w' v ds := by
  obtain ⟨g, cap, ps, e, hg, hd, ho, hp⟩ := h
  exact ⟨g, cap, ps, e, hg, hd, own_below ho hb, fun p hm => ⟨own_below (hp p hm).1 hb, (hp p hm).2⟩⟩

def sumA (ds : List TxnD) : Nat := (ds.map (fun d => d.acts.length)).sum
theorem sumA_take_succ (ds : List TxnD) (k : Nat) (h : k < ds.length) : sumA (ds.take (k + 1)) = sumA (ds.take k) + (ds.getD k txnNo).acts.length := by
  have e : ds.getD k txnNo = ds[k] := by simp [List.getD, h]
  rw [List.take_succ_eq_append_getElem h, e]
  simp only [sumA, List.map_append, List.map_cons, List.map_nil, List.sum_append, List.sum_cons, List.sum_nil, Nat.add_zero]
theorem sumA_take_le (ds : List TxnD) (k : Nat) : sumA (ds.take k) ≤ sumA ds := by
  have e : sumA ds = sumA (ds.take k) + sumA (ds.drop k) := by
    conv => lhs; rw [← List.take_append_drop k ds]
    simp only [sumA, List.map_append, List.sum_append]
  omega
theorem mem_le_sumA {ds : List TxnD} {d : TxnD} (h : d ∈ ds) : d.acts.length ≤ sumA ds := by
  induction ds with
  | nil => simp at h
  | cons x r ih =>
    simp only [sumA, List.map_cons, List.sum_cons] at ih ⊢
    rcases List.mem_cons.1 h with rfl | h
    · omega
    · have := ih h; omega

set_option maxHeartbeats 1000000 in
theorem szTxnS_any (v : Value) (ds : List TxnD) (c : Int) (w : World) (h : TxnsAt w v ds) (hn : ds.length ≤ 9223372036854775807) (hn1 : ∀ d ∈ ds, d.acts.length ≤ 9223372036854775807) (h0 : 0 ≤ c) (h1 : c ≤ 1048576) :
    Calls Try.prog 4 #[v, .int .i64 c] w fun e w' => ∃ r, e = .returned (.int .i64 r) ∧ (0 ≤ r → ds.length + sumA ds + r = c) ∧ Below w.heap.size w w' := by
  obtain ⟨a, cap, rfl⟩ := h.shape
  by_cases hbig : c - ds.length < 0
  · go_enter Try.func4, Try.ntmps4
    go_wp2
    go_ret
    exact ⟨_, rfl, fun h => by omega, Below.refl _ _⟩
  · go_enter Try.func4, Try.ntmps4
    go_wp2
    go_loopw [1, 5] (fun l i wr => ∃ (k : Nat) (x : Int), k ≤ ds.length ∧ i = .int .i64 k ∧ l = .int .i64 x ∧ 0 ≤ x ∧ x ≤ 1048576 ∧ Hid (ds.length + sumA (ds.take k) + x = c) ∧ Below w.heap.size w wr) (fun _ i _ => ds.length - (intOf i).toNat)
    case atStart => exact ⟨0, c - ds.length, Nat.zero_le _, rfl, by go_num, by omega, by omega, show _ = _ by simp [sumA]; omega, Below.refl _ _⟩
    case round =>
      obtain ⟨k, x, hk, rfl, rfl, hx0, hx1, HS, hb⟩ := hrel
      by_cases hlt : k < ds.length
      · obtain ⟨b, off, aa, cc, rfl, hbs, e0, e1, e2, e3, hA⟩ := (h.below hb).at k hlt
        have hs := sumA_take_succ ds k hlt
        have HN : (ds.getD k txnNo).acts.length ≤ 9223372036854775807 := hn1 _ (by simp [List.getD, hlt])
        have HS' : Hid (x - (ds.getD k txnNo).acts.length ≥ 0 → ds.length + sumA (ds.take (k + 1)) + (x - (ds.getD k txnNo).acts.length) = c) := by
          intro _
          have := HS.out
          omega
        clear HS hs hA
        generalize ds.getD k txnNo = z at e0 e1 e2 e3 HN HS'
        obtain ⟨z0, z1, z2, zs⟩ := z
        dsimp only at e0 e1 e2 e3 HN HS'
        by_cases hneg : x - zs.length < 0
        · go_wp2_with fail
          refine (szTxn_any z0 z1 z2 aa zs.length cc x _ HN hx0 (by omega)).mono ?_
          rintro e w2 ⟨rfl, hb2⟩
          rw [if_pos (by omega)]
          go_wp2
          go_ret
          exact ⟨_, rfl, fun h => by omega, below_from hb hb2⟩
        · go_wp2_with fail
          refine (szTxn_any z0 z1 z2 aa zs.length cc x _ HN hx0 (by omega)).mono ?_
          rintro e w2 ⟨rfl, hb2⟩
          rw [if_neg (by omega)]
          generalize hy : x - (zs.length : Int) = y at hneg HS'
          have hy1 : y ≤ 1048576 := by omega
          clear hy
          go_wp2
          go_roundw
          case rel => exact ⟨k + 1, y, by omega, by go_num, rfl, by omega, by omega, HS'.out (by omega), below_from hb hb2⟩
          case measure => simp [intOf]; omega
      · have hkl : k = ds.length := by omega
        subst hkl
        rw [List.take_length] at HS
        go_wp2
        go_ret
        exact ⟨_, rfl, fun _ => HS.out, hb⟩

set_option maxHeartbeats 2000000 in
theorem eqTxnS_true (v v' : Value) (ds : List TxnD) (w : World) (h : TxnsAt w v ds) (h' : TxnsAt w v' ds) (hl : ds.length + sumA ds ≤ 1048576) :
    Calls Try.prog 8 #[v, v'] w fun e w' => e = .returned (.bool true) ∧ Below w.heap.size w w' := by
  obtain ⟨a, cap, rfl⟩ := h.shape
  obtain ⟨a', cap', rfl⟩ := h'.shape
  go_enter Try.func8, Try.ntmps8
  go_wp2
  go_loopw [5] (fun i wr => ∃ k : Nat, k ≤ ds.length ∧ i = .int .i64 k ∧ Below w.heap.size w wr) (fun i _ => ds.length - (intOf i).toNat)
  case atStart => exact ⟨0, Nat.zero_le _, rfl, Below.refl _ _⟩
  case round =>
    obtain ⟨k, hk, rfl, hb⟩ := hrel
    by_cases hlt : k < ds.length
    · obtain ⟨b, off, aa, cc, rfl, hbs, hc0, hc1, hc2, hc3, hA⟩ := (h.below hb).at k hlt
      obtain ⟨b', off', aa', cc', rfl, hbs', hd0, hd1, hd2, hd3, hA'⟩ := (h'.below hb).at k hlt
      have hzl : (ds.getD k txnNo).acts.length ≤ sumA ds := mem_le_sumA (by simp [List.getD, hlt])
      generalize ds.getD k txnNo = z at hc0 hc1 hc2 hc3 hd0 hd1 hd2 hd3 hA hA' hzl
      obtain ⟨z0, z1, z2, zs⟩ := z
      dsimp only at hc0 hc1 hc2 hc3 hd0 hd1 hd2 hd3 hA hA' hzl
      have k0 := lat_cell hc0
      have k1 := lat_cell hc1
      have k2 := lat_cell hc2
      have k3 := lat_cell hc3
      have l0 := lat_cell hd0
      have l1 := lat_cell hd1
      have l2 := lat_cell hd2
      have l3 := lat_cell hd3
      clear hc0 hc1 hc2 hc3 hd0 hd1 hd2 hd3
      have hW : Below wr.heap.size wr wr.drew := (Below.refl _ _).drew
      have hne : Nonempty (Lat wr) := ⟨⟨wr, Below.refl _ _⟩⟩
      go_wp2_with fail
      refine text_begin (S := fun w' => ∃ u : Lat wr, w' = u.val) (by kernel_rfl) ?_
      refine sgr [(0, 8)] 2 (by kernel_rfl) ⟨⟨_, hW⟩, rfl⟩ ?_
      simp only [pkE]
      repeat go_big_quiet_step (fail)
      refine wpQuiet_nil ?_
      refine cla 8 (some 25) 14 #[.agg #[.int .i64 z0, .int .i64 z1, .int .i64 z2, .slice aa zs.length cc], .agg #[.int .i64 z0, .int .i64 z1, .int .i64 z2, .slice aa' zs.length cc']] 1 (by kernel_rfl) ?_
      refine (eqTxn_true z0 z1 z2 aa aa' cc cc' zs _ (hA.below hW) (hA'.below hW) (by omega)).mono ?_
      rintro e w2 ⟨rfl, hb2⟩
      replace hW := hW.trans (hb2.mono hW.size)
      clear hb2
      refine ⟨_, rfl, ⟨⟨_, hW⟩, rfl⟩, ?_⟩
      simp only [Act.put, pjE]
      refine sgr [(9, 1)] 0 (by kernel_rfl) ⟨⟨_, hW⟩, rfl⟩ ?_
      simp only [pkE]
      repeat go_big_quiet_step (fail)
      refine wpQuiet_nil ?_
      refine text_end (by kernel_rfl) ?_
      replace hb := hb.trans (hW.mono hb.size)
      clear k0 k1 k2 k3 l0 l1 l2 l3 hW hne hA hA'
      go_wp2
      go_roundw
      case rel => exact ⟨k + 1, by omega, by go_num, hb⟩
      case measure => simp [intOf]; omega
    · go_wp2
      go_ret
      exact ⟨rfl, hb⟩

theorem infoTxn : (Try.prog.info? 34).map (fun i => (i.zero, i.size, i.bytes)) = some (some (.agg #[.int .i64 0, .int .i64 0, .int .i64 0, .slice none 0 0]), 4, 48) := by kernel_rfl

theorem set4 (A B : List Value) (b0 b1 b2 b3 v0 v1 v2 v3 : Value) (k : Nat) (hA : A.length = k) : (((((A ++ b0 :: b1 :: b2 :: b3 :: B).set k v0).set (k + 1) v1).set (k + 2) v2).set (k + 3) v3) = A ++ v0 :: v1 :: v2 :: v3 :: B := by
  subst hA
  have e : ∀ j, A.length + j - A.length = j := fun j => by omega
  rw [List.set_append_right _ _ (Nat.le_refl _), List.set_append_right _ _ (by omega), List.set_append_right _ _ (by omega), List.set_append_right _ _ (by omega)]
  simp [e]

/-- Four cells of a row of fours are written over. -/
theorem lay4 {w : World} {base e g cap n k : Nat} {A ys : List Value} {v0 v1 v2 v3 : Value} (ho : w.ownsRow base e 4 (.slice (some ⟨g, 0, none⟩) n cap) n (A ++ ys.drop (k * 4)))
    (hl : ys.length = n * 4) (hA : A.length = k * 4) (hk : k < n) :
    ((((w.setCell ⟨g, k * 4, none⟩ v0).setCell ⟨g, k * 4 + 1, none⟩ v1).setCell ⟨g, k * 4 + 2, none⟩ v2).setCell ⟨g, k * 4 + 3, none⟩ v3).ownsRow base e 4 (.slice (some ⟨g, 0, none⟩) n cap) n ((A ++ [v0, v1, v2, v3]) ++ ys.drop ((k + 1) * 4)) ∧
    (w.frozen? ⟨g, k * 4, none⟩ = false ∧ w.frozen? ⟨g, k * 4 + 1, none⟩ = false ∧ w.frozen? ⟨g, k * 4 + 2, none⟩ = false ∧ w.frozen? ⟨g, k * 4 + 3, none⟩ = false) ∧
    ((∃ u, w.cell? ⟨g, k * 4, none⟩ = some u) ∧ (∃ u, w.cell? ⟨g, k * 4 + 1, none⟩ = some u) ∧ (∃ u, w.cell? ⟨g, k * 4 + 2, none⟩ = some u) ∧ (∃ u, w.cell? ⟨g, k * 4 + 3, none⟩ = some u)) := by
  have hc : ∀ j, j < n * 4 → ∃ u, w.cell? ⟨g, j, none⟩ = some u := fun j hj => by
    rw [ho.cellAt j hj]
    exact ⟨_, List.getElem?_eq_getElem (by rw [ho.1]; exact hj)⟩
  have s3 := ((((ho.stored (k * 4) v0).1.stored (k * 4 + 1) v1).1.stored (k * 4 + 2) v2).1.stored (k * 4 + 3) v3).1
  obtain ⟨b0, b1, b2, b3, hd⟩ : ∃ b0 b1 b2 b3, ys.drop (k * 4) = b0 :: b1 :: b2 :: b3 :: ys.drop ((k + 1) * 4) := by
    rw [List.drop_eq_getElem_cons (show k * 4 < ys.length by omega), List.drop_eq_getElem_cons (show k * 4 + 1 < ys.length by omega), List.drop_eq_getElem_cons (show k * 4 + 1 + 1 < ys.length by omega), List.drop_eq_getElem_cons (show k * 4 + 1 + 1 + 1 < ys.length by omega), show (k + 1) * 4 = k * 4 + 1 + 1 + 1 + 1 by omega]
    exact ⟨_, _, _, _, rfl⟩
  rw [hd, set4 _ _ _ _ _ _ _ _ _ _ _ hA] at s3
  exact ⟨by simpa using s3, ⟨ho.frozenAt _, ho.frozenAt _, ho.frozenAt _, ho.frozenAt _⟩, hc _ (by omega), hc _ (by omega), hc _ (by omega), hc _ (by omega)⟩

theorem own_set_other {w : World} {base e n s g j : Nat} {v u : Value} {xs : List Value} (h : w.ownsRow base e s v n xs) (hne : ∀ k, v.ownBlock = some k → k ≠ g) : (w.setCell ⟨g, j, none⟩ u).ownsRow base e s v n xs := by
  refine ⟨h.1, ?_⟩
  rcases h.2 with h2 | ⟨g', cap, cur, hv, hg, hh, r⟩
  · exact Or.inl h2
  · exact Or.inr ⟨g', cap, cur, hv, hg, by rw [Below.heap_setCell _ _ _ _ (by have := hne g' (by rw [hv]; rfl); omega)]; exact hh, r⟩

set_option maxHeartbeats 2000000 in
theorem toTxnS_any (v : Value) (ds : List TxnD) (w : World) (h : TxnsAt w v ds) (hl : ds.length + sumA ds ≤ 1048576) :
    Calls Try.prog 6 #[v] w fun e w' => ∃ v', e = .returned v' ∧ OwnTxns w.heap.size w'.heap.size w' v' ds ∧ Below w.heap.size w w' := by
  obtain ⟨a, cap, rfl⟩ := h.shape
  obtain ⟨i0, hi, hz0, hz1, hz2⟩ := info_parts infoTxn
  have hbytes : i0.bytes * ds.length ≤ 281474976710656 := by rw [hz2]; omega
  have hmax : ds.length ≤ maxLen := by unfold maxLen; omega
  go_enter Try.func6, Try.ntmps6
  go_wp2_with (at_make; refine wpList_make_full _ rfl _ _ 25 rfl w.heap.size 34 i0 (.agg #[.int .i64 0, .int .i64 0, .int .i64 0, .slice none 0 0]) 4 Try.underlying25 hi hz0 hz1 _ _ _ _ ds.length rfl rfl rfl rfl hbytes hmax (Nat.le_refl _) ?_)
  intro w1 hown hgrow
  have hlen0 : (madeCells #[Value.int .i64 0, .int .i64 0, .int .i64 0, .slice none 0 0] (ds.length * 4)).toList.length = ds.length * 4 := by simp [size_madeCells]
  have hb1 : Below w.heap.size w w1 := (Below.refl _ _).grown hgrow (Nat.le_refl _) (by simp)
  have hg1 : w.heap.size < w1.heap.size := (hown.lt w.heap.size rfl).2
  generalize (madeCells #[Value.int .i64 0, .int .i64 0, .int .i64 0, .slice none 0 0] (ds.length * 4)).toList = ys at hown hlen0
  clear hgrow
  go_wp2
  go_loopw [4] (fun i wr => ∃ (k : Nat) (ps : List TxnP), k ≤ ds.length ∧ i = .int .i64 k ∧ Hid (ps.map TxnP.d = ds.take k) ∧ wr.ownsRow w.heap.size 34 4 (.slice (some ⟨w.heap.size, 0, none⟩) ds.length ds.length) ds.length (txnCells ps ++ ys.drop (k * 4)) ∧
    Hid (∀ p ∈ ps, wr.ownsRow w.heap.size 42 3 p.sl p.d.acts.length (actCells p.d.acts) ∧ ∀ k, p.sl.ownBlock = some k → k ≠ w.heap.size) ∧ Below w.heap.size w wr ∧ w.heap.size < wr.heap.size) (fun i _ => ds.length - (intOf i).toNat)
  case atStart => exact ⟨0, [], Nat.zero_le _, rfl, rfl, by simpa [txnCells] using hown, fun p hp => by simp at hp, hb1, hg1⟩
  case round =>
    obtain ⟨k, ps, hk, rfl, HD, ho, HP, hb, hg⟩ := hrel
    by_cases hlt : k < ds.length
    · obtain ⟨b, off, aa, cc, rfl, hbs, hc0, hc1, hc2, hc3, hA⟩ := (h.below hb).at k hlt
      have hzl : (ds.getD k txnNo).acts.length ≤ sumA ds := mem_le_sumA (by simp [List.getD, hlt])
      have HD' : Hid (ds.take (k + 1) = ds.take k ++ [ds.getD k txnNo]) := by
        have e : ds.getD k txnNo = ds[k] := by simp [List.getD, hlt]
        show _ = _
        rw [List.take_succ_eq_append_getElem hlt, e]
      generalize ds.getD k txnNo = z at hc0 hc1 hc2 hc3 hA hzl HD'
      obtain ⟨z0, z1, z2, zs⟩ := z
      dsimp only at hc0 hc1 hc2 hc3 hA hzl
      go_wp2_with fail
      refine (toTxn_any z0 z1 z2 aa cc zs _ hA (by omega)).mono ?_
      rintro e w2 ⟨g2, c2, rfl, o2, hb2⟩
      have hpl : (txnCells ps).length = k * 4 := by
        have := congrArg List.length HD.out
        simp at this
        rw [txnCells_length]; omega
      have ho' := own_below ho hb2
      obtain ⟨hst, ⟨f0, f1, f2, f3⟩, ⟨⟨u0, e0⟩, ⟨u1, e1⟩, ⟨u2, e2⟩, ⟨u3, e3⟩⟩⟩ := lay4 (v0 := .int .i64 z0) (v1 := .int .i64 z1) (v2 := .int .i64 z2) (v3 := .slice (some ⟨g2, 0, none⟩) zs.length c2) ho' hlen0 hpl hlt
      have hsz := hb2.size
      have hgb : wr.heap.size ≤ g2 := (o2.lt g2 rfl).1
      have R : Hid ((((((w2.setCell ⟨w.heap.size, k * 4, none⟩ (.int .i64 z0)).setCell ⟨w.heap.size, k * 4 + 1, none⟩ (.int .i64 z1)).setCell ⟨w.heap.size, k * 4 + 2, none⟩ (.int .i64 z2)).setCell ⟨w.heap.size, k * 4 + 3, none⟩ (.slice (some ⟨g2, 0, none⟩) zs.length c2)).ownsRow w.heap.size 34 4 (.slice (some ⟨w.heap.size, 0, none⟩) ds.length ds.length) ds.length (txnCells (ps ++ [⟨⟨z0, z1, z2, zs⟩, some ⟨g2, 0, none⟩, c2⟩]) ++ ys.drop ((k + 1) * 4))) ∧
        (∀ p ∈ ps ++ [⟨⟨z0, z1, z2, zs⟩, some ⟨g2, 0, none⟩, c2⟩], ((((w2.setCell ⟨w.heap.size, k * 4, none⟩ (.int .i64 z0)).setCell ⟨w.heap.size, k * 4 + 1, none⟩ (.int .i64 z1)).setCell ⟨w.heap.size, k * 4 + 2, none⟩ (.int .i64 z2)).setCell ⟨w.heap.size, k * 4 + 3, none⟩ (.slice (some ⟨g2, 0, none⟩) zs.length c2)).ownsRow w.heap.size 42 3 p.sl p.d.acts.length (actCells p.d.acts) ∧ ∀ k, p.sl.ownBlock = some k → k ≠ w.heap.size) ∧
        Below w.heap.size w ((((w2.setCell ⟨w.heap.size, k * 4, none⟩ (.int .i64 z0)).setCell ⟨w.heap.size, k * 4 + 1, none⟩ (.int .i64 z1)).setCell ⟨w.heap.size, k * 4 + 2, none⟩ (.int .i64 z2)).setCell ⟨w.heap.size, k * 4 + 3, none⟩ (.slice (some ⟨g2, 0, none⟩) zs.length c2)) ∧
        w.heap.size < ((((w2.setCell ⟨w.heap.size, k * 4, none⟩ (.int .i64 z0)).setCell ⟨w.heap.size, k * 4 + 1, none⟩ (.int .i64 z1)).setCell ⟨w.heap.size, k * 4 + 2, none⟩ (.int .i64 z2)).setCell ⟨w.heap.size, k * 4 + 3, none⟩ (.slice (some ⟨g2, 0, none⟩) zs.length c2)).heap.size) := by
        refine ⟨by simpa [txnCells, TxnP.cells, TxnP.sl] using hst, ?_, ?_, ?_⟩
        · intro p hp
          have key : w2.ownsRow w.heap.size 42 3 p.sl p.d.acts.length (actCells p.d.acts) ∧ ∀ k, p.sl.ownBlock = some k → k ≠ w.heap.size := by
            rcases List.mem_append.1 hp with hp | hp
            · exact ⟨own_below (HP.out p hp).1 hb2, (HP.out p hp).2⟩
            · simp only [List.mem_singleton] at hp
              subst hp
              refine ⟨own_base o2 hb.size, fun k hk => ?_⟩
              simp only [TxnP.sl, Value.ownBlock, Option.some.injEq] at hk
              omega
          exact ⟨own_set_other (own_set_other (own_set_other (own_set_other key.1 key.2) key.2) key.2) key.2, key.2⟩
        · refine Below.setCell (Below.setCell (Below.setCell (Below.setCell (below_from hb hb2) ?_ _) ?_ _) ?_ _) ?_ _ <;> exact Nat.le_refl _
        · simp [World.setCell]; omega
      clear hst ho ho' HP o2 hb hb2 hA
      go_wp2
      go_roundw
      case rel => exact ⟨k + 1, _, by omega, by go_num, (by rw [HD'.out, ← HD.out]; simp : _ = _), R.out.1, R.out.2.1, R.out.2.2.1, R.out.2.2.2⟩
      case measure => simp [intOf]; omega
    · have hkl : k = ds.length := by omega
      subst hkl
      have hd : ps.map TxnP.d = ds := by have := HD.out; rwa [List.take_length] at this
      rw [show ys.drop (ds.length * 4) = [] from List.drop_of_length_le (by omega), List.append_nil] at ho
      go_wp2
      go_ret
      exact ⟨_, rfl, ⟨_, _, ps, rfl, hg, hd, ho, fun p hp => ⟨(HP.out p hp).1, fun k hk => ⟨((HP.out p hp).1.lt k hk).2, (HP.out p hp).2 k hk⟩⟩⟩, hb⟩

end Go.Proofs.Yticfbapipdhhmaa
