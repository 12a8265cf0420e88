/- Lists of lists of undos as plain data; what the helpers of the laws do with them: count, copy, compare, mark. -/
import Derived.Test.YtjaoggkpnjkkpaaD4f
import Derived.Test.YtjaoggkpnjkkpaaD2m
namespace Go.Proofs.Ytjaoggkpnjkkpaa
open Go.RowKit
open Go.BigFrame
set_option linter.unusedVariables false
set_option linter.unusedSimpArgs false

/-- A list of undos, and where it lies. -/
structure USP where
  d : List UndoD
  a : Option Addr
  cap : Nat
def USP.sl (p : USP) : Value := .slice p.a p.d.length p.cap
def usCells (ps : List USP) : List Value := ps.map USP.sl
def uspNo : USP := ⟨[], none, 0⟩

theorem usCells_length (ps : List USP) : (usCells ps).length = ps.length := by simp [usCells]
theorem usCells_get (ps : List USP) (i : Nat) (h : i < ps.length) : (usCells ps)[i]? = some (ps.getD i uspNo).sl := by simp [usCells, List.getD, h]

/-- v is a slice that reads as these lists. -/
def UssAt (w : World) (v : Value) (ds : List (List UndoD)) : Prop :=
  ∃ a cap ps, v = .slice a ds.length cap ∧ ps.map USP.d = ds ∧ Lies w a (usCells ps) ∧ ∀ p ∈ ps, UndoRow w p.a p.d

theorem UssAt.below {w w' : World} {v : Value} {ds : List (List UndoD)} (h : UssAt w v ds) (hb : Below w.heap.size w w') : UssAt w' v ds := by
  obtain ⟨a, cap, ps, e, hd, hL, hA⟩ := h
  exact ⟨a, cap, ps, e, hd, hL.below hb, fun p hp => (hA p hp).below hb⟩

theorem UssAt.shape {w : World} {v : Value} {ds : List (List UndoD)} (h : UssAt w v ds) : ∃ a cap, v = .slice a ds.length cap := by
  obtain ⟨a, cap, _, e, _⟩ := h
  exact ⟨a, cap, e⟩

theorem UssAt.at {w : World} {a : Option Addr} {n cap : Nat} {ds : List (List UndoD)} (h : UssAt w (.slice a n cap) ds) (i : Nat) (hi : i < ds.length) :
    ∃ b off aa cc, a = some ⟨b, off, none⟩ ∧ b < w.heap.size ∧ w.cell? ⟨b, off + i, none⟩ = some (.slice aa (ds.getD i []).length cc) ∧ UndoRow w aa (ds.getD i []) := by
  obtain ⟨a', cap', ps, e, hd, hL, hA⟩ := h
  simp only [Value.slice.injEq] at e
  obtain ⟨rfl, _, _⟩ := e
  have hl : ps.length = ds.length := by rw [← hd]; simp
  have h1 := usCells_get ps i (by omega)
  have hp : (ps.getD i uspNo).d = ds.getD i [] := by
    rw [← hd]
    simp [List.getD, show i < ps.length by omega]
  have hm : ps.getD i uspNo ∈ ps := by simp [List.getD, show i < ps.length by omega]
  rcases hL with h | ⟨b, off, ha, hlt, hc⟩
  · have := usCells_length ps
    rw [h] at this
    simp at this
    omega
  · have hAA := hA _ hm
    rw [hp] at hAA
    refine ⟨b, off, (ps.getD i uspNo).a, (ps.getD i uspNo).cap, ha, hlt, ?_, hAA⟩
    rw [hc _ _ h1]
    simp only [USP.sl, hp]

/-- v is a slice of lists, all of whose memory lies in blocks from lo up to hi, and is its own. -/
def OwnUss (lo hi : Nat) (w : World) (v : Value) (ds : List (List UndoD)) : Prop :=
  ∃ g cap ps, v = .slice (some ⟨g, 0, none⟩) ds.length cap ∧ g < hi ∧ ps.map USP.d = ds ∧ w.ownsRow lo 30 1 (.slice (some ⟨g, 0, none⟩) ds.length cap) ds.length (usCells ps) ∧
    ∀ p ∈ ps, w.ownsRow lo 96 3 p.sl p.d.length (undoCells p.d) ∧ ∀ k, p.sl.ownBlock = some k → k < hi ∧ k ≠ g

theorem OwnUss.row {lo hi : Nat} {w : World} {v : Value} {ds : List (List UndoD)} (h : OwnUss lo hi w v ds) : UssAt w v ds := by
  obtain ⟨g, cap, ps, e, _, hd, ho, hp⟩ := h
  exact ⟨_, cap, ps, e, hd, Lies.own ho, fun p hm => Lies.own (hp p hm).1⟩

theorem OwnUss.below {lo hi : Nat} {w w' : World} {v : Value} {ds : List (List UndoD)} (h : OwnUss lo hi w v ds) (hb : Below w.heap.size w w') : OwnUss lo hi w' v ds := by
  obtain ⟨g, cap, ps, e, hg, hd, ho, hp⟩ := h
  exact ⟨g, cap, ps, e, hg, hd, own_below ho hb, fun p hm => ⟨own_below (hp p hm).1 hb, (hp p hm).2⟩⟩

theorem OwnUss.only {lo hi lo' hi' : Nat} {w w' : World} {v : Value} {ds : List (List UndoD)} (h : OwnUss lo hi w v ds) (ho : Only lo' hi' w w') (hh : hi' ≤ lo) : OwnUss lo hi w' v ds := by
  obtain ⟨g, cap, ps, e, hg, hd, o, hp⟩ := h
  exact ⟨g, cap, ps, e, hg, hd, own_only o ho hh, fun p hm => ⟨own_only (hp p hm).1 ho hh, (hp p hm).2⟩⟩

def sumU (ds : List (List UndoD)) : Nat := (ds.map List.length).sum
theorem sumU_take_succ (ds : List (List UndoD)) (k : Nat) (h : k < ds.length) : sumU (ds.take (k + 1)) = sumU (ds.take k) + (ds.getD k []).length := by
  have e : ds.getD k [] = ds[k] := by simp [List.getD, h]
  rw [List.take_succ_eq_append_getElem h, e]
  simp only [sumU, List.map_append, List.map_cons, List.map_nil, List.sum_append, List.sum_cons, List.sum_nil, Nat.add_zero]
theorem sumU_take_le (ds : List (List UndoD)) (k : Nat) : sumU (ds.take k) ≤ sumU ds := by
  have e : sumU ds = sumU (ds.take k) + sumU (ds.drop k) := by
    conv => lhs; rw [← List.take_append_drop k ds]
    simp only [sumU, List.map_append, List.sum_append]
  omega
theorem mem_le_sumU {ds : List (List UndoD)} {d : List UndoD} (h : d ∈ ds) : d.length ≤ sumU ds := by
  induction ds with
  | nil => simp at h
  | cons x r ih =>
    simp only [sumU, List.map_cons, List.sum_cons] at ih ⊢
    rcases List.mem_cons.1 h with rfl | h
    · omega
    · have := ih h; omega

set_option maxHeartbeats 1000000 in
theorem szUndoSS_any (v : Value) (ds : List (List UndoD)) (c : Int) (w : World) (h : UssAt w v ds) (hn : ds.length ≤ 9223372036854775807) (hn1 : ∀ d ∈ ds, d.length ≤ 9223372036854775807) (h0 : 0 ≤ c) (h1 : c ≤ 1048576) :
    Calls Try.prog 41 #[v, .int .i64 c] w fun e w' => ∃ r : Int, e = .returned (.int .i64 r) ∧ (¬ r < 0 → ((ds.length + sumU ds : Nat) : Int) + r = c) ∧ Below w.heap.size w w' := by
  obtain ⟨a, cap, rfl⟩ := h.shape
  by_cases hbig : c - ds.length < 0
  · go_enter Try.func41, Try.ntmps41
    go_wp2
    go_ret
    exact ⟨_, rfl, fun h => by omega, Below.refl _ _⟩
  · go_enter Try.func41, Try.ntmps41
    go_wp2
    go_loopw [1, 5] (fun l i wr => ∃ (k : Nat) (x : Int), k ≤ ds.length ∧ i = .int .i64 k ∧ l = .int .i64 x ∧ 0 ≤ x ∧ x ≤ 1048576 ∧ Hid (ds.length + sumU (ds.take k) + x = c) ∧ Below w.heap.size w wr) (fun _ i _ => ds.length - (intOf i).toNat)
    case atStart => exact ⟨0, c - ds.length, Nat.zero_le _, rfl, by go_num, by omega, by omega, show _ = _ by simp [sumU]; omega, Below.refl _ _⟩
    case round =>
      obtain ⟨k, x, hk, rfl, rfl, hx0, hx1, HS, hb⟩ := hrel
      by_cases hlt : k < ds.length
      · obtain ⟨b, off, aa, cc, rfl, hbs, e0, hA⟩ := (h.below hb).at k hlt
        have hs := sumU_take_succ ds k hlt
        have HN : (ds.getD k []).length ≤ 9223372036854775807 := hn1 _ (by simp [List.getD, hlt])
        have HS' : Hid (x - (ds.getD k []).length ≥ 0 → ds.length + sumU (ds.take (k + 1)) + (x - (ds.getD k []).length) = c) := by
          intro _
          have := HS.out
          omega
        clear HS hs hA
        generalize ds.getD k [] = zs at e0 HN HS'
        by_cases hneg : x - zs.length < 0
        · go_wp2_with fail
          refine (szUndoS_any aa zs.length cc x _ HN hx0 (by omega)).mono ?_
          rintro e w2 ⟨rfl, rfl⟩
          rw [if_pos (by omega)]
          go_wp2
          go_ret
          exact ⟨_, rfl, fun h => by omega, hb⟩
        · go_wp2_with fail
          refine (szUndoS_any aa zs.length cc x _ HN hx0 (by omega)).mono ?_
          rintro e w2 ⟨rfl, rfl⟩
          rw [if_neg (by omega)]
          generalize hy : x - (zs.length : Int) = y at hneg HS'
          have hy1 : y ≤ 1048576 := by omega
          clear hy
          go_wp2
          go_roundw
          case rel => exact ⟨k + 1, y, by omega, by go_num, rfl, by omega, by omega, HS'.out (by omega), hb⟩
          case measure => simp [intOf]; omega
      · have hkl : k = ds.length := by omega
        subst hkl
        rw [List.take_length] at HS
        go_wp2
        go_ret
        exact ⟨_, rfl, fun _ => by have := HS.out; omega, hb⟩

set_option maxHeartbeats 2000000 in
theorem eqUndoSS_true (v v' : Value) (ds : List (List UndoD)) (w : World) (h : UssAt w v ds) (h' : UssAt w v' ds) (hl : ds.length + sumU ds ≤ 1048576) :
    Calls Try.prog 43 #[v, v'] w fun e w' => e = .returned (.bool true) ∧ Below w.heap.size w w' := by
  obtain ⟨a, cap, rfl⟩ := h.shape
  obtain ⟨a', cap', rfl⟩ := h'.shape
  go_enter Try.func43, Try.ntmps43
  go_wp2
  go_loopw [5] (fun i wr => ∃ k : Nat, k ≤ ds.length ∧ i = .int .i64 k ∧ Below w.heap.size w wr) (fun i _ => ds.length - (intOf i).toNat)
  case atStart => exact ⟨0, Nat.zero_le _, rfl, Below.refl _ _⟩
  case round =>
    obtain ⟨k, hk, rfl, hb⟩ := hrel
    by_cases hlt : k < ds.length
    · obtain ⟨b, off, aa, cc, rfl, hbs, hc0, hA⟩ := (h.below hb).at k hlt
      obtain ⟨b', off', aa', cc', rfl, hbs', hd0, hA'⟩ := (h'.below hb).at k hlt
      have hzl : (ds.getD k []).length ≤ sumU ds := mem_le_sumU (by simp [List.getD, hlt])
      generalize ds.getD k [] = zs at hc0 hd0 hA hA' hzl
      have k0 := lat_cell hc0
      have l0 := lat_cell hd0
      clear hc0 hd0
      have hW : Below wr.heap.size wr wr.drew := (Below.refl _ _).drew
      have hne : Nonempty (Lat wr) := ⟨⟨wr, Below.refl _ _⟩⟩
      go_wp2_with fail
      refine text_begin (S := fun w' => ∃ u : Lat wr, w' = u.val) (by kernel_rfl) ?_
      refine seg_range [(0, 8)] 2 (by kernel_rfl) (by kernel_rfl) (by kernel_rfl) (by kernel_rfl) (by kernel_rfl) ⟨⟨_, hW⟩, rfl⟩ ?_
      simp only [pickR, List.toList_toArray, List.flatMap_cons, List.flatMap_nil, List.drop_succ_cons, List.drop_zero, List.take_succ_cons, List.take_zero, List.cons_append, List.nil_append, List.append_nil]
      repeat go_big_quiet_step (fail)
      refine wpQuiet_nil ?_
      refine call_at 8 (some 25) 36 #[.slice aa zs.length cc, .slice aa' zs.length cc'] 1 (by kernel_rfl) (by kernel_rfl) (by kernel_rfl) (by kernel_rfl) (by kernel_rfl) ?_
      refine (eqUndoS_true aa aa' cc cc' zs _ (hA.below hW) (hA'.below hW) (by omega)).mono ?_
      rintro e w2 ⟨rfl, hb2⟩
      replace hW := hW.trans (hb2.mono hW.size)
      clear hb2
      refine ⟨_, rfl, ⟨⟨_, hW⟩, rfl⟩, ?_⟩
      simp only [Act.put, List.setIfInBounds_toArray, List.set_cons_zero, List.set_cons_succ]
      refine seg_range [(9, 1)] 0 (by kernel_rfl) (by kernel_rfl) (by kernel_rfl) (by kernel_rfl) (by kernel_rfl) ⟨⟨_, hW⟩, rfl⟩ ?_
      simp only [pickR, List.toList_toArray, List.flatMap_cons, List.flatMap_nil, List.drop_succ_cons, List.drop_zero, List.take_succ_cons, List.take_zero, List.cons_append, List.nil_append, List.append_nil]
      repeat go_big_quiet_step (fail)
      refine wpQuiet_nil ?_
      refine text_end (by kernel_rfl) ?_
      replace hb := hb.trans (hW.mono hb.size)
      clear k0 l0 hW hne hA hA'
      go_wp2
      go_roundw
      case rel => exact ⟨k + 1, by omega, by go_num, hb⟩
      case measure => simp [intOf]; omega
    · go_wp2
      go_ret
      exact ⟨rfl, hb⟩

theorem infoUndos : (Try.prog.info? 30).map (fun i => (i.zero, i.size, i.bytes)) = some (some (.slice none 0 0), 1, 24) := by kernel_rfl

/-- One cell of a row is written over. -/
theorem lay1 {w : World} {base e g cap n k : Nat} {A ys : List Value} {v0 : Value} (ho : w.ownsRow base e 1 (.slice (some ⟨g, 0, none⟩) n cap) n (A ++ ys.drop k))
    (hl : ys.length = n) (hA : A.length = k) (hk : k < n) :
    (w.setCell ⟨g, k, none⟩ v0).ownsRow base e 1 (.slice (some ⟨g, 0, none⟩) n cap) n ((A ++ [v0]) ++ ys.drop (k + 1)) ∧
    w.frozen? ⟨g, k, none⟩ = false ∧ (∃ u, w.cell? ⟨g, k, none⟩ = some u) := by
  have s := (ho.stored k v0).1
  have hd : ys.drop k = ys[k] :: ys.drop (k + 1) := List.drop_eq_getElem_cons (by omega)
  have e : (A ++ ys.drop k).set k v0 = (A ++ [v0]) ++ ys.drop (k + 1) := by
    subst hA
    rw [hd, List.set_append_right _ _ (Nat.le_refl _), Nat.sub_self, List.set_cons_zero, List.append_assoc, List.singleton_append]
  rw [e] at s
  refine ⟨s, ho.frozenAt _, ?_⟩
  rw [ho.cellAt k (by omega)]
  exact ⟨_, List.getElem?_eq_getElem (by rw [ho.1]; omega)⟩

set_option maxHeartbeats 2000000 in
theorem toUndoSS_any (v : Value) (ds : List (List UndoD)) (w : World) (h : UssAt w v ds) (hl : ds.length + sumU ds ≤ 1048576) :
    Calls Try.prog 42 #[v] w fun e w' => ∃ v', e = .returned v' ∧ OwnUss w.heap.size w'.heap.size w' v' ds ∧ Below w.heap.size w w' := by
  obtain ⟨a, cap, rfl⟩ := h.shape
  obtain ⟨i0, hi, hz0, hz1, hz2⟩ := info_parts infoUndos
  have hbytes : i0.bytes * ds.length ≤ 281474976710656 := by rw [hz2]; omega
  have hmax : ds.length ≤ maxLen := by unfold maxLen; omega
  go_enter Try.func42, Try.ntmps42
  go_wp2_with (at_make; refine wpList_make_full _ rfl _ _ 39 rfl w.heap.size 30 i0 (.slice none 0 0) 1 Try.underlying39 hi hz0 hz1 _ _ _ _ ds.length rfl rfl rfl rfl hbytes hmax (Nat.le_refl _) ?_)
  intro w1 hown hgrow
  have hlen0 : (madeCells #[Value.slice none 0 0] ds.length).toList.length = ds.length := by simp [size_madeCells]
  have hb1 : Below w.heap.size w w1 := (Below.refl _ _).grown hgrow (Nat.le_refl _) (by simp)
  have hg1 : w.heap.size < w1.heap.size := (hown.lt w.heap.size rfl).2
  generalize (madeCells #[Value.slice none 0 0] ds.length).toList = ys at hown hlen0
  clear hgrow
  go_wp2
  go_loopw [4] (fun i wr => ∃ (k : Nat) (ps : List USP), k ≤ ds.length ∧ i = .int .i64 k ∧ Hid (ps.map USP.d = ds.take k) ∧ wr.ownsRow w.heap.size 30 1 (.slice (some ⟨w.heap.size, 0, none⟩) ds.length ds.length) ds.length (usCells ps ++ ys.drop k) ∧
    Hid (∀ p ∈ ps, wr.ownsRow w.heap.size 96 3 p.sl p.d.length (undoCells p.d) ∧ ∀ k, p.sl.ownBlock = some k → k ≠ w.heap.size) ∧ Below w.heap.size w wr ∧ w.heap.size < wr.heap.size) (fun i _ => ds.length - (intOf i).toNat)
  case atStart => exact ⟨0, [], Nat.zero_le _, rfl, rfl, by simpa [usCells] using hown, fun p hp => by simp at hp, hb1, hg1⟩
  case round =>
    obtain ⟨k, ps, hk, rfl, HD, ho, HP, hb, hg⟩ := hrel
    by_cases hlt : k < ds.length
    · obtain ⟨b, off, aa, cc, rfl, hbs, hc0, hA⟩ := (h.below hb).at k hlt
      have hzl : (ds.getD k []).length ≤ sumU ds := mem_le_sumU (by simp [List.getD, hlt])
      have HD' : Hid (ds.take (k + 1) = ds.take k ++ [ds.getD k []]) := by
        have e : ds.getD k [] = ds[k] := by simp [List.getD, hlt]
        show _ = _
        rw [List.take_succ_eq_append_getElem hlt, e]
      generalize ds.getD k [] = zs at hc0 hA hzl HD'
      go_wp2_with fail
      refine (toUndoS_any aa cc zs _ hA (by omega)).mono ?_
      rintro e w2 ⟨g2, c2, rfl, o2, hb2⟩
      have hpl : (usCells ps).length = k := by
        have := congrArg List.length HD.out
        simp at this
        rw [usCells_length]; omega
      have ho' := own_below ho hb2
      obtain ⟨hst, f0, ⟨u0, e0⟩⟩ := lay1 (v0 := .slice (some ⟨g2, 0, none⟩) zs.length c2) ho' hlen0 hpl hlt
      have hsz := hb2.size
      have hgb : wr.heap.size ≤ g2 := (o2.lt g2 rfl).1
      have R : Hid ((w2.setCell ⟨w.heap.size, k, none⟩ (.slice (some ⟨g2, 0, none⟩) zs.length c2)).ownsRow w.heap.size 30 1 (.slice (some ⟨w.heap.size, 0, none⟩) ds.length ds.length) ds.length (usCells (ps ++ [⟨zs, some ⟨g2, 0, none⟩, c2⟩]) ++ ys.drop (k + 1)) ∧
        (∀ p ∈ ps ++ [⟨zs, some ⟨g2, 0, none⟩, c2⟩], (w2.setCell ⟨w.heap.size, k, none⟩ (.slice (some ⟨g2, 0, none⟩) zs.length c2)).ownsRow w.heap.size 96 3 p.sl p.d.length (undoCells p.d) ∧ ∀ k, p.sl.ownBlock = some k → k ≠ w.heap.size) ∧
        Below w.heap.size w (w2.setCell ⟨w.heap.size, k, none⟩ (.slice (some ⟨g2, 0, none⟩) zs.length c2)) ∧
        w.heap.size < (w2.setCell ⟨w.heap.size, k, none⟩ (.slice (some ⟨g2, 0, none⟩) zs.length c2)).heap.size) := by
        refine ⟨by simpa [usCells, USP.sl] using hst, ?_, ?_, ?_⟩
        · intro p hp
          have key : w2.ownsRow w.heap.size 96 3 p.sl p.d.length (undoCells p.d) ∧ ∀ k, p.sl.ownBlock = some k → k ≠ w.heap.size := by
            rcases List.mem_append.1 hp with hp | hp
            · exact ⟨own_below (HP.out p hp).1 hb2, (HP.out p hp).2⟩
            · simp only [List.mem_singleton] at hp
              subst hp
              refine ⟨own_base o2 hb.size, fun k hk => ?_⟩
              simp only [USP.sl, Value.ownBlock, Option.some.injEq] at hk
              omega
          exact ⟨own_set_other key.1 key.2, key.2⟩
        · exact Below.setCell (below_from hb hb2) (Nat.le_refl _) _
        · simp [World.setCell]; omega
      clear hst ho ho' HP o2 hb hb2 hA
      go_wp2
      go_roundw
      case rel => exact ⟨k + 1, _, by omega, by go_num, (by rw [HD'.out, ← HD.out]; simp : _ = _), R.out.1, R.out.2.1, R.out.2.2.1, R.out.2.2.2⟩
      case measure => simp [intOf]; omega
    · have hkl : k = ds.length := by omega
      subst hkl
      have hd : ps.map USP.d = ds := by have := HD.out; rwa [List.take_length] at this
      rw [show ys.drop ds.length = [] from List.drop_of_length_le (by omega), List.append_nil] at ho
      go_wp2
      go_ret
      exact ⟨_, rfl, ⟨_, _, ps, rfl, hg, hd, ho, fun p hp => ⟨(HP.out p hp).1, fun k hk => ⟨((HP.out p hp).1.lt k hk).2, (HP.out p hp).2 k hk⟩⟩⟩, hb⟩

set_option maxHeartbeats 2000000 in
theorem markUndoSS_c (lo hi : Nat) (v : Value) (ds : List (List UndoD)) (c : Int) (w : World) (h : OwnUss lo hi w v ds) (hl : ds.length + sumU ds ≤ 1048576) (h0 : 0 ≤ c) (h1 : c ≤ 16777216) :
    Calls Try.prog 44 #[v, .int .i64 c] w fun e w' => ∃ m, e = .returned (.int .i64 m) ∧ (c ≤ m ∧ m ≤ c + 3145728) ∧ Only lo hi w w' := by
  obtain ⟨g, cap, ps, rfl, hg, hd, ho0, hp0⟩ := h
  have hpl : ps.length = ds.length := by rw [← hd]; simp
  have HP0 : Hid (∀ p ∈ ps, (∃ ys, w.ownsRow lo 96 3 p.sl p.d.length ys)) := fun p hp => ⟨_, (hp0 p hp).1⟩
  have HB : Hid (∀ p ∈ ps, ∀ k, p.sl.ownBlock = some k → k < hi ∧ k ≠ g) := fun p hp => (hp0 p hp).2
  have HL : Hid (∀ p ∈ ps, p.d.length ≤ 1048576) := fun p hp => by
    have := mem_le_sumU (ds := ds) (d := p.d) (by rw [← hd]; exact List.mem_map_of_mem hp)
    omega
  have HDD : Hid (ps.map USP.d = ds) := hd
  clear hp0 hd
  go_enter Try.func44, Try.ntmps44
  go_wp2
  go_loopw [1, 5] (fun j i wr => ∃ (k : Nat) (x : Int), k ≤ ds.length ∧ i = .int .i64 k ∧ j = .int .i64 x ∧ 0 ≤ x ∧ Hid (x = c + 3 * (sumU (ds.take k) : Int)) ∧ wr.ownsRow lo 30 1 (.slice (some ⟨g, 0, none⟩) ds.length cap) ds.length (usCells ps) ∧ Hid (∀ p ∈ ps, (∃ ys, wr.ownsRow lo 96 3 p.sl p.d.length ys)) ∧ Only lo hi w wr) (fun _ i _ => ds.length - (intOf i).toNat)
  case atStart => exact ⟨0, c, Nat.zero_le _, rfl, rfl, by omega, show c = _ by simp [sumU], ho0, HP0, Only.refl _ _ _⟩
  case round =>
    obtain ⟨k, x, hk, rfl, rfl, hx0, HX, ho, HP, hO⟩ := hrel
    by_cases hlt : k < ds.length
    · have hm : ps.getD k uspNo ∈ ps := by simp [List.getD, show k < ps.length by omega]
      have e3 : wr.cell? ⟨g, k, none⟩ = some (ps.getD k uspNo).sl := by rw [ho.cellAt _ (by omega)]; exact usCells_get ps k (by omega)
      have hx1 : x ≤ 25165824 := by have := HX.out; have := sumU_take_le ds k; omega
      have HZ : Hid (sumU (ds.take (k + 1)) = sumU (ds.take k) + (ps.getD k uspNo).d.length) := by
        have e : (ps.getD k uspNo).d = ds.getD k [] := by rw [← HDD.out]; simp [List.getD, show k < ps.length by omega]
        show _ = _
        rw [e]; exact sumU_take_succ ds k hlt
      obtain ⟨ys, hys⟩ := HP.out _ hm
      have hbk : ∀ j, (ps.getD k uspNo).sl.ownBlock = some j → lo ≤ j ∧ j < hi := fun j hj => ⟨(hys.lt j hj).1, (HB.out _ hm j hj).1⟩
      have hap : (Value.slice (some ⟨g, 0, none⟩) ds.length cap).ownBlock ≠ (ps.getD k uspNo).sl.ownBlock := fun e => (HB.out _ hm g e.symm).2 rfl
      have hal := HL.out _ hm
      clear hm
      generalize (ps.getD k uspNo) = p at e3 hys hbk hap hal HZ
      obtain ⟨za, aa, cc⟩ := p
      simp only [USP.sl] at e3 hys hbk hap hal
      have HZ' : Hid (sumU (ds.take (k + 1)) = sumU (ds.take k) + za.length) := HZ
      clear HZ
      have HH : Hid (_ ∧ _ ∧ _) := ⟨hys, ho, hO⟩
      clear hys ho hO
      go_wp2_with fail
      refine (markUndoS_any lo _ za.length ys x _ HH.out.1 (by omega) (by omega) (by omega)).mono ?_
      rintro e w2 ⟨rfl, o2, hg2⟩
      have hrow := HH.out.2.1.kept hg2 (Or.inr hap)
      have HP4 : Hid (∀ p ∈ ps, (∃ ys, w2.ownsRow lo 96 3 p.sl p.d.length ys)) := fun p hp => by
        obtain ⟨zs, hz⟩ := HP.out p hp
        exact own_again HH.out.1 o2 hg2 hz
      have hO4 := HH.out.2.2.trans (only_of_grown hg2 hbk)
      have HX2 : Hid (0 ≤ x + ((za.length * 3 : Nat) : Int) ∧ x + ((za.length * 3 : Nat) : Int) = c + 3 * (sumU (ds.take (k + 1)) : Int)) := by
        have := HX.out
        have := HZ'.out
        constructor <;> omega
      generalize x + ((za.length * 3 : Nat) : Int) = y at HX2
      clear HH HP HX o2 hg2
      have R : Hid (_ ∧ _ ∧ _) := ⟨hrow, HP4, hO4⟩
      clear hrow HP4 hO4
      go_wp2
      go_roundw
      case rel => exact ⟨k + 1, y, by omega, by go_num, rfl, HX2.out.1, HX2.out.2, R.out.1, R.out.2.1, R.out.2.2⟩
      case measure => simp [intOf]; omega
    · have hfin : c ≤ x ∧ x ≤ c + 3145728 := by
        have := HX.out
        have := sumU_take_le ds k
        omega
      clear HX
      go_wp2
      go_ret
      exact ⟨_, rfl, hfin, hO⟩

end Go.Proofs.Ytjaoggkpnjkkpaa
