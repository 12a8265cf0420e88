/- PackTxn: the program's function and its model tell the same code and the same bytes. No condition. -/
import Derived.Test.YtjaoggkpnjkkpaaDoorD2g
import Derived.Test.YtjaoggkpnjkkpaaDoorPack
namespace Go.Proofs.YtjaoggkpnjkkpaaDoor
open Go.RowKit
open Go.BigFrame
set_option linter.unusedVariables false
set_option linter.unusedSimpArgs false

def actNums (z : ActD) : List Int := [z.kind, z.key, z.val]
/-- The numbers of a transaction, up to its act number k. -/
def numsL (i s q : Int) (zs : List ActD) (k : Nat) : List Int := [i, s, q] ++ (zs.take k).flatMap actNums
theorem numsL_succ (i s q : Int) (zs : List ActD) (k : Nat) (h : k < zs.length) : numsL i s q zs (k + 1) = numsL i s q zs k ++ actNums (zs.getD k actNo) := by
  have e : zs.getD k actNo = zs[k] := by simp [List.getD, h]
  rw [numsL, numsL, List.take_succ_eq_append_getElem h, e]
  simp only [List.flatMap_append, List.flatMap_cons, List.flatMap_nil, List.append_nil, List.append_assoc]
theorem numsL_length (i s q : Int) (zs : List ActD) (k : Nat) (h : k ≤ zs.length) : (numsL i s q zs k).length = 3 + 3 * k := by
  induction k with
  | zero => simp [numsL]
  | succ k ih =>
    rw [numsL_succ i s q zs k h, List.length_append, ih (by omega)]
    simp [actNums]; omega

theorem inW_true {n lo hi : Int} : inW n lo hi = true ↔ lo ≤ n ∧ n ≤ hi := by simp [inW]
theorem inW_false {n lo hi : Int} : inW n lo hi = false ↔ ¬ (lo ≤ n ∧ n ≤ hi) := by
  rw [← inW_true]; simp

theorem actF_zeroP {z : ActD} (h : actF z = 0) : (1 ≤ z.kind ∧ z.kind ≤ 4) ∧ (1 ≤ z.key ∧ z.key ≤ 20) ∧ (-1000 ≤ z.val ∧ z.val ≤ 1000) ∧ (z.kind = 3 → z.val = 0) := by
  unfold actF at h
  split at h
  · simp at h
  · rename_i h1
    split at h
    · simp at h
    · rename_i h2
      simp only [not_or, Bool.not_eq_false, inW_true] at h1 h2
      refine ⟨h1.1, h2.1, h2.2, fun e => ?_⟩
      have := h1.2
      simp [e] at this
      exact this

theorem actsF_all {zs : List ActD} (h : actsF zs = 0) : ∀ z ∈ zs, actF z = 0 := by
  induction zs with
  | nil => simp
  | cons x r ih =>
    simp only [actsF] at h
    split at h
    · rename_i hx
      intro z hz
      rcases List.mem_cons.1 hz with rfl | hz
      · exact hx
      · exact ih h z hz
    · rename_i hx; exact absurd h hx

theorem txnF_zero {i s q : Int} {zs : List ActD} (h : txnF i s q zs = 0) : (1 ≤ i ∧ i ≤ 200) ∧ (1 ≤ s ∧ s ≤ 9) ∧ (1 ≤ q ∧ q ≤ 99) ∧ (1 ≤ zs.length ∧ zs.length ≤ 4) ∧ ∀ z ∈ zs, actF z = 0 := by
  unfold txnF at h
  split at h
  · simp at h
  · rename_i h1
    split at h
    · simp at h
    · rename_i h2
      simp only [not_or, Bool.not_eq_false, inW_true] at h1
      exact ⟨h1.1, h1.2.1, h1.2.2, by omega, actsF_all h⟩

theorem nums_short {i s q : Int} {zs : List ActD} (h : txnF i s q zs = 0) : ∀ j, j < (numsL i s q zs zs.length).length → shortB ((numsL i s q zs zs.length).getD j 0) = true := by
  obtain ⟨h1, h2, h3, h4, h5⟩ := txnF_zero h
  have hall : ∀ n ∈ numsL i s q zs zs.length, shortB n = true := by
    intro n hn
    simp only [numsL, List.take_length, List.mem_append, List.mem_cons, List.not_mem_nil, or_false, List.mem_flatMap] at hn
    rcases hn with (rfl | rfl | rfl) | ⟨z, hz, hn⟩
    · exact short_mk (by omega)
    · exact short_mk (by omega)
    · exact short_mk (by omega)
    · obtain ⟨a1, a2, a3, _⟩ := actF_zeroP (h5 z hz)
      simp only [actNums, List.mem_cons, List.not_mem_nil, or_false] at hn
      rcases hn with rfl | rfl | rfl
      · exact short_mk (by omega)
      · exact short_mk (by omega)
      · exact short_mk (by omega)
  intro j hj
  exact hall _ (by simp only [List.getD, List.getElem?_eq_getElem hj, Option.getD_some]; exact List.getElem_mem hj)

/-- What PackTxn tells. -/
def pkC (i s q : Int) (zs : List ActD) : Int := txnF i s q zs
def pkR (i s q : Int) (zs : List ActD) : List Int := if txnF i s q zs = 0 then packR (numsL i s q zs zs.length) else []
theorem pk_ok {i s q : Int} {zs : List ActD} (h : txnF i s q zs = 0) : packC (numsL i s q zs zs.length) = 0 ∧ packR (numsL i s q zs zs.length) = packL (numsL i s q zs zs.length) (numsL i s q zs zs.length).length := by
  obtain ⟨_, _, _, h4, _⟩ := txnF_zero h
  exact pack_ok (by rw [numsL_length _ _ _ _ _ (Nat.le_refl _)]; omega) (nums_short h)
theorem pkR_le (i s q : Int) (zs : List ActD) : (pkR i s q zs).length ≤ 81 := by
  unfold pkR
  split
  · exact packR_le _
  · simp

theorem Box4.cells {w : World} {b o : Nat} {x0 x1 x2 x3 : Value} (h : Box4 w b o x0 x1 x2 x3) : b < w.heap.size := World.block_lt_of_cell? w ⟨b, o, none⟩ h.c0

theorem latB_cell {w : World} {B : Nat} {a : Addr} {v : Value} (h : w.cell? a = some v) (hB : a.block < B) : ∀ u : LatB B w, u.val.cell? a = some v := fun u => by
  rw [u.isBelow.cell hB]; exact h

set_option maxHeartbeats 4000000 in
theorem l2Pack_any (b o : Nat) (i s q : Int) (a : Option Addr) (cap : Nat) (zs : List ActD) (w : World) (hB : Box4 w b o (.int .i64 i) (.int .i64 s) (.int .i64 q) (.slice a zs.length cap)) (h : ActRow w a zs) (h0 : txnF i s q zs = 0) :
    Calls Tryd.prog 21 #[.pointer (some ⟨b, o, none⟩)] w fun e w' => ∃ b c, e = .returned (.slice b (packR (numsL i s q zs zs.length)).length c) ∧ w'.ownsRow w.heap.size 5 1 (.slice b (packR (numsL i s q zs zs.length)).length c) (packR (numsL i s q zs zs.length)).length ((packR (numsL i s q zs zs.length)).map (Value.int .u8)) ∧ Below w.heap.size w w' := by
  obtain ⟨_, _, _, h4, _⟩ := txnF_zero h0
  have hnl : (numsL i s q zs zs.length).length ≤ 40 := by rw [numsL_length i s q zs zs.length (Nat.le_refl _)]; omega
  have hpk := fun a c w h => l1Pack_any a c (numsL i s q zs zs.length) w h (by omega) (nums_short h0)
  rw [← (pk_ok h0).2] at hpk
  have hbs : b < w.heap.size := hB.cells
  clear h0
  have k0 := lat_cell hB.c0
  have k1 := lat_cell hB.c1
  have k2 := lat_cell hB.c2
  have hW : Below w.heap.size w w.drew := (Below.refl _ _).drew
  have hne : Nonempty (Lat w) := ⟨⟨w, Below.refl _ _⟩⟩
  go_enter Tryd.func21, Tryd.ntmps21
  go_wp2_with fail
  refine text_begin (S := fun w' => ∃ u : Lat w, w' = u.val) (by kernel_rfl) ?_
  refine seg_range [(0, 12)] 2 (by kernel_rfl) (by kernel_rfl) (by kernel_rfl) (by kernel_rfl) (by kernel_rfl) ⟨⟨_, hW⟩, rfl⟩ ?_
  simp only [pickR, List.toList_toArray, List.flatMap_cons, List.flatMap_nil, List.drop_succ_cons, List.drop_zero, List.take_succ_cons, List.take_zero, List.cons_append, List.nil_append, List.append_nil]
  repeat go_big_quiet_step (fail)
  refine wpQuiet_nil ?_
  refine one_at 12 _ 1 (by kernel_rfl) rfl (by kernel_rfl) ?_
  clear k0 k1 k2
  go_wp2
  have hW1 : Below w.heap.size w (w.alloc (.cells #[.int .i64 i, .int .i64 s, .int .i64 q] 2)).drew := ((Below.refl _ _).alloc (Nat.le_refl _) _).drew
  have ho1 : (w.alloc (.cells #[.int .i64 i, .int .i64 s, .int .i64 q] 2)).drew.ownsRow w.heap.size 2 1 (.slice (some ⟨w.heap.size, 0, none⟩) 3 3) 3 [.int .i64 i, .int .i64 s, .int .i64 q] := World.ownsRow_lit w #[_, _, _] 3 (Nat.le_refl _) (by decide) rfl
  refine ThenGo.to ⟨⟨⟨_, hW1⟩, rfl⟩, ?_⟩
  refine seg_range [(13, 1)] 0 (by kernel_rfl) (by kernel_rfl) (by kernel_rfl) (by kernel_rfl) (by kernel_rfl) ⟨⟨_, hW1⟩, rfl⟩ ?_
  simp only [pickR, List.toList_toArray, List.flatMap_cons, List.flatMap_nil, List.drop_succ_cons, List.drop_zero, List.take_succ_cons, List.take_zero, List.cons_append, List.nil_append, List.append_nil]
  repeat go_big_quiet_step (fail)
  refine wpQuiet_nil ?_
  refine text_end (by kernel_rfl) ?_
  generalize (w.alloc (.cells #[.int .i64 i, .int .i64 s, .int .i64 q] 2)).drew = w1 at hW1 ho1
  clear hW hne
  go_wp2
  obtain ⟨i0, hi, hz0, hz1, hz2⟩ := info_parts infoI64
  go_loopw [3, 4] (fun v j wr => ∃ k : Nat, k ≤ zs.length ∧ j = .int .i64 k ∧ wr.ownsRow w.heap.size 2 1 v (numsL i s q zs k).length ((numsL i s q zs k).map (Value.int .i64)) ∧ Below w.heap.size w wr) (fun _ j _ => zs.length - (intOf j).toNat)
  case atStart => exact ⟨0, Nat.zero_le _, rfl, ho1, hW1⟩
  case round =>
    obtain ⟨k, hk, rfl, ho, hb⟩ := hrel
    clear ho1 hW1
    have hb3 := (hB.below hb).c3
    have hsz := hb.size
    obtain ⟨a1, c1, rfl⟩ := own_shape ho
    by_cases hlt : k < zs.length
    · have hkl : (numsL i s q zs k).length ≤ 100 := by rw [numsL_length i s q zs k hk]; omega
      have hsu : Hid (numsL i s q zs (k + 1) = numsL i s q zs k ++ actNums (zs.getD k actNo)) := numsL_succ i s q zs k hlt
      obtain ⟨b', off, rfl, hbs', hc0, hc1, hc2⟩ := h.at k hlt
      have hd0 : wr.cell? ⟨b', off + k * 3, none⟩ = _ := (hb.cell (p := ⟨b', off + k * 3, none⟩) hbs').trans hc0
      have hd1 : wr.cell? ⟨b', off + k * 3 + 1, none⟩ = _ := (hb.cell (p := ⟨b', off + k * 3 + 1, none⟩) hbs').trans hc1
      have hd2 : wr.cell? ⟨b', off + k * 3 + 2, none⟩ = _ := (hb.cell (p := ⟨b', off + k * 3 + 2, none⟩) hbs').trans hc2
      clear hc0 hc1 hc2
      generalize zs.getD k actNo = z at hd0 hd1 hd2 hsu
      obtain ⟨z0, z1, z2⟩ := z
      have hne : Nonempty (LatB w.heap.size wr) := ⟨⟨wr, Below.refl _ _⟩⟩
      have k0 := latB_cell hd0 hbs'
      have k1 := latB_cell hd1 hbs'
      have k2 := latB_cell hd2 hbs'
      have k3 := latB_cell hb3 hbs
      have hW : Below w.heap.size wr wr.drew := (Below.refl _ _).drew
      go_wp2_with fail
      refine text_begin (S := fun w' => ∃ u : LatB w.heap.size wr, w' = u.val) (by kernel_rfl) ?_
      refine seg_range [(0, 25)] 3 (by kernel_rfl) (by kernel_rfl) (by kernel_rfl) (by kernel_rfl) (by kernel_rfl) ⟨⟨_, hW⟩, rfl⟩ ?_
      simp only [pickR, List.toList_toArray, List.flatMap_cons, List.flatMap_nil, List.drop_succ_cons, List.drop_zero, List.take_succ_cons, List.take_zero, List.cons_append, List.nil_append, List.append_nil]
      repeat go_big_quiet_step (fail)
      refine wpQuiet_nil ?_
      refine one_at 25 _ 2 (by kernel_rfl) rfl (by kernel_rfl) ?_
      clear k0 k1 k2 k3
      go_wp2
      have hW2 : Below w.heap.size wr (wr.alloc (.cells #[.int .i64 z0, .int .i64 z1, .int .i64 z2] 2)).drew := ((Below.refl _ _).alloc hsz _).drew
      refine ThenGo.to ⟨⟨⟨_, hW2⟩, rfl⟩, ?_⟩
      refine one_at 26 _ 1 (by kernel_rfl) rfl (by kernel_rfl) ?_
      have ho2 : (wr.alloc (.cells #[.int .i64 z0, .int .i64 z1, .int .i64 z2] 2)).drew.ownsRow w.heap.size 2 1 (.slice a1 (numsL i s q zs k).length c1) (numsL i s q zs k).length ((numsL i s q zs k).map (Value.int .i64)) := (ho.alloc _).drew
      refine wpList_append_own _ rfl _ _ 39 rfl w.heap.size 2 i0 (.int .i64 0) 1 8 Tryd.underlying39 hi hz0 hz1 hz2 rfl (by decide) _ (numsL i s q zs k).length ((numsL i s q zs k).map (Value.int .i64)) rfl ho2 ⟨wr.heap.size, 0, none⟩ 3 3 [.int .i64 z0, .int .i64 z1, .int .i64 z2] rfl rfl ?c1 ?c2 ?c3 ?c4 ?c5 ?_
      case c1 =>
        intro j u hj
        match j, hj with
        | 0, hj => simp at hj; subst hj; simp [Addr.add]
        | 1, hj => simp at hj; subst hj; simp [Addr.add]
        | 2, hj => simp at hj; subst hj; simp [Addr.add]
      case c2 => intro u hu; simp at hu; rcases hu with rfl | rfl | rfl <;> rfl
      case c3 => unfold maxLen; omega
      case c4 => omega
      case c5 => simp; omega
      intro v' w2 hown hgrow _
      obtain ⟨a2, c2, rfl⟩ := own_shape hown
      have hW3 : Below w.heap.size wr w2 := hW2.grown hgrow (by simp; omega) (fun j hj => (ho.lt j hj).1)
      clear hW2 hgrow ho2 ho
      go_wp2
      refine ThenGo.to ⟨⟨⟨_, hW3⟩, rfl⟩, ?_⟩
      simp only [Act.put, List.getElem_toArray, List.getElem_cons_succ, List.getElem_cons_zero, List.setIfInBounds_toArray, List.set_cons_zero, List.set_cons_succ]
      refine seg_range [(27, 1)] 0 (by kernel_rfl) (by kernel_rfl) (by kernel_rfl) (by kernel_rfl) (by kernel_rfl) ⟨⟨_, hW3⟩, rfl⟩ ?_
      simp only [pickR, List.toList_toArray, List.flatMap_cons, List.flatMap_nil, List.drop_succ_cons, List.drop_zero, List.take_succ_cons, List.take_zero, List.cons_append, List.nil_append, List.append_nil]
      repeat go_big_quiet_step (fail)
      refine wpQuiet_nil ?_
      refine text_end (by kernel_rfl) ?_
      clear hne hW
      have R : Hid (w2.ownsRow w.heap.size 2 1 (.slice a2 ((numsL i s q zs k).length + 3) c2) ((numsL i s q zs k).length + 3) ((numsL i s q zs k ++ [z0, z1, z2]).map (Value.int .i64)) ∧ Below w.heap.size w w2) := ⟨by simpa using hown, hb.trans hW3⟩
      clear hown hW3
      go_wp2
      go_roundw
      case rel =>
        refine ⟨k + 1, by omega, by go_num, ?_, R.out.2⟩
        rw [hsu.out]
        simpa [actNums] using R.out.1
      case measure => simp [intOf]; omega
    · have hkl : k = zs.length := by omega
      subst hkl
      go_wp2_with fail
      refine (hpk _ _ _ (Row.own ho)).mono ?_
      rintro e w2 ⟨b2, c2, rfl, ho2, hb2⟩
      clear hpk
      go_wp2
      go_ret
      exact ⟨_, _, rfl, own_base ho2 hsz, below_from hb hb2⟩

set_option maxHeartbeats 2000000 in
theorem specPackTxn_any (i s q : Int) (a : Option Addr) (cap : Nat) (zs : List ActD) (w : World) (h : ActRow w a zs) (hl : zs.length ≤ 1048576) :
    Calls Tryd.prog 17 #[.agg #[.int .i64 i, .int .i64 s, .int .i64 q, .slice a zs.length cap]] w fun e w' => ∃ b c, e = .returned (.agg #[.int .i64 (pkC i s q zs), .slice b (pkR i s q zs).length c]) ∧
      w'.ownsRow w.heap.size 5 1 (.slice b (pkR i s q zs).length c) (pkR i s q zs).length ((pkR i s q zs).map (Value.int .u8)) ∧ Below w.heap.size w w' := by
  have hB := (box4_new w (.int .i64 i) (.int .i64 s) (.int .i64 q) (.slice a zs.length cap) 27).below (w' := (w.alloc (.cells #[.int .i64 i, .int .i64 s, .int .i64 q, .slice a zs.length cap] 27)).alloc (.cells #[.int .i64 0, .slice none 0 0] 33)) (by go_grown)
  have hA : ActRow ((w.alloc (.cells #[.int .i64 i, .int .i64 s, .int .i64 q, .slice a zs.length cap] 27)).alloc (.cells #[.int .i64 0, .slice none 0 0] 33)) a zs := h.below (by go_grown)
  have hf := l2Fault_any w.heap.size 0 i s q a cap zs _ hB hA hl
  by_cases h0 : txnF i s q zs = 0
  · have hp := l2Pack_any w.heap.size 0 i s q a cap zs _ hB hA h0
    have e1 : pkC i s q zs = 0 := h0
    have e2 : pkR i s q zs = packR (numsL i s q zs zs.length) := if_pos h0
    rw [e1, e2]
    rw [h0] at hf
    clear e1 e2 h0 hB hA h
    generalize packR (numsL i s q zs zs.length) = L at hp
    go_enter Tryd.func17, Tryd.ntmps17
    go_wp2_with fail
    refine hf.mono ?_
    rintro e w' ⟨rfl, rfl⟩
    go_wp2_with fail
    refine hp.mono ?_
    rintro e w2 ⟨b, c, rfl, ho, hb⟩
    obtain ⟨hc, hfz⟩ := bcell hb
    have hz : w.heap.size + 2 ≤ w2.heap.size := by have := hb.size; simp at this; omega
    go_wp2
    simp only [World.size_alloc] at ho
    refine bodyPost_ret (v := .agg #[.int .i64 0, .slice b L.length c]) (by simp [results, Tryd.results17, go_sem, hc]) rfl ⟨_, _, rfl, ?_, ?_⟩
    · refine own_base (base := w.heap.size + 1 + 1) ?_ (by omega)
      repeat' (refine ownsRow_setCell_below ?_ (by dsimp only; omega) _)
      exact ho
    · repeat' (refine Below.setCell ?_ (by dsimp only; omega) _)
      exact below_from (by go_grown) hb
  · have e1 : pkC i s q zs = txnF i s q zs := rfl
    have e2 : pkR i s q zs = [] := if_neg h0
    rw [e1, e2]
    have hne : (txnF i s q zs != 0) = true := by simpa using h0
    clear e1 e2 h0 hB hA h
    generalize txnF i s q zs = r at hf hne
    go_enter Tryd.func17, Tryd.ntmps17
    go_wp2_with fail
    refine hf.mono ?_
    rintro e w' ⟨rfl, rfl⟩
    go_wp2
    exact bodyPost_ret (v := .agg #[.int .i64 r, .slice none 0 0]) (by simp [results, Tryd.results17, go_sem]) rfl ⟨_, _, rfl, World.ownsRow_nil _ _ _ _, by go_grown⟩

end Go.Proofs.YtjaoggkpnjkkpaaDoor
