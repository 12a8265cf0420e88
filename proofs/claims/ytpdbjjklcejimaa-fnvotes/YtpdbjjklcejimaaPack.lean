/- What PackNumbers of the program and of its model do at a list of int64 that can be read: the same bytes, the same code. -/
import Derived.Test.YtpdbjjklcejimaaNum
namespace Go.Proofs.Ytpdbjjklcejimaa
open Go.RowKit
set_option linter.unusedVariables false
set_option linter.unusedSimpArgs false

theorem own_some {w : World} {base e n k : Nat} {a : Option Addr} {xs : List Value} (h : w.ownsRow base e 1 (.slice a n k) n xs) (hn : 0 < n) : ∃ g, a = some ⟨g, 0, none⟩ := by
  rcases h.2 with ⟨he, h0⟩ | ⟨g, cap, cur, he, r⟩
  · omega
  · simp only [Value.slice.injEq] at he
    exact ⟨g, he.1⟩

/-- How many, and the bytes of the first k. -/
def packL (zs : List Int) (k : Nat) : List Int := (zs.length : Int) :: (zs.take k).flatMap put2
theorem packL_succ (zs : List Int) (k : Nat) (h : k < zs.length) : packL zs (k + 1) = packL zs k ++ put2 (zs.getD k 0) := by
  have e : zs.getD k 0 = zs[k] := by simp [List.getD, h]
  rw [packL, packL, List.take_succ_eq_append_getElem h, e]
  simp only [List.flatMap_append, List.flatMap_cons, List.flatMap_nil, List.append_nil, List.cons_append]
theorem packL_length (zs : List Int) (k : Nat) (h : k ≤ zs.length) : (packL zs k).length = 1 + 2 * k := by
  induction k with
  | zero => simp [packL]
  | succ k ih =>
    rw [packL_succ zs k h, List.length_append, ih (by omega)]
    simp [put2]; omega
def packC (zs : List Int) : Int := if 40 < zs.length then 2 else if zs.all shortB then 0 else 3
def packR (zs : List Int) : List Int := if 40 < zs.length then [] else if zs.all shortB then packL zs zs.length else []
theorem pack_many {zs : List Int} (h : 40 < zs.length) : packC zs = 2 ∧ packR zs = [] := by simp [packC, packR, h]
theorem pack_ok {zs : List Int} (h : ¬ 40 < zs.length) (ha : ∀ j, j < zs.length → shortB (zs.getD j 0) = true) : packC zs = 0 ∧ packR zs = packL zs zs.length := by
  have e : zs.all shortB = true := by
    rw [List.all_eq_true]
    intro x hx
    obtain ⟨j, hj, rfl⟩ := List.mem_iff_getElem.1 hx
    have := ha j hj
    simpa [List.getD, hj] using this
  simp [packC, packR, h, e]
theorem pack_bad {zs : List Int} (h : ¬ 40 < zs.length) (j : Nat) (hj : j < zs.length) (hb : shortB (zs.getD j 0) = false) : packC zs = 3 ∧ packR zs = [] := by
  have e : zs.all shortB = false := by
    rw [List.all_eq_false]
    refine ⟨zs[j], List.getElem_mem hj, ?_⟩
    simpa [List.getD, hj] using hb
  simp [packC, packR, h, e]
theorem packR_le (zs : List Int) : (packR zs).length ≤ 81 := by
  unfold packR
  split
  · simp
  · split
    · rw [packL_length _ _ (Nat.le_refl _)]; omega
    · simp

set_option maxHeartbeats 2000000 in
theorem l1Pack_any (a : Option Addr) (cap : Nat) (zs : List Int) (w : World) (h : Row .i64 w a zs) (hl : zs.length ≤ 40) (ha : ∀ j, j < zs.length → shortB (zs.getD j 0) = true) :
    Calls Try.prog 50 #[.slice a zs.length cap] w fun e w' => ∃ b c, e = .returned (.slice b (packL zs zs.length).length c) ∧ w'.ownsRow w.heap.size 5 1 (.slice b (packL zs zs.length).length c) (packL zs zs.length).length ((packL zs zs.length).map (Value.int .u8)) ∧ Below w.heap.size w w' := by
  obtain ⟨i0, hi, hz0, hz1, hz2⟩ := info_parts infoU8
  have HA : Hid (∀ j, j < zs.length → shortB (zs.getD j 0) = true) := ha
  clear ha
  go_enter Try.func50, Try.ntmps50
  go_wp2
  go_loopw [3, 4] (fun v i wr => ∃ k : Nat, k ≤ zs.length ∧ i = .int .i64 k ∧ wr.ownsRow w.heap.size 5 1 v (packL zs k).length ((packL zs k).map (Value.int .u8)) ∧ Below w.heap.size w wr) (fun _ i _ => zs.length - (intOf i).toNat)
  case atStart => exact ⟨0, Nat.zero_le _, rfl, World.ownsRow_lit w #[_] 1 (Nat.le_refl _) (by decide) rfl, by go_grown⟩
  case round =>
    obtain ⟨k, hk, rfl, ho, hb⟩ := hrel
    have hpl : (packL zs k).length ≤ 81 := by rw [packL_length zs k hk]; omega
    have hsz := hb.size
    by_cases hlt : k < zs.length
    · have hR : Row .i64 wr a zs := h.below hb
      obtain ⟨b, off, rfl, hbs, hc⟩ := hR k hlt
      have hsh := HA.out k hlt
      have hps : Hid (packL zs (k + 1) = packL zs k ++ put2 (zs.getD k 0)) := packL_succ zs k hlt
      generalize zs.getD k 0 = z at hc hsh hps
      go_wp2_with (first | (go_at_call 58; refine (l1Put_any z _ hsh).mono ?_; rintro e w' ⟨a2, k2, rfl, ho2, hb2⟩; obtain ⟨g2, rfl⟩ := own_some ho2 (by decide)) | (at_builtin; refine wpList_append_own _ rfl _ _ 22 rfl w.heap.size 5 i0 (.int .u8 0) 1 1 Try.underlying22 hi hz0 hz1 hz2 rfl (by decide) _ (packL zs k).length ((packL zs k).map (Value.int .u8)) rfl (own_below ho hb2) ⟨g2, 0, none⟩ 2 k2 ((put2 z).map (Value.int .u8)) rfl rfl ?c1 ?c2 ?c3 ?c4 ?c5 ?_))
      case c1 => exact ho2.cells rfl
      case c2 => exact ints_oneCell _ _
      case c3 => unfold maxLen; omega
      case c4 => omega
      case c5 => have := hb2.size; omega
      intro v' w1 hown hgrow _
      have R : Hid (w1.ownsRow w.heap.size 5 1 v' (packL zs (k + 1)).length ((packL zs (k + 1)).map (Value.int .u8)) ∧ Below w.heap.size w w1) := by
        rw [hps.out]
        exact ⟨by simpa [put2] using hown, (hb.trans (hb2.mono hsz)).grown hgrow (by have := hb2.size; omega) (fun j hj => (ho.lt j hj).1)⟩
      clear hown hgrow ho ho2
      go_wp2
      go_roundw
      case rel => exact ⟨k + 1, by omega, by go_num, R.out.1, R.out.2⟩
      case measure => simp [intOf]; omega
    · have hkl : k = zs.length := by omega
      subst hkl
      obtain ⟨a1, c1, rfl⟩ := own_shape ho
      go_wp2
      go_ret
      exact ⟨_, _, rfl, ho, hb⟩

set_option maxHeartbeats 2000000 in
theorem implPack_any (a : Option Addr) (cap : Nat) (zs : List Int) (w : World) (h : Row .i64 w a zs) (hl : zs.length ≤ 1048576) :
    Calls Try.prog 39 #[.slice a zs.length cap] w fun e w' => ∃ b c, e = .returned (.agg #[.int .i64 (packC zs), .slice b (packR zs).length c]) ∧
      w'.ownsRow w.heap.size 5 1 (.slice b (packR zs).length c) (packR zs).length ((packR zs).map (Value.int .u8)) ∧ Below w.heap.size w w' := by
  by_cases h40 : 40 < zs.length
  · obtain ⟨e1, e2⟩ := pack_many h40
    rw [e1, e2]
    clear e1 e2
    go_enter Try.func39, Try.ntmps39
    go_wp2
    exact bodyPost_ret (v := .agg #[.int .i64 2, .slice none 0 0]) (by simp [results, Try.results39, go_sem]) rfl ⟨_, _, rfl, World.ownsRow_nil _ _ _ _, by go_grown⟩
  · have hR0 : Row .i64 (w.alloc (.cells #[.int .i64 0, .slice none 0 0] 32)) a zs := h.below (by go_grown)
    go_enter Try.func39, Try.ntmps39
    go_wp2
    generalize hW : w.alloc (.cells #[.int .i64 0, .slice none 0 0] 32) = W at hR0
    have hs : w.heap.size < W.heap.size := by rw [← hW]; simp
    have hs1 : w.heap.size + 1 ≤ W.heap.size := hs
    have hs2 : W.heap.size ≤ w.heap.size + 1 := by rw [← hW]; simp
    go_loopw [3, 16] (fun v i wr => ∃ k : Nat, k ≤ zs.length ∧ i = .int .i64 k ∧ wr.ownsRow W.heap.size 5 1 v (packL zs k).length ((packL zs k).map (Value.int .u8)) ∧ Below W.heap.size W wr ∧ Hid (∀ j, j < k → shortB (zs.getD j 0) = true)) (fun _ i _ => zs.length - (intOf i).toNat)
    case atStart =>
      refine ⟨0, Nat.zero_le _, rfl, ?_, by go_grown, fun j hj => absurd hj (Nat.not_lt_zero _)⟩
      have hse : w.heap.size + 1 = W.heap.size := by omega
      have hon : (W.alloc (.cells #[.int .u8 (zs.length : Int)] 5)).ownsRow W.heap.size 5 1 (.slice (some ⟨W.heap.size, 0, none⟩) 1 1) 1 [.int .u8 (zs.length : Int)] := World.ownsRow_lit W #[_] 1 (Nat.le_refl _) (by decide) rfl
      simpa [packL, hse] using hon
    case round =>
      obtain ⟨k, hk, rfl, ho, hb, HA⟩ := hrel
      have hpl : (packL zs k).length ≤ 81 := by rw [packL_length zs k hk]; omega
      have hsz := hb.size
      obtain ⟨hc', hf'⟩ := bcell hb
      have hp1 : wr.cell? ⟨w.heap.size, 0, none⟩ = some (.int .i64 0) := by rw [hc' _ _ (by omega), ← hW]; simp
      have hp2 : wr.cell? ⟨w.heap.size, 1, none⟩ = some (.slice none 0 0) := by rw [hc' _ _ (by omega), ← hW]; simp
      have hq1 : wr.frozen? ⟨w.heap.size, 0, none⟩ = false := by rw [hf' _ _ (by omega), ← hW]; simp
      have hq2 : wr.frozen? ⟨w.heap.size, 1, none⟩ = false := by rw [hf' _ _ (by omega), ← hW]; simp
      clear hc' hf'
      obtain ⟨a1, c1, rfl⟩ := own_shape ho
      by_cases hlt : k < zs.length
      · obtain ⟨b, off, rfl, hbs, hc⟩ := (hR0.below hb) k hlt
        by_cases hsh : shortB (zs.getD k 0) = true
        · have HB : Hid (∀ j, j < k + 1 → shortB (zs.getD j 0) = true) := by
            intro j hj
            by_cases hjk : j = k
            · subst hjk; exact hsh
            · exact HA.out j (by omega)
          have hps : Hid (packL zs (k + 1) = packL zs k ++ put2 (zs.getD k 0)) := packL_succ zs k hlt
          generalize zs.getD k 0 = z at hc hsh hps
          go_wp2_with (first | (go_at_call 54; refine (isShort_any _ _).mono ?_; rintro e w' ⟨rfl, rfl⟩) | (go_at_call 40; refine (appendShort_any W.heap.size _ _ _ z _ ho (by omega) hsz).mono ?_; rintro e w' ⟨a2, k2, rfl, ho2, hg2⟩))
          go_roundw
          case rel =>
            refine ⟨k + 1, by omega, by go_num, ?_, hb.grown hg2 hsz (fun j hj => (ho.lt j hj).1), HB⟩
            rw [hps.out]
            simpa [put2] using ho2
          case measure => simp [intOf]; omega
        · have hsh' : shortB (zs.getD k 0) = false := by simpa using hsh
          obtain ⟨e1, e2⟩ := pack_bad h40 k hlt hsh'
          have E : Hid (packC zs = 3 ∧ packR zs = []) := ⟨e1, e2⟩
          clear e1 e2 hsh
          generalize zs.getD k 0 = z at hc hsh'
          go_wp2_with (first | (go_at_call 54; refine (isShort_any _ _).mono ?_; rintro e w' ⟨rfl, rfl⟩))
          subst hW
          obtain ⟨r1, r2⟩ := ret_box (World.ownsRow_nil _ _ 5 _) hb (.int .i64 3) (.slice none 0 0)
          refine bodyPost_ret (v := .agg #[.int .i64 3, .slice none 0 0]) (by simp [results, Try.results39, go_sem, hp1, hp2]) rfl ?_
          rw [E.out.1, E.out.2]
          exact ⟨_, _, rfl, r1, r2⟩
      · have hkl : k = zs.length := by omega
        subst hkl
        obtain ⟨e1, e2⟩ := pack_ok h40 HA.out
        have E : Hid (packC zs = 0 ∧ packR zs = packL zs zs.length) := ⟨e1, e2⟩
        clear e1 e2
        generalize packL zs zs.length = L at ho E hpl
        subst hW
        obtain ⟨r1, r2⟩ := ret_box ho hb (.int .i64 0) (.slice a1 L.length c1)
        go_wp2
        refine bodyPost_ret (v := .agg #[.int .i64 0, .slice a1 L.length c1]) (by simp [results, Try.results39, go_sem, hp1, hp2]) rfl ?_
        rw [E.out.1, E.out.2]
        exact ⟨_, _, rfl, r1, r2⟩

end Go.Proofs.Ytpdbjjklcejimaa
