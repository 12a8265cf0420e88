/- What the draws of lists of chapter 1 tell at whatever bytes: some bytes, some list of numbers, in their bounds; nothing that was there is written into. -/
import Derived.Test.YtbionobcbbmbjabDraw1
namespace Go.Proofs.Ytbionobcbbmbjab
open Go.RowKit
set_option linter.unusedVariables false
set_option linter.unusedSimpArgs false

theorem getD_of_mem {P : Int → Prop} {zs : List Int} (h : ∀ x ∈ zs, P x) (h0 : P 0) : ∀ i, P (zs.getD i 0) := by
  intro i
  by_cases hi : i < zs.length
  · have := h zs[i] (List.getElem_mem hi)
    simpa [List.getD, hi] using this
  · simpa [List.getD, List.getElem?_eq_none (show zs.length ≤ i by omega)] using h0

theorem mem_of_getD {P : Int → Prop} {zs : List Int} (h : ∀ i, P (zs.getD i 0)) : ∀ x ∈ zs, P x := by
  intro x hx
  obtain ⟨j, hj, rfl⟩ := List.mem_iff_getElem.1 hx
  have := h j
  simpa [List.getD, hj] using this

theorem put2_u8 (n : Int) : ∀ x ∈ put2 n, 0 ≤ x ∧ x ≤ 255 := by
  intro x hx
  simp only [put2, List.mem_cons, List.not_mem_nil, or_false] at hx
  omega

theorem packL_mem (zs : List Int) (k : Nat) (h : zs.length ≤ 255) : ∀ x ∈ packL zs k, 0 ≤ x ∧ x ≤ 255 := by
  intro x hx
  simp only [packL, List.mem_cons, List.mem_flatMap] at hx
  rcases hx with rfl | ⟨y, _, hx⟩
  · omega
  · exact put2_u8 y x hx

theorem packL_u8 (zs : List Int) (k : Nat) (h : zs.length ≤ 255) : ∀ i, 0 ≤ (packL zs k).getD i 0 ∧ (packL zs k).getD i 0 ≤ 255 := getD_of_mem (packL_mem zs k h) (by omega)

theorem Row.take {k : IntKind} {w : World} {a : Option Addr} {zs : List Int} (h : Row k w a zs) (j : Nat) : Row k w a (zs.take j) := by
  intro i hi
  simp at hi
  obtain ⟨b, off, e1, e2, e3⟩ := h i (by omega)
  refine ⟨b, off, e1, e2, ?_⟩
  rw [e3]
  simp [List.getD, List.getElem?_take, show i < j by omega]

set_option maxHeartbeats 2000000 in
theorem drawRead_any (a : Option Addr) (cap : Nat) (zs : List Int) (w : World) (h : Row .u8 w a zs) (hu : ∀ i, 0 ≤ zs.getD i 0 ∧ zs.getD i 0 ≤ 255) (hl : zs.length ≤ 1048576) :
    Calls Try.prog 9 #[.slice a zs.length cap] w fun e w' => ∃ (b : Option Addr) (k : Nat) (ys : List Int), e = .returned (.slice b ys.length k) ∧ ys.length ≤ 1000 ∧ (∀ i, 0 ≤ ys.getD i 0 ∧ ys.getD i 0 ≤ 255) ∧ Row .u8 w' b ys ∧ Below w.heap.size w w' := by
  go_enter Try.func9, Try.ntmps9
  go_wp2_with fail
  refine (source_any w.heap.size a cap zs w (Nat.le_refl _) hl hu h).mono ?_
  rintro e w1 ⟨rfl, hS, hb1⟩
  go_wp2_with fail
  refine (number_any w.heap.size w.heap.size 0 w1 hS (by omega)).mono ?_
  rintro e w2 ⟨r1, rfl, hr1, hS2, hg2⟩
  have b2 := below_of_src hb1 hg2 (Nat.le_refl _)
  clear hg2
  go_wp2_with fail
  refine (number_any w.heap.size w.heap.size 2 w2 hS2 (by omega)).mono ?_
  rintro e w3 ⟨r2, rfl, hr2, hS3, hg3⟩
  have b3 := below_of_src b2 hg3 (Nat.le_refl _)
  clear hg3 b2
  go_wp2_with fail
  have hlist : Row .i64 (w3.alloc (.cells #[.int .i64 r1, .int .i64 r2] 2)) (some ⟨w3.heap.size, 0, none⟩) [r1, r2] := Row.own (n := 2) (c := 2) (World.ownsRow_lit (base := w3.heap.size) w3 #[.int .i64 r1, .int .i64 r2] 2 (Nat.le_refl _) (by decide) rfl)
  have hall : ∀ j, j < [r1, r2].length → shortB ([r1, r2].getD j 0) = true := by
    intro j hj
    match j, hj with
    | 0, _ => exact hr1
    | 1, _ => exact hr2
  refine (l1Pack_any (some ⟨w3.heap.size, 0, none⟩) 2 [r1, r2] _ hlist (by simp) hall).mono ?_
  rintro e w4 ⟨a4, k4, rfl, o4, hb4⟩
  have hpl : 5 ≤ (packL [r1, r2] 2).length ∧ (packL [r1, r2] 2).length ≤ 5 := by rw [packL_length [r1, r2] 2 (by simp)]; omega
  have hpu := packL_mem [r1, r2] 2 (by simp)
  have hS4 := (hS3.below (w' := w3.alloc (.cells #[.int .i64 r1, .int .i64 r2] 2)) (by go_grown)).below hb4
  have b4 := (b3.alloc b3.size (.cells #[.int .i64 r1, .int .i64 r2] 2)).trans (hb4.mono (by have := b3.size; simp; omega))
  have hlt := hS3.lt
  have hnb : some w.heap.size ≠ Value.ownBlock _ := own_not o4 (Or.inl (by simp; omega))
  simp only [List.length_cons, List.length_nil] at o4 hnb ⊢
  generalize packL [r1, r2] 2 = ps at *
  obtain ⟨g, rfl⟩ := own_some o4 (by omega)
  have hgw : w.heap.size ≤ g := by have := (o4.lt g rfl).1; simp at this; omega
  clear hb4 b3 hlist hall
  go_wp2_with fail
  refine (next_any w.heap.size w.heap.size 4 4 w4 hS4 (by omega) (by omega)).mono ?_
  rintro e w5 ⟨r, rfl, hr, hS5, hg5⟩
  have b5 := below_of_src b4 hg5 (Nat.le_refl _)
  have o5 := o4.kept hg5 (Or.inr (fun e => hnb e.symm))
  clear hg5 b4 o4
  by_cases hr0 : r = 0
  · subst hr0
    go_wp2_with fail
    have hlt5 := hS5.lt
    refine (pick_any w.heap.size w.heap.size 5 w5.heap.size _ [1, 3, 41] _ (hS5.below (by go_grown)) (by omega) (World.ownsRow_lit w5 _ 3 (Nat.le_refl _) (by decide) rfl) (by simp) (by simp) (by simp [Value.ownBlock]; omega)).mono ?_
    rintro e w6 ⟨v, rfl, hmem, hS6, hg6⟩
    have b6 := below_of_src (b5.alloc b5.size _) hg6 (Nat.le_refl _)
    have o6 := (o5.alloc (.cells #[.int .i64 1, .int .i64 3, .int .i64 41] 2)).kept hg6 (Or.inr (fun e => hnb e.symm))
    have hv : 0 ≤ v ∧ v ≤ 255 := by simp at hmem; omega
    have hfz : w6.frozen? ⟨g, 0, none⟩ = false := o6.frozenAt 0
    obtain ⟨u, hcu⟩ : ∃ u, w6.cell? ⟨g, 0, none⟩ = some u := by
      rw [o6.cellAt 0 (by omega)]
      exact ⟨_, List.getElem?_eq_getElem (by simp; omega)⟩
    have hst := o6.stored 0 (.int .u8 v)
    rw [← List.map_set] at hst
    have R : Hid (Row .u8 (w6.setCell ⟨g, 0, none⟩ (.int .u8 v)) (some ⟨g, 0, none⟩) (ps.set 0 v) ∧ Below w.heap.size w (w6.setCell ⟨g, 0, none⟩ (.int .u8 v))) :=
      ⟨Row.own (n := ps.length) hst.1, b6.setCell hgw _⟩
    have hpu2 : ∀ x ∈ ps.set 0 v, 0 ≤ x ∧ x ≤ 255 := by
      intro x hx
      rcases List.mem_or_eq_of_mem_set hx with hx | rfl
      · exact hpu x hx
      · exact hv
    have HPU : Hid (∀ x ∈ ps.set 0 v, 0 ≤ x ∧ x ≤ 255) := hpu2
    clear hmem hg6 hst o6 hpu hpu2
    go_wp2
    go_ret
    refine ⟨some ⟨g, 0, none⟩, k4, ps.set 0 v, by simp, by simp; omega, getD_of_mem HPU.out (by omega), R.out.1, R.out.2⟩
  · by_cases hr1' : r = 1
    · subst hr1'
      have hcap : ps.length ≤ k4 := by
        rcases o5.2 with ⟨he, _⟩ | ⟨g', cap', cur, he, _, _, hc, _⟩
        · simp at he
        · simp only [Value.slice.injEq] at he
          omega
      go_wp2_with fail
      refine (next_any w.heap.size w.heap.size 5 5 w5 hS5 (by omega) (by omega)).mono ?_
      rintro e w6 ⟨q, rfl, hq, hS6, hg6⟩
      have b6 := below_of_src b5 hg6 (Nat.le_refl _)
      have o6 := o5.kept hg6 (Or.inr (fun e => hnb e.symm))
      have hq2 := hq.2.1 (by omega)
      obtain ⟨j, rfl⟩ := Int.eq_ofNat_of_zero_le hq.1
      have hj : j ≤ 4 := by omega
      have HPU : Hid (∀ x ∈ ps, 0 ≤ x ∧ x ≤ 255) := hpu
      clear hg6 hq hq2 hpu
      go_wp2
      go_ret
      have hmin : min j ps.length = j := by omega
      exact ⟨some ⟨g, 0, none⟩, k4, ps.take j, by simp [hmin], by simp; omega, getD_of_mem (fun x hx => HPU.out x (List.mem_of_mem_take hx)) (by omega), (Row.own o6).take j, b6⟩
    · have hr0' : (r == 0) = false := by simpa using hr0
      have hr1'' : (r == 1) = false := by simpa using hr1'
      clear hr hr0 hr1'
      have HPU : Hid (∀ x ∈ ps, 0 ≤ x ∧ x ≤ 255) := hpu
      clear hpu
      go_wp2
      go_ret
      exact ⟨_, _, ps, rfl, by omega, getD_of_mem HPU.out (by omega), Row.own o5, b5⟩

set_option maxHeartbeats 2000000 in
theorem drawPack_any (a : Option Addr) (cap : Nat) (zs : List Int) (w : World) (h : Row .u8 w a zs) (hu : ∀ i, 0 ≤ zs.getD i 0 ∧ zs.getD i 0 ≤ 255) (hl : zs.length ≤ 1048576) :
    Calls Try.prog 11 #[.slice a zs.length cap] w fun e w' => ∃ (b : Option Addr) (k : Nat) (ys : List Int), e = .returned (.slice b ys.length k) ∧ ys.length ≤ 1000 ∧ Row .i64 w' b ys ∧ Below w.heap.size w w' := by
  obtain ⟨i0, hi, hz0, hz1, hz2⟩ := info_parts infoI64
  go_enter Try.func11, Try.ntmps11
  go_wp2_with fail
  refine (source_any w.heap.size a cap zs w (Nat.le_refl _) hl hu h).mono ?_
  rintro e w1 ⟨rfl, hS, hb1⟩
  have hlt := hS.lt.2
  go_wp2_with fail
  have hon0 : (w1.alloc (.cells #[] 2)).ownsRow w1.heap.size 2 1 (.slice (some ⟨w1.heap.size, 0, none⟩) 0 0) 0 [] := World.ownsRow_lit w1 #[] 0 (Nat.le_refl _) (by decide) rfl
  refine (next_any w.heap.size w.heap.size 0 5 _ (hS.below (by go_grown)) (by omega) (by omega)).mono ?_
  rintro e w2 ⟨r, rfl, hr, hS2, hg2⟩
  have hr1 := hr.1
  have hr2 := hr.2.1 (by omega)
  have b2 := below_of_src (hb1.alloc hb1.size _) hg2 (Nat.le_refl _)
  have o2 := hon0.kept hg2 (Or.inr (by simp [Value.ownBlock]; omega))
  have hw12 : w1.heap.size ≤ w2.heap.size := by have := hg2.size; simp at this; omega
  clear hg2 hon0 hr
  go_wp2
  go_loopw [4, 5] (fun v c wr => ∃ (j : Int) (ys : List Int), c = .int .i64 j ∧ 0 ≤ j ∧ (ys.length : Int) + j ≤ 4 ∧ wr.ownsRow w1.heap.size 2 1 v ys.length (ys.map (Value.int .i64)) ∧ Src w.heap.size wr w.heap.size (1 + 2 * ys.length) ∧ Below w.heap.size w wr ∧ w1.heap.size ≤ wr.heap.size) (fun _ c _ => (intOf c).toNat)
  case atStart => exact ⟨r, [], rfl, by omega, by simp; omega, o2, hS2.mono (by simp), b2, hw12⟩
  case round =>
    obtain ⟨j, ys, rfl, hj, hyl, ho, hSr, hb, hw1⟩ := hrel
    have hsz := hb.size
    have hnb : some w.heap.size ≠ Value.ownBlock _ := own_not ho (Or.inl hlt)
    by_cases hpos : 0 < j
    · have hnx := number_any w.heap.size w.heap.size (1 + 2 * ys.length) wr hSr (by omega)
      go_wp2_with (first | (go_at_call 40; refine hnx.mono ?_; rintro e w3 ⟨q, rfl, hq, hS3, hg3⟩; have ho3 := ho.kept hg3 (Or.inr (fun e => hnb e.symm)); clear hnx) | (at_builtin; refine wpList_append_own _ rfl _ _ 25 rfl w1.heap.size 2 i0 (.int .i64 0) 1 8 Try.underlying25 hi hz0 hz1 hz2 rfl (by decide) _ ys.length (ys.map (Value.int .i64)) rfl (ho3.alloc _) ⟨_, 0, none⟩ 1 1 [.int .i64 q] rfl rfl ?c1 ?c2 ?c3 ?c4 ?c5 ?_))
      case c1 => exact cell_one_new _ _ _
      case c2 => intro u hu; simp at hu; subst hu; rfl
      case c3 => unfold maxLen; omega
      case c4 => omega
      case c5 => have := hg3.size; simp; omega
      intro v' w4 hown hgrow _
      have b3 := below_of_src hb hg3 (Nat.le_refl _)
      have hS4 : Src w.heap.size w4 w.heap.size (1 + 2 * ys.length + 2) := (hS3.below (w' := w3.alloc (.cells #[.int .i64 q] 2)) (by go_grown)).grown hgrow hnb (fun k hk => by have := (ho3.lt k hk).1; omega)
      have b4 : Below w.heap.size w w4 := (b3.alloc b3.size _).grown hgrow (by have := b3.size; simp; omega) (fun k hk => by have := (ho3.lt k hk).1; omega)
      have hw4 : w1.heap.size ≤ w4.heap.size := by have := hgrow.size; have := hg3.size; simp at *; omega
      have hon : w4.ownsRow w1.heap.size 2 1 v' (ys ++ [q]).length ((ys ++ [q]).map (Value.int .i64)) := by simpa using hown
      clear hown hgrow ho ho3 hg3
      go_wp2
      go_roundw
      case rel => exact ⟨j - 1, ys ++ [q], rfl, by omega, by simp; omega, hon, hS4.mono (by simp; omega), b4, hw4⟩
      case measure => simp [intOf]; omega
    · have hys : ys.length ≤ 4 := by omega
      obtain ⟨a1, c1, rfl⟩ := own_shape ho
      have hnx := next_any w.heap.size w.heap.size (1 + 2 * ys.length) 8 wr hSr (by omega) (by omega)
      go_wp2_with fail
      refine hnx.mono ?_
      rintro e w3 ⟨s, rfl, hs, hS3, hg3⟩
      have b3 := below_of_src hb hg3 (Nat.le_refl _)
      have ho3 := ho.kept hg3 (Or.inr (fun e => hnb e.symm))
      have hw3 : w1.heap.size ≤ w3.heap.size := by have := hg3.size; omega
      clear hnx hg3 ho hs
      by_cases hs0 : s = 0
      · subst hs0
        go_wp2_with (first | (at_builtin; refine wpList_append_own _ rfl _ _ 25 rfl w1.heap.size 2 i0 (.int .i64 0) 1 8 Try.underlying25 hi hz0 hz1 hz2 rfl (by decide) _ ys.length (ys.map (Value.int .i64)) rfl (ho3.alloc _) ⟨_, 0, none⟩ 1 1 [.int .i64 32768] rfl rfl ?d1 ?d2 ?d3 ?d4 ?d5 ?_))
        case d1 => exact cell_one_new _ _ _
        case d2 => intro u hu; simp at hu; subst hu; rfl
        case d3 => unfold maxLen; omega
        case d4 => omega
        case d5 => simp; omega
        intro v' w4 hown hgrow _
        have b4 : Below w.heap.size w w4 := (b3.alloc b3.size _).grown hgrow (by have := b3.size; simp; omega) (fun k hk => by have := (ho3.lt k hk).1; omega)
        have hon : w4.ownsRow w1.heap.size 2 1 v' (ys ++ [32768]).length ((ys ++ [32768]).map (Value.int .i64)) := by simpa using hown
        obtain ⟨a4, c4, rfl⟩ := own_shape hon
        clear hown hgrow ho3
        go_wp2
        go_ret
        exact ⟨a4, c4, ys ++ [32768], rfl, by simp; omega, Row.own hon, b4⟩
      · by_cases hs1 : s = 1
        · subst hs1
          have hlt3 := hS3.lt
          go_wp2_with fail
          refine (pick_any w.heap.size w.heap.size (1 + 2 * ys.length + 1) w3.heap.size _ [40, 41] _ (hS3.below (by go_grown)) (by omega) (World.ownsRow_lit w3 _ 2 (Nat.le_refl _) (by decide) rfl) (by simp) (by simp) (by simp [Value.ownBlock]; omega)).mono ?_
          rintro e w4 ⟨v, rfl, hmem, hS4, hg4⟩
          have b4 := below_of_src (b3.alloc b3.size _) hg4 (Nat.le_refl _)
          have hv : 40 ≤ v ∧ v ≤ 41 := by simp at hmem; omega
          obtain ⟨m, rfl⟩ := Int.eq_ofNat_of_zero_le (show 0 ≤ v by omega)
          have hm : m ≤ 41 := by omega
          have hby : i0.bytes * m ≤ 281474976710656 := by rw [hz2]; omega
          have hmx : m ≤ maxLen := by unfold maxLen; omega
          clear hmem hg4 hv
          go_wp2_with (at_make; refine wpList_make_full _ rfl _ _ 25 rfl w4.heap.size 2 i0 (.int .i64 0) 1 Try.underlying25 hi hz0 hz1 _ _ _ _ m rfl rfl rfl rfl hby hmx (Nat.le_refl _) ?_)
          intro w5 hown hgrow
          have b5 : Below w.heap.size w w5 := b4.grown hgrow b4.size (by simp)
          have hon : w5.ownsRow w4.heap.size 2 1 (.slice (some ⟨w4.heap.size, 0, none⟩) m m) m ((List.replicate m (0 : Int)).map (Value.int .i64)) := by
            simpa [toList_madeCells_one] using hown
          clear hown hgrow
          go_wp2
          go_ret
          exact ⟨some ⟨w4.heap.size, 0, none⟩, m, List.replicate m 0, by simp, by simp; omega, Row.own hon, b5⟩
        · have hr0' : (s == 0) = false := by simpa using hs0
          have hr1'' : (s == 1) = false := by simpa using hs1
          clear hs0 hs1
          go_wp2
          go_ret
          exact ⟨a1, c1, ys, rfl, by omega, Row.own ho3, b3⟩

end Go.Proofs.Ytbionobcbbmbjab
