/- What the law of undoing draws. No condition. -/
import Derived.Test.YtjaoggkpnjkkpaaDraw4
import Derived.Test.YtjaoggkpnjkkpaaDraw2c
import Derived.Test.YtjaoggkpnjkkpaaBlk
namespace Go.Proofs.Ytjaoggkpnjkkpaa
open Go.RowKit Go.Maps
set_option linter.unusedVariables false
set_option linter.unusedSimpArgs false

set_option maxRecDepth 100000 in
set_option maxHeartbeats 1000000 in
theorem drawExecTxnO_any (a : Option Addr) (cap : Nat) (bs : List Int) (w : World) (h : Row .u8 w a bs) (hu : ∀ i, 0 ≤ bs.getD i 0 ∧ bs.getD i 0 ≤ 255) (hl : bs.length ≤ 1048576) :
    Calls Try.prog 45 #[.slice a bs.length cap] w fun e w' => ∃ (b : Option Addr) (k : Nat) (xs : List ItemD) (i s q : Int) (ta : Option Addr) (tc : Nat) (zs : List ActD), e = .returned (.tuple #[.slice b xs.length k, .agg #[.int .i64 i, .int .i64 s, .int .i64 q, .slice ta zs.length tc]]) ∧ xs.length ≤ 9 ∧ Nice b xs.length k ∧ zs.length ≤ 5 ∧ w'.ownsRow w.heap.size 94 2 (.slice b xs.length k) xs.length (itemCells xs) ∧ w'.ownsRow w.heap.size 104 3 (.slice ta zs.length tc) zs.length (actCells zs) ∧ Below w.heap.size w w' := by
  have B0 := Blk.new w 27 #[.int .i64 0, .int .i64 0, .int .i64 0, .slice none 0 0]
  have hb0 : Below w.heap.size w (w.alloc (.cells #[.int .i64 0, .int .i64 0, .int .i64 0, .slice none 0 0] 27)) := by go_grown
  replace h := h.below hb0
  go_enter Try.func45, Try.ntmps45
  go_wp2_with fail
  generalize w.alloc (.cells #[.int .i64 0, .int .i64 0, .int .i64 0, .slice none 0 0] 27) = W1 at B0 hb0 h
  have hlt0 := B0.lt
  refine (source_any W1.heap.size a cap bs W1 (Nat.le_refl _) hl hu h).mono ?_
  rintro e w2 ⟨rfl, hS, hb⟩
  clear h hu
  have hlt2 := hS.lt
  go_wp2_with fail
  refine (l3Bent_any W1.heap.size W1.heap.size 0 w2 hS (by omega)).mono ?_
  rintro e w3 ⟨b, k, xs, rfl, hxl, ho, hSn, hgn⟩
  have hnb : some W1.heap.size ≠ Value.ownBlock (.slice b xs.length k) := own_not3 ho (Or.inl hlt2.2)
  have hN := nice_own ho
  replace hb := below_of_src hb hgn (Nat.le_refl _)
  replace hS := hSn
  have hs23 := hgn.size
  clear hgn hSn
  have hlt3 := hS.lt
  go_wp2_with fail
  refine (l2Bent_any W1.heap.size W1.heap.size 12 w3 hS (by omega)).mono ?_
  rintro e w4 ⟨i, s, q, ta, tc, zs, rfl, hzl, hoz, hSn, hgn⟩
  replace ho := ho.kept hgn (Or.inr (fun e => hnb e.symm))
  replace hb := below_of_src hb hgn (Nat.le_refl _)
  replace B0 := B0.below hb
  replace hb0 := hb0.trans (hb.mono hb0.size)
  clear hgn hSn hS hb hnb
  have p0 := B0.cell 0 _ rfl
  have p1 := B0.cell 1 _ rfl
  have p2 := B0.cell 2 _ rfl
  have p3 := B0.cell 3 _ rfl
  have f0 := B0.frozen 0
  have f1 := B0.frozen 1
  have f2 := B0.frozen 2
  have f3 := B0.frozen 3
  clear B0
  go_wp2
  refine bodyPost_ret (v := .tuple #[.slice b xs.length k, .agg #[.int .i64 i, .int .i64 s, .int .i64 q, .slice ta zs.length tc]]) (by simp [results, Try.results45, go_sem, p0, p1, p2, p3]) rfl ?_
  refine ⟨b, k, xs, i, s, q, ta, tc, zs, rfl, hxl, hN, hzl, ?_, ?_, ?_⟩
  · refine own_base (base := w2.heap.size) ?_ (by omega)
    repeat' (refine ownsRow_setCell_below ?_ (by dsimp only; omega) _)
    exact ho
  · refine own_base (base := w3.heap.size) ?_ (by omega)
    repeat' (refine ownsRow_setCell_below ?_ (by dsimp only; omega) _)
    exact hoz
  · repeat' (refine Below.setCell ?_ (by dsimp only; omega) _)
    exact hb0

set_option maxRecDepth 100000 in
set_option maxHeartbeats 1000000 in
theorem drawDoUndo_any (a : Option Addr) (cap : Nat) (bs : List Int) (w : World) (h : Row .u8 w a bs) (hu : ∀ i, 0 ≤ bs.getD i 0 ∧ bs.getD i 0 ≤ 255) (hl : bs.length ≤ 1048576) :
    Calls Try.prog 9 #[.slice a bs.length cap] w fun e w' => ∃ (b : Option Addr) (k : Nat) (xs : List ItemD) (i s q : Int) (ta : Option Addr) (tc : Nat) (zs : List ActD), e = .returned (.tuple #[.slice b xs.length k, .agg #[.int .i64 i, .int .i64 s, .int .i64 q, .slice ta zs.length tc]]) ∧ xs.length ≤ 9 ∧ Nice b xs.length k ∧ zs.length ≤ 5 ∧ ItemRow w' b xs ∧ ActRow w' ta zs ∧ Below w.heap.size w w' := by
  have B0 := Blk.new w 27 #[.int .i64 0, .int .i64 0, .int .i64 0, .slice none 0 0]
  have hb0 : Below w.heap.size w (w.alloc (.cells #[.int .i64 0, .int .i64 0, .int .i64 0, .slice none 0 0] 27)) := by go_grown
  replace h := h.below hb0
  go_enter Try.func9, Try.ntmps9
  go_wp2_with fail
  generalize w.alloc (.cells #[.int .i64 0, .int .i64 0, .int .i64 0, .slice none 0 0] 27) = W1 at B0 hb0 h
  have hlt0 := B0.lt
  refine (drawExecTxnO_any a cap bs W1 h hu hl).mono ?_
  rintro e w4 ⟨b, k, xs, i, s, q, ta, tc, zs, rfl, hxl, hN, hzl, ho, hoz, hb⟩
  replace B0 := B0.below hb
  replace hb0 := hb0.trans (hb.mono hb0.size)
  clear hb
  have p0 := B0.cell 0 _ rfl
  have p1 := B0.cell 1 _ rfl
  have p2 := B0.cell 2 _ rfl
  have p3 := B0.cell 3 _ rfl
  have f0 := B0.frozen 0
  have f1 := B0.frozen 1
  have f2 := B0.frozen 2
  have f3 := B0.frozen 3
  clear B0
  go_wp2
  refine bodyPost_ret (v := .tuple #[.slice b xs.length k, .agg #[.int .i64 i, .int .i64 s, .int .i64 q, .slice ta zs.length tc]]) (by simp [results, Try.results9, go_sem, p0, p1, p2, p3]) rfl ?_
  refine ⟨b, k, xs, i, s, q, ta, tc, zs, rfl, hxl, hN, hzl, ?_, ?_, ?_⟩
  · refine Lies.own (base := W1.heap.size) (n := xs.length) (c := k) (e := 94) (size := 2) ?_
    repeat' (refine ownsRow_setCell_below ?_ (by dsimp only; omega) _)
    exact ho
  · refine Lies.own (base := W1.heap.size) (n := zs.length) (c := tc) (e := 104) (size := 3) ?_
    repeat' (refine ownsRow_setCell_below ?_ (by dsimp only; omega) _)
    exact hoz
  · repeat' (refine Below.setCell ?_ (by dsimp only; omega) _)
    exact hb0

set_option maxRecDepth 100000 in
set_option maxHeartbeats 1000000 in
theorem drawTakeBack_any (a : Option Addr) (cap : Nat) (bs : List Int) (w : World) (h : Row .u8 w a bs) (hu : ∀ i, 0 ≤ bs.getD i 0 ∧ bs.getD i 0 ≤ 255) (hl : bs.length ≤ 1048576) :
    Calls Try.prog 11 #[.slice a bs.length cap] w fun e w' => ∃ (b : Option Addr) (k : Nat) (xs : List ItemD) (ua : Option Addr) (uc : Nat) (us : List UndoD), e = .returned (.tuple #[.slice b xs.length k, .slice ua us.length uc]) ∧ xs.length ≤ 9 ∧ Nice b xs.length k ∧ us.length ≤ 5 ∧ ItemRow w' b xs ∧ UndoRow w' ua us ∧ Below w.heap.size w w' := by
  go_enter Try.func11, Try.ntmps11
  go_wp2_with fail
  refine (source_any w.heap.size a cap bs w (Nat.le_refl _) hl hu h).mono ?_
  rintro e w2 ⟨rfl, hS, hb⟩
  have hlt2 := hS.lt
  go_wp2_with fail
  refine (l3Bent_any w.heap.size w.heap.size 0 w2 hS (by omega)).mono ?_
  rintro e w3 ⟨b, k, xs, rfl, hxl, ho, hSn, hgn⟩
  have hnb : some w.heap.size ≠ Value.ownBlock (.slice b xs.length k) := own_not3 ho (Or.inl hlt2.2)
  have hN := nice_own ho
  replace hb := below_of_src hb hgn (Nat.le_refl _)
  replace hS := hSn
  clear hgn hSn
  go_wp2_with fail
  refine (l4Bent_any w.heap.size w.heap.size 12 w3 hS (by omega)).mono ?_
  rintro e w4 ⟨ua, uc, us, rfl, hul, hoz, hSn, hgn⟩
  replace ho := ho.kept hgn (Or.inr (fun e => hnb e.symm))
  replace hb := below_of_src hb hgn (Nat.le_refl _)
  clear hgn hSn hS hnb
  go_wp2
  refine bodyPost_ret (v := .tuple #[.slice b xs.length k, .slice ua us.length uc]) (by simp [results, Try.results11, go_sem]) rfl ?_
  exact ⟨b, k, xs, ua, uc, us, rfl, hxl, hN, hul, Lies.own ho, Lies.own hoz, hb⟩

/-- v is a slice of lists of undos, its own memory, as is that of each of them. -/
def UssRow (base : Nat) (w : World) (v : Value) (ps : List USP) : Prop :=
  w.ownsRow base 30 1 v ps.length (usCells ps) ∧ ∀ p ∈ ps, w.ownsRow base 96 3 p.sl p.d.length (undoCells p.d)

theorem UssRow.at {base : Nat} {w : World} {v : Value} {ps : List USP} (h : UssRow base w v ps) : UssAt w v (ps.map USP.d) := by
  obtain ⟨a, c, rfl⟩ := own_shape h.1
  exact ⟨a, c, ps, by simp, rfl, Lies.own h.1, fun p hp => Lies.own (h.2 p hp)⟩

theorem UssRow.src {base b : Nat} {w w' : World} {v : Value} {ps : List USP} (h : UssRow base w v ps) (hb : b < base) (hg : w.grownBy w' (some b)) : UssRow base w' v ps :=
  ⟨h.1.kept hg (Or.inr (fun e => own_not3 h.1 (b := b) (Or.inl hb) e.symm)), fun p hp => (h.2 p hp).kept hg (Or.inr (fun e => own_not3 (h.2 p hp) (b := b) (Or.inl hb) e.symm))⟩

theorem UssRow.below {base : Nat} {w w' : World} {v : Value} {ps : List USP} (h : UssRow base w v ps) (hb : Below w.heap.size w w') : UssRow base w' v ps := ⟨own_below h.1 hb, fun p hp => own_below (h.2 p hp) hb⟩

theorem own_types {w : World} {base base' e e' s s' n n' : Nat} {v v' : Value} {xs xs' : List Value} (h : w.ownsRow base e s v n xs) (h' : w.ownsRow base' e' s' v' n' xs') (hne : e ≠ e') : v.ownBlock = none ∨ v.ownBlock ≠ v'.ownBlock := by
  rcases h.2 with ⟨rfl, _⟩ | ⟨g, cap, cur, rfl, _, hh, _⟩
  · exact Or.inl rfl
  · right
    intro e2
    rcases h'.2 with ⟨rfl, _⟩ | ⟨g', cap', cur', rfl, _, hh', _⟩
    · simp [Value.ownBlock] at e2
    · simp only [Value.ownBlock, Option.some.injEq] at e2
      subst e2
      rw [hh] at hh'
      simp only [Option.some.injEq, Obj.cells.injEq] at hh'
      exact hne hh'.2.1

theorem sumU_le {ds : List (List UndoD)} (h : ∀ d ∈ ds, d.length ≤ 5) : sumU ds ≤ 5 * ds.length := by
  induction ds with
  | nil => simp [sumU]
  | cons x r ih =>
    have := ih (fun d hd => h d (by simp [hd]))
    have hx := h x (by simp)
    simp only [sumU, List.map_cons, List.sum_cons, List.length_cons] at this ⊢
    omega

theorem made21 : (madeCells #[Value.slice none 0 0] 21).toList = usCells (List.replicate 21 uspNo) := by kernel_rfl

set_option maxRecDepth 100000 in
set_option maxHeartbeats 4000000 in
theorem drawTakeAll_any (a : Option Addr) (cap : Nat) (bs : List Int) (w : World) (h : Row .u8 w a bs) (hu : ∀ i, 0 ≤ bs.getD i 0 ∧ bs.getD i 0 ≤ 255) (hl : bs.length ≤ 1048576) :
    Calls Try.prog 13 #[.slice a bs.length cap] w fun e w' => ∃ (b : Option Addr) (k : Nat) (xs : List ItemD) (v : Value) (uss : List (List UndoD)), e = .returned (.tuple #[.slice b xs.length k, v]) ∧ xs.length ≤ 9 ∧ Nice b xs.length k ∧ uss.length + sumU uss ≤ 1048576 ∧ ItemRow w' b xs ∧ UssAt w' v uss ∧ Below w.heap.size w w' := by
  obtain ⟨i0, hi, hz0, hz1, hz2⟩ := info_parts infoUndos
  go_enter Try.func13, Try.ntmps13
  go_wp2_with fail
  refine (source_any w.heap.size a cap bs w (Nat.le_refl _) hl hu h).mono ?_
  rintro e w2 ⟨rfl, hS, hb⟩
  clear h hu
  have hlt2 := hS.lt
  go_wp2_with fail
  refine (l3Bent_any w.heap.size w.heap.size 0 w2 hS (by omega)).mono ?_
  rintro e w3 ⟨b, k, xs, rfl, hxl, ho, hSn, hgn⟩
  have hnb : some w.heap.size ≠ Value.ownBlock (.slice b xs.length k) := own_not3 ho (Or.inl hlt2.2)
  have hN := nice_own ho
  replace hb := below_of_src hb hgn (Nat.le_refl _)
  have hs3 := hgn.size
  clear hgn hS
  have hbE : Below w3.heap.size w3 (w3.alloc (.cells #[] 30)) := by go_grown
  have hoE : (w3.alloc (.cells #[] 30)).ownsRow w3.heap.size 30 1 (.slice (some ⟨w3.heap.size, 0, none⟩) 0 0) 0 [] := World.ownsRow_lit w3 #[] 0 (Nat.le_refl _) (by decide) rfl
  replace ho := own_below ho hbE
  replace hSn := hSn.below hbE
  replace hb := hb.trans (hbE.mono hb.size)
  have hoE2 : UssRow w2.heap.size (w3.alloc (.cells #[] 30)) (.slice (some ⟨w3.heap.size, 0, none⟩) 0 0) [] := ⟨own_base hoE hs3, fun p hp => by simp at hp⟩
  have hsW := hbE.size
  go_wp2_with fail
  generalize w3.alloc (.cells #[] 30) = W3 at ho hSn hb hoE2 hbE hoE hsW
  clear hbE hoE
  refine (next_any w.heap.size w.heap.size 12 4 W3 hSn (by omega) (by omega)).mono ?_
  rintro e w4 ⟨r, rfl, hr, hS4, hg4⟩
  obtain ⟨j0, rfl⟩ := Int.eq_ofNat_of_zero_le hr.1
  have hj0 : j0 ≤ 3 := by have := hr.2.1 (by omega); omega
  replace ho := ho.kept hg4 (Or.inr (fun e => hnb e.symm))
  replace hoE2 := hoE2.src hlt2.2 hg4
  have hs4 : w2.heap.size ≤ w4.heap.size := Nat.le_trans (Nat.le_trans hs3 hsW) hg4.size
  replace hb := below_of_src hb hg4 (Nat.le_refl _)
  clear hr hg4 hSn
  go_wp2
  go_loopw [6, 7] (fun v c wr => ∃ (j q : Nat) (ps : List USP), c = .int .i64 j ∧ j + q ≤ 3 ∧ ps.length ≤ q ∧ Hid (∀ p ∈ ps, p.d.length ≤ 5) ∧ UssRow w2.heap.size wr v ps ∧ wr.ownsRow w2.heap.size 94 2 (.slice b xs.length k) xs.length (itemCells xs) ∧ Src w.heap.size wr w.heap.size (13 + 13 * q) ∧ w2.heap.size ≤ wr.heap.size ∧ Below w.heap.size w wr) (fun _ c _ => (intOf c).toNat)
  case atStart => exact ⟨j0, 0, [], rfl, by omega, by simp, fun p hp => by simp at hp, hoE2, ho, hS4, hs4, hb⟩
  case round =>
    clear hoE2 ho hS4 hb hs4
    obtain ⟨j, q, ps, rfl, hjq, hpl, HP, hU, ho, hSr, hsr, hb⟩ := hrel
    obtain ⟨a1, c1, rfl⟩ := own_shape hU.1
    by_cases hpos : 0 < j
    · go_wp2_with fail
      refine (l4Bent_any w.heap.size w.heap.size (13 + 13 * q) wr hSr (by omega)).mono ?_
      rintro e w5 ⟨ua, uc, us, rfl, hul, hoz, hS5, hg5⟩
      replace ho := ho.kept hg5 (Or.inr (fun e => hnb e.symm))
      replace hU := hU.src hlt2.2 hg5
      replace hb := below_of_src hb hg5 (Nat.le_refl _)
      have hs5 := hg5.size
      replace hoz := own_base (base' := w2.heap.size) hoz hsr
      clear hg5 hSr
      have hbA : Below w5.heap.size w5 (w5.alloc (.cells #[.slice ua us.length uc] 30)) := by go_grown
      have hUA := hU.below hbA
      have hoA := own_below ho hbA
      have hozA := own_below hoz hbA
      have hSA := hS5.below hbA
      have hlt5 := hS5.lt
      go_wp2_with (at_builtin; refine wpList_append_own _ rfl _ _ 39 rfl w2.heap.size 30 i0 (.slice none 0 0) 1 24 Try.underlying39 hi hz0 hz1 hz2 rfl (by decide) _ ps.length (usCells ps) rfl hUA.1 ⟨w5.heap.size, 0, none⟩ 1 1 [.slice ua us.length uc] rfl rfl ?c1 ?c2 ?c3 ?c4 ?c5 ?_)
      all_goals try (case c1 => intro j u hj; match j, hj with | 0, hj => simp at hj; subst hj; simp [Addr.add])
      all_goals try (case c2 => first | rfl | (intro u hu; simp at hu; subst hu; rfl))
      all_goals try (case c3 => unfold maxLen; omega)
      all_goals try (case c4 => omega)
      all_goals try (case c5 => first | omega | (simp; omega))
      intro v' w6 hown hgrow _
      obtain ⟨a2, c2, rfl⟩ := own_shape hown
      have hnU := own_not3 hUA.1 (b := w.heap.size) (Or.inl hlt2.2)
      have hS6 := hSA.grown hgrow hnU (fun k hk => by have := (hUA.1.lt k hk).1; omega)
      have hB6 : Below w.heap.size w w6 := (hb.trans (hbA.mono hb.size)).grown hgrow (by have := hb.size; simp; omega) (fun k hk => by have := (hUA.1.lt k hk).1; omega)
      have ho6 := hoA.kept hgrow (own_types hoA hUA.1 (by decide))
      have hU6 : UssRow w2.heap.size w6 (.slice a2 (ps.length + 1) c2) (ps ++ [⟨us, ua, uc⟩]) := by
        refine ⟨by simpa [usCells, USP.sl] using hown, fun p hp => ?_⟩
        rcases List.mem_append.1 hp with hp | hp
        · exact (hUA.2 p hp).kept hgrow (own_types (hUA.2 p hp) hUA.1 (by decide))
        · simp only [List.mem_singleton] at hp
          subst hp
          exact hozA.kept hgrow (own_types hozA hUA.1 (by decide))
      have HP6 : Hid (∀ p ∈ ps ++ [(⟨us, ua, uc⟩ : USP)], p.d.length ≤ 5) := by
        intro p hp
        rcases List.mem_append.1 hp with hp | hp
        · exact HP.out p hp
        · simp only [List.mem_singleton] at hp
          subst hp
          exact hul
      have hs6 : w2.heap.size ≤ w6.heap.size := by have := hgrow.size; simp at this; omega
      have RR : Hid (_ ∧ _ ∧ _ ∧ _) := ⟨hU6, ho6, hS6, hB6⟩
      clear hU6 ho6 hS6 hB6 hgrow hown hUA hoA hozA hSA hU ho hoz hS5 hb hbA
      go_wp2
      go_roundw
      case rel => exact ⟨j - 1, q + 1, ps ++ [⟨us, ua, uc⟩], by go_num, by omega, by simp; omega, HP6, by simpa using RR.out.1, RR.out.2.1, RR.out.2.2.1.mono (by omega), hs6, RR.out.2.2.2⟩
      case measure => simp [intOf]; omega
    · go_wp2_with fail
      refine (chance_any w.heap.size w.heap.size (13 + 13 * q) 20 wr hSr (by omega) (by omega)).mono ?_
      rintro e w5 ⟨t, rfl, hS5, hg5⟩
      replace ho := ho.kept hg5 (Or.inr (fun e => hnb e.symm))
      replace hU := hU.src hlt2.2 hg5
      replace hb := below_of_src hb hg5 (Nat.le_refl _)
      clear hg5 hSr hS5
      cases t
      · go_wp2
        refine bodyPost_ret (v := .tuple #[.slice b xs.length k, .slice a1 ps.length c1]) (by simp [results, Try.results13, go_sem]) rfl ?_
        refine ⟨b, k, xs, _, ps.map USP.d, rfl, hxl, hN, ?_, Lies.own ho, hU.at, hb⟩
        have := sumU_le (ds := ps.map USP.d) (fun d hd => by obtain ⟨p, hp, rfl⟩ := List.mem_map.1 hd; exact HP.out p hp)
        simp at this ⊢
        omega
      · have hby : i0.bytes * 21 ≤ 281474976710656 := by rw [hz2]; omega
        have hmx : 21 ≤ maxLen := by unfold maxLen; omega
        go_wp2_with (at_make; refine wpList_make_full _ rfl _ _ 39 rfl w5.heap.size 30 i0 (.slice none 0 0) 1 Try.underlying39 hi hz0 hz1 _ _ _ _ 21 rfl rfl rfl rfl hby hmx (Nat.le_refl _) ?_)
        intro w6 hown hgrow
        have hb6 : Below w5.heap.size w5 w6 := (Below.refl _ _).grown hgrow (Nat.le_refl _) (by simp)
        have hU6 : UssRow w5.heap.size w6 (.slice (some ⟨w5.heap.size, 0, none⟩) 21 21) (List.replicate 21 uspNo) := ⟨by rw [← made21]; exact hown, fun p hp => by rw [List.eq_of_mem_replicate hp]; exact World.ownsRow_nil _ _ _ _⟩
        replace ho := own_below ho hb6
        replace hb := hb.trans (hb6.mono hb.size)
        have RR : Hid (_ ∧ _ ∧ _) := ⟨hU6, ho, hb⟩
        clear hU6 ho hb hown hgrow hb6 hU
        go_wp2
        refine bodyPost_ret (v := .tuple #[.slice b xs.length k, .slice (some ⟨w5.heap.size, 0, none⟩) 21 21]) (by simp [results, Try.results13, go_sem]) rfl ?_
        refine ⟨b, k, xs, _, (List.replicate 21 uspNo).map USP.d, rfl, hxl, hN, by decide, Lies.own RR.out.2.1, RR.out.1.at, RR.out.2.2⟩

end Go.Proofs.Ytjaoggkpnjkkpaa
