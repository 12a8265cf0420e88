/- What the draws of chapter 5 tell at whatever bytes: some list of at most three numbers, and some numbers; nothing that was there is written into. -/
import Derived.Test.YtonkbpnchcgmmaaDoorDraw
namespace Go.Proofs.YtonkbpnchcgmmaaDoor
open Go.RowKit
set_option linter.unusedVariables false
set_option linter.unusedSimpArgs false

theorem Src.grown {B b T : Nat} {w w' : World} {row : Option Nat} (h : Src B w b T) (hg : w.grownBy w' row) (hne : some b ≠ row) (hB : ∀ k, row = some k → B ≤ k) : Src B w' b T :=
  h.kept hg.size (hg.block b h.lt.2 hne) (fun k hk => hg.block k (by have := h.lt; omega) (fun e => by have := hB k e.symm; omega))
theorem below_of_src {w w' w1 : World} {b : Nat} (hb : Below w.heap.size w w1) (hg : w1.grownBy w' (some b)) (h : w.heap.size ≤ b) : Below w.heap.size w w' :=
  hb.grown hg hb.size (fun k hk => by simp at hk; omega)
theorem grown_low {w wr w' : World} {b : Nat} (hg : w.grownBy wr (some b)) (hb : Below w.heap.size wr w') : w.grownBy w' (some b) :=
  ⟨hb.os.trans hg.os, hb.tape.trans hg.tape, hb.output.trans hg.output, by have := hg.size; have := hb.size; omega, fun k hk hne => (hb.block k hk).trans (hg.block k hk hne)⟩
theorem own_some5 {w : World} {base e n k : Nat} {a : Option Addr} {xs : List Value} (h : w.ownsRow base e 1 (.slice a n k) n xs) (hn : 0 < n) : ∃ g, a = some ⟨g, 0, none⟩ := by
  rcases h.2 with ⟨he, h0⟩ | ⟨g, cap, cur, he, r⟩
  · omega
  · simp only [Value.slice.injEq] at he
    exact ⟨g, he.1⟩
/-- What is read lasts where only the source's block turns and it lies elsewhere. -/
theorem Row.src {w w' : World} {a : Option Addr} {zs : List Int} {b : Nat} (h : Row .i64 w a zs) (hg : w.grownBy w' (some b)) (hne : ∀ g off sp, a = some ⟨g, off, sp⟩ → g ≠ b) : Row .i64 w' a zs := by
  intro i hi
  obtain ⟨g, off, ha, hlt, hc⟩ := h i hi
  exact ⟨g, off, ha, Nat.lt_of_lt_of_le hlt hg.size, hg.cell hc (fun e => hne g off none ha (by simpa using e))⟩

set_option maxHeartbeats 1000000 in
theorem chance_any (B b T : Nat) (n : Int) (w : World) (hS : Src B w b T) (hT : T ≤ 1099511627776) (hn : n ≤ 1099511627776) :
    Calls Tryd.prog 41 #[.pointer (some ⟨b, 0, none⟩), .int .i64 n] w fun e w' => ∃ t : Bool, e = .returned (.bool t) ∧ Src B w' b (T + 1) ∧ w.grownBy w' (some b) := by
  go_enter Tryd.func41, Tryd.ntmps41
  go_wp2_with fail
  refine (next_any B b T n w hS hT hn).mono ?_
  rintro e w1 ⟨r, rfl, hr, hS1, hg⟩
  go_wp2
  go_ret
  exact ⟨_, rfl, hS1, hg⟩

theorem own_of_three {w : World} {base n k : Nat} {a : Option Addr} {ys : List Int} (h : w.ownsRow base 2 1 (.slice a n k) n (ys.map (Value.int .i64))) : ∀ g off sp, a = some ⟨g, off, sp⟩ → base ≤ g := by
  intro g off sp e
  subst e
  exact (h.lt g (by simp [Value.ownBlock])).1
theorem own_cap {w : World} {base n k : Nat} {a : Option Addr} {xs : List Value} (h : w.ownsRow base 2 1 (.slice a n k) n xs) : n ≤ k := by
  rcases h.2 with ⟨he, hn⟩ | ⟨g, cap, cur, he, _, _, hc, _⟩
  · omega
  · simp only [Value.slice.injEq] at he
    omega
theorem Row.tail {w : World} {g : Nat} {z : Int} {zs : List Int} (h : Row .i64 w (some ⟨g, 0, none⟩) (z :: zs)) : Row .i64 w (some ⟨g, 1, none⟩) zs := by
  intro i hi
  obtain ⟨b, off, e, hlt, hc⟩ := h (i + 1) (by simpa using hi)
  simp only [Option.some.injEq, Addr.mk.injEq, and_true] at e
  obtain ⟨rfl, rfl⟩ := e
  refine ⟨g, 1, rfl, hlt, ?_⟩
  rw [show 1 + i = 0 + (i + 1) by omega, hc]
  rfl

set_option maxRecDepth 100000 in
set_option maxHeartbeats 2000000 in
theorem l5Props_any (B b T : Nat) (w : World) (hS : Src B w b T) (hT : T ≤ 1000000) :
    Calls Tryd.prog 32 #[.pointer (some ⟨b, 0, none⟩)] w fun e w' => ∃ (a : Option Addr) (k : Nat) (ys : List Int), e = .returned (.slice a ys.length k) ∧ ys.length ≤ 3 ∧ Row .i64 w' a ys ∧ (∀ g off sp, a = some ⟨g, off, sp⟩ → w.heap.size ≤ g) ∧ Src B w' b (T + 9) ∧ w.grownBy w' (some b) := by
  obtain ⟨i0, hi, hz0, hz1, hz2⟩ := info_parts infoI64
  have hlt := hS.lt
  go_enter Tryd.func32, Tryd.ntmps32
  go_wp2_with fail
  refine (next_any B b T 2 w hS (by omega) (by omega)).mono ?_
  rintro e w0 ⟨r, rfl, hr, hS0, hg0⟩
  have hr1 := hr.1
  have hr2 := hr.2.1 (by omega)
  clear hr
  have hs0 := hg0.size
  have hw0 : Below w.heap.size w0 (w0.alloc (.cells #[] 2)) := ((Below.refl w0.heap.size w0).alloc (Nat.le_refl _) _).mono hs0
  have hg1 := grown_low hg0 hw0
  have hS1 := hS0.below (w' := w0.alloc (.cells #[] 2)) (by go_grown)
  have ho1 : (w0.alloc (.cells #[] 2)).ownsRow w.heap.size 2 1 (.slice (some ⟨w0.heap.size, 0, none⟩) 0 0) 0 [] := own_base (World.ownsRow_lit w0 #[] 0 (Nat.le_refl _) (by decide) rfl) hs0
  go_wp2
  generalize w0.alloc (.cells #[] 2) = W at *
  clear hw0 hS0
  go_loopw [4, 5] (fun v i wr => ∃ (j : Nat) (ys : List Int), j ≤ 3 ∧ i = .int .i64 j ∧ ys.length = j ∧ wr.ownsRow w.heap.size 2 1 v ys.length (ys.map (Value.int .i64)) ∧ Src B wr b (T + 1 + j) ∧ w.grownBy wr (some b)) (fun _ i _ => 3 - (intOf i).toNat)
  case atStart => exact ⟨0, [], by omega, rfl, rfl, ho1, hS1, hg1⟩
  case round =>
    clear hS1 hg1 ho1
    obtain ⟨j, ys, hj, rfl, hyl, ho, hSr, hg⟩ := hrel
    have hsz := hg.size
    obtain ⟨a1, c1, rfl⟩ := own_shape ho
    have hnb : some b ≠ Value.ownBlock _ := own_not ho (Or.inl hlt.2)
    have hltr := hSr.lt
    by_cases hpos : j < 3
    · have HL : Hid (ys.length = j) := hyl
      have hyl2 : ys.length ≤ 3 := by omega
      clear hyl
      replace ho := ho.alloc (.cells #[.int .i64 r, .int .i64 r, .int .i64 2, .int .i64 2, .int .i64 3] 2)
      replace hg := hg.trans (World.grownBy_alloc wr (.cells #[.int .i64 r, .int .i64 r, .int .i64 2, .int .i64 2, .int .i64 3] 2) (some b))
      go_wp2_with fail
      refine (pick_any B b (T + 1 + j) wr.heap.size _ [r, r, 2, 2, 3] _ (hSr.below (by go_grown)) (by omega) (World.ownsRow_lit wr _ 5 (Nat.le_refl _) (by decide) rfl) (by simp) (by simp) (by simp [Value.ownBlock]; omega)).mono ?_
      rintro e w3 ⟨x, rfl, hmem, hS3, hg3⟩
      replace ho := ho.kept hg3 (Or.inr (fun e => hnb e.symm))
      replace hg := hg.trans hg3
      have hsz3 := hg.size
      clear hmem hg3 hSr hltr
      have ho2 := ho.alloc (.cells #[.int .i64 x] 2)
      go_wp2_with (at_builtin; refine wpList_append_own _ rfl _ _ 24 rfl w.heap.size 2 i0 (.int .i64 0) 1 8 Tryd.underlying24 hi hz0 hz1 hz2 rfl (by decide) _ ys.length (ys.map (Value.int .i64)) rfl ho2 ⟨_, 0, none⟩ 1 1 [.int .i64 x] rfl rfl ?c1 ?c2 ?c3 ?c4 ?c5 ?_)
      case c1 => exact cell_one_new _ _ _
      case c2 => intro u hu; simp at hu; subst hu; rfl
      case c3 => unfold maxLen; omega
      case c4 => omega
      case c5 => simp; omega
      intro v' w5 hown hgrow _
      have hW : Below w.heap.size w3 w5 := ((Below.refl w.heap.size w3).alloc hsz3 (.cells #[.int .i64 x] 2)).grown hgrow (by simp; omega) (fun j hj => (ho.lt j hj).1)
      have hS5 : Src B w5 b (T + 1 + j + 1) := (hS3.below (w' := w3.alloc (.cells #[.int .i64 x] 2)) (by go_grown)).grown hgrow hnb (fun k hk => by have := (ho.lt k hk).1; omega)
      have R : Hid (w5.ownsRow w.heap.size 2 1 v' (ys ++ [x]).length ((ys ++ [x]).map (Value.int .i64)) ∧ w.grownBy w5 (some b)) := ⟨by simpa using hown, grown_low hg hW⟩
      clear hgrow ho2 ho hown hW hg
      go_wp2
      go_roundw
      case rel => exact ⟨j + 1, ys ++ [x], by omega, by go_num, by simp; exact HL.out, R.out.1, hS5, R.out.2⟩
      case measure => simp [intOf]; omega
    · have hj3 : ys.length = 3 := by omega
      have hjj : j = 3 := by omega
      subst hjj
      obtain ⟨x, y, z, rfl⟩ : ∃ x y z, ys = [x, y, z] := by
        match ys, hj3 with
        | [x, y, z], _ => exact ⟨x, y, z, rfl⟩
      clear hyl hj3 hpos hj
      simp only [List.length_cons, List.length_nil] at ho hnb ⊢
      obtain ⟨g, rfl⟩ := own_some5 ho (by omega)
      have hgw : w.heap.size ≤ g := (ho.lt g (by simp [Value.ownBlock])).1
      have hcap := own_cap ho
      go_wp2_with fail
      refine (chance_any B b (T + 1 + 3) 10 wr hSr (by omega) (by omega)).mono ?_
      rintro e w2 ⟨t, rfl, hS2, hg2⟩
      replace ho := ho.kept hg2 (Or.inr (fun e => hnb e.symm))
      replace hg := hg.trans hg2
      have hlt2 := hS2.lt
      have hsz2 := hg.size
      clear hg2 hSr hltr hsz
      cases t
      · skip
        go_wp2
        go_ret
        exact ⟨some ⟨g, 0, none⟩, c1, [x, y, z], rfl, by simp, Row.own (n := 3) ho, fun g' off sp e => by cases e; exact hgw, hS2.mono (by omega), hg⟩
      · replace ho := ho.alloc (.cells #[.int .i64 (1 - r), .int .i64 4, .int .i64 (-1)] 2)
        replace hg := hg.trans (World.grownBy_alloc w2 (.cells #[.int .i64 (1 - r), .int .i64 4, .int .i64 (-1)] 2) (some b))
        go_wp2_with fail
        refine (pick_any B b (T + 1 + 3 + 1) w2.heap.size _ [(1 - r), 4, (-1)] _ (hS2.below (by go_grown)) (by omega) (World.ownsRow_lit w2 _ 3 (Nat.le_refl _) (by decide) rfl) (by simp) (by simp) (by simp [Value.ownBlock]; omega)).mono ?_
        rintro e w3 ⟨u, rfl, hmem, hS3, hg3⟩
        replace ho := ho.kept hg3 (Or.inr (fun e => hnb e.symm))
        replace hg := hg.trans hg3
        have hlt3 := hS3.lt
        have hne3 : b ≠ g := by have := hlt.2; omega
        have hfz : w3.frozen? ⟨g, 1, none⟩ = false := ho.frozenAt 1
        have hcu : w3.cell? ⟨g, 1, none⟩ = some (.int .i64 y) := by rw [ho.cellAt 1 (by omega)]; rfl
        have hst := (ho.stored 1 (.int .i64 u)).1
        have hg4 : w.grownBy (w3.setCell ⟨g, 1, none⟩ (.int .i64 u)) (some b) := grown_low hg ((Below.refl w.heap.size w3).setCell (p := ⟨g, 1, none⟩) hgw _)
        have hS4 : Src B (w3.setCell ⟨g, 1, none⟩ (.int .i64 u)) b (T + 1 + 3 + 1 + 1) := hS3.kept (by simp) (Below.heap_setCell w3 _ _ b (by simpa using hne3)) (fun k hk => Below.heap_setCell w3 _ _ k (by have := hS3.lt; have := hlt; simp; omega))
        have ho4 : (w3.setCell ⟨g, 1, none⟩ (.int .i64 u)).ownsRow w.heap.size 2 1 (.slice (some ⟨g, 0, none⟩) 3 c1) 3 ([x, u, z].map (Value.int .i64)) := by simpa using hst
        have HO : Hid ((w3.setCell ⟨g, 1, none⟩ (.int .i64 u)).ownsRow w.heap.size 2 1 (.slice (some ⟨g, 0, none⟩) 3 c1) 3 ([x, u, z].map (Value.int .i64))) := ho4
        have HG : Hid (w.grownBy (w3.setCell ⟨g, 1, none⟩ (.int .i64 u)) (some b)) := hg4
        have HS : Hid (Src B (w3.setCell ⟨g, 1, none⟩ (.int .i64 u)) b (T + 1 + 3 + 1 + 1)) := hS4
        clear hmem hg3 hS2 hlt2 ho hg hst hS3 hg4 hS4 ho4
        go_wp2
        go_ret
        exact ⟨some ⟨g, 0, none⟩, c1, [x, u, z], rfl, by simp, Row.own (n := 3) HO.out, fun g' off sp e => by cases e; exact hgw, HS.out.mono (by omega), HG.out⟩

set_option maxRecDepth 100000 in
set_option maxHeartbeats 2000000 in
theorem l5Reports_any (B b T : Nat) (w : World) (hS : Src B w b T) (hT : T ≤ 1000000) :
    Calls Tryd.prog 26 #[.pointer (some ⟨b, 0, none⟩)] w fun e w' => ∃ (a : Option Addr) (k : Nat) (ys : List Int), e = .returned (.slice a ys.length k) ∧ ys.length ≤ 3 ∧ Row .i64 w' a ys ∧ (∀ g off sp, a = some ⟨g, off, sp⟩ → w.heap.size ≤ g) ∧ Src B w' b (T + 9) ∧ w.grownBy w' (some b) := by
  obtain ⟨i0, hi, hz0, hz1, hz2⟩ := info_parts infoI64
  have hlt := hS.lt
  go_enter Tryd.func26, Tryd.ntmps26
  have hg1 := World.grownBy_alloc w (.cells #[] 2) (some b)
  have hS1 := hS.below (w' := w.alloc (.cells #[] 2)) (by go_grown)
  have ho1 : (w.alloc (.cells #[] 2)).ownsRow w.heap.size 2 1 (.slice (some ⟨w.heap.size, 0, none⟩) 0 0) 0 [] := World.ownsRow_lit w #[] 0 (Nat.le_refl _) (by decide) rfl
  go_wp2
  generalize w.alloc (.cells #[] 2) = W at *
  go_loopw [3, 4] (fun v i wr => ∃ (j : Nat) (ys : List Int), j ≤ 3 ∧ i = .int .i64 j ∧ ys.length = j ∧ wr.ownsRow w.heap.size 2 1 v ys.length (ys.map (Value.int .i64)) ∧ Src B wr b (T + 0 + j) ∧ w.grownBy wr (some b)) (fun _ i _ => 3 - (intOf i).toNat)
  case atStart => exact ⟨0, [], by omega, rfl, rfl, ho1, hS1, hg1⟩
  case round =>
    clear hS1 hg1 ho1
    obtain ⟨j, ys, hj, rfl, hyl, ho, hSr, hg⟩ := hrel
    have hsz := hg.size
    obtain ⟨a1, c1, rfl⟩ := own_shape ho
    have hnb : some b ≠ Value.ownBlock _ := own_not ho (Or.inl hlt.2)
    have hltr := hSr.lt
    by_cases hpos : j < 3
    · have HL : Hid (ys.length = j) := hyl
      have hyl2 : ys.length ≤ 3 := by omega
      clear hyl
      replace ho := ho.alloc (.cells #[.int .i64 0, .int .i64 1, .int .i64 1, .int .i64 3] 2)
      replace hg := hg.trans (World.grownBy_alloc wr (.cells #[.int .i64 0, .int .i64 1, .int .i64 1, .int .i64 3] 2) (some b))
      go_wp2_with fail
      refine (pick_any B b (T + 0 + j) wr.heap.size _ [0, 1, 1, 3] _ (hSr.below (by go_grown)) (by omega) (World.ownsRow_lit wr _ 4 (Nat.le_refl _) (by decide) rfl) (by simp) (by simp) (by simp [Value.ownBlock]; omega)).mono ?_
      rintro e w3 ⟨x, rfl, hmem, hS3, hg3⟩
      replace ho := ho.kept hg3 (Or.inr (fun e => hnb e.symm))
      replace hg := hg.trans hg3
      have hsz3 := hg.size
      clear hmem hg3 hSr hltr
      have ho2 := ho.alloc (.cells #[.int .i64 x] 2)
      go_wp2_with (at_builtin; refine wpList_append_own _ rfl _ _ 24 rfl w.heap.size 2 i0 (.int .i64 0) 1 8 Tryd.underlying24 hi hz0 hz1 hz2 rfl (by decide) _ ys.length (ys.map (Value.int .i64)) rfl ho2 ⟨_, 0, none⟩ 1 1 [.int .i64 x] rfl rfl ?c1 ?c2 ?c3 ?c4 ?c5 ?_)
      case c1 => exact cell_one_new _ _ _
      case c2 => intro u hu; simp at hu; subst hu; rfl
      case c3 => unfold maxLen; omega
      case c4 => omega
      case c5 => simp; omega
      intro v' w5 hown hgrow _
      have hW : Below w.heap.size w3 w5 := ((Below.refl w.heap.size w3).alloc hsz3 (.cells #[.int .i64 x] 2)).grown hgrow (by simp; omega) (fun j hj => (ho.lt j hj).1)
      have hS5 : Src B w5 b (T + 0 + j + 1) := (hS3.below (w' := w3.alloc (.cells #[.int .i64 x] 2)) (by go_grown)).grown hgrow hnb (fun k hk => by have := (ho.lt k hk).1; omega)
      have R : Hid (w5.ownsRow w.heap.size 2 1 v' (ys ++ [x]).length ((ys ++ [x]).map (Value.int .i64)) ∧ w.grownBy w5 (some b)) := ⟨by simpa using hown, grown_low hg hW⟩
      clear hgrow ho2 ho hown hW hg
      go_wp2
      go_roundw
      case rel => exact ⟨j + 1, ys ++ [x], by omega, by go_num, by simp; exact HL.out, R.out.1, hS5, R.out.2⟩
      case measure => simp [intOf]; omega
    · have hj3 : ys.length = 3 := by omega
      have hjj : j = 3 := by omega
      subst hjj
      obtain ⟨x, y, z, rfl⟩ : ∃ x y z, ys = [x, y, z] := by
        match ys, hj3 with
        | [x, y, z], _ => exact ⟨x, y, z, rfl⟩
      clear hyl hj3 hpos hj
      simp only [List.length_cons, List.length_nil] at ho hnb ⊢
      obtain ⟨g, rfl⟩ := own_some5 ho (by omega)
      have hgw : w.heap.size ≤ g := (ho.lt g (by simp [Value.ownBlock])).1
      have hcap := own_cap ho
      go_wp2_with fail
      refine (chance_any B b (T + 0 + 3) 10 wr hSr (by omega) (by omega)).mono ?_
      rintro e w2 ⟨t, rfl, hS2, hg2⟩
      replace ho := ho.kept hg2 (Or.inr (fun e => hnb e.symm))
      replace hg := hg.trans hg2
      have hlt2 := hS2.lt
      have hsz2 := hg.size
      clear hg2 hSr hltr hsz
      cases t
      · skip
        go_wp2_with fail
        refine (chance_any B b (T + 0 + 3 + 1) 20 w2 hS2 (by omega) (by omega)).mono ?_
        rintro e w6 ⟨t6, rfl, hS6, hg6⟩
        replace ho := ho.kept hg6 (Or.inr (fun e => hnb e.symm))
        replace hg := hg.trans hg6
        clear hg6
        have hR := Row.own (n := 3) ho
        cases t6
        · go_wp2
          go_ret
          exact ⟨some ⟨g, 0, none⟩, c1, [x, y, z], rfl, by simp, hR, fun g' off sp e => by cases e; exact hgw, hS6.mono (by omega), hg⟩
        · go_wp2
          go_ret
          exact ⟨some ⟨g, 1, none⟩, c1 - 1, [x, y, z].tail, rfl, by simp, hR.tail, fun g' off sp e => by cases e; exact hgw, hS6.mono (by omega), hg⟩
      · replace ho := ho.alloc (.cells #[.int .i64 2, .int .i64 4, .int .i64 (-1)] 2)
        replace hg := hg.trans (World.grownBy_alloc w2 (.cells #[.int .i64 2, .int .i64 4, .int .i64 (-1)] 2) (some b))
        go_wp2_with fail
        refine (pick_any B b (T + 0 + 3 + 1) w2.heap.size _ [2, 4, (-1)] _ (hS2.below (by go_grown)) (by omega) (World.ownsRow_lit w2 _ 3 (Nat.le_refl _) (by decide) rfl) (by simp) (by simp) (by simp [Value.ownBlock]; omega)).mono ?_
        rintro e w3 ⟨u, rfl, hmem, hS3, hg3⟩
        replace ho := ho.kept hg3 (Or.inr (fun e => hnb e.symm))
        replace hg := hg.trans hg3
        have hlt3 := hS3.lt
        have hne3 : b ≠ g := by have := hlt.2; omega
        have hfz : w3.frozen? ⟨g, 1, none⟩ = false := ho.frozenAt 1
        have hcu : w3.cell? ⟨g, 1, none⟩ = some (.int .i64 y) := by rw [ho.cellAt 1 (by omega)]; rfl
        have hst := (ho.stored 1 (.int .i64 u)).1
        have hg4 : w.grownBy (w3.setCell ⟨g, 1, none⟩ (.int .i64 u)) (some b) := grown_low hg ((Below.refl w.heap.size w3).setCell (p := ⟨g, 1, none⟩) hgw _)
        have hS4 : Src B (w3.setCell ⟨g, 1, none⟩ (.int .i64 u)) b (T + 0 + 3 + 1 + 1) := hS3.kept (by simp) (Below.heap_setCell w3 _ _ b (by simpa using hne3)) (fun k hk => Below.heap_setCell w3 _ _ k (by have := hS3.lt; have := hlt; simp; omega))
        have ho4 : (w3.setCell ⟨g, 1, none⟩ (.int .i64 u)).ownsRow w.heap.size 2 1 (.slice (some ⟨g, 0, none⟩) 3 c1) 3 ([x, u, z].map (Value.int .i64)) := by simpa using hst
        have HO : Hid ((w3.setCell ⟨g, 1, none⟩ (.int .i64 u)).ownsRow w.heap.size 2 1 (.slice (some ⟨g, 0, none⟩) 3 c1) 3 ([x, u, z].map (Value.int .i64))) := ho4
        have HG : Hid (w.grownBy (w3.setCell ⟨g, 1, none⟩ (.int .i64 u)) (some b)) := hg4
        have HS : Hid (Src B (w3.setCell ⟨g, 1, none⟩ (.int .i64 u)) b (T + 0 + 3 + 1 + 1)) := hS4
        clear hmem hg3 hS2 hlt2 ho hg hst hS3 hg4 hS4 ho4
        go_wp2_with fail
        generalize w3.setCell ⟨g, 1, none⟩ (.int .i64 u) = w4 at *
        have ho := HO.out
        have hg := HG.out
        have hS4 := HS.out
        clear HO HG HS hfz hcu
        refine (chance_any B b (T + 0 + 3 + 1 + 1) 20 w4 hS4 (by omega) (by omega)).mono ?_
        rintro e w6 ⟨t6, rfl, hS6, hg6⟩
        replace ho := ho.kept hg6 (Or.inr (fun e => hnb e.symm))
        replace hg := hg.trans hg6
        clear hg6
        have hR := Row.own (n := 3) ho
        cases t6
        · go_wp2
          go_ret
          exact ⟨some ⟨g, 0, none⟩, c1, [x, u, z], rfl, by simp, hR, fun g' off sp e => by cases e; exact hgw, hS6.mono (by omega), hg⟩
        · go_wp2
          go_ret
          exact ⟨some ⟨g, 1, none⟩, c1 - 1, [u, z], rfl, by simp, hR.tail, fun g' off sp e => by cases e; exact hgw, hS6.mono (by omega), hg⟩
        
end Go.Proofs.YtonkbpnchcgmmaaDoor
