/- RangeOf of the model: the same plain function tells it. No condition. -/
import Derived.Test.YteoghlebijfbaaaItemRange
import Derived.Test.YteoghlebijfbaaaTextX
import Derived.Lib.SmallJoins
namespace Go.Proofs.Yteoghlebijfbaaa
open Go.RowKit
open Go.BigFrame
set_option linter.unusedVariables false
set_option linter.unusedSimpArgs false

set_option maxRecDepth 100000 in
set_option maxHeartbeats 4000000 in
theorem specRangeOf_any (a : Option Addr) (cap : Nat) (zs : List ItemD) (f q : Int) (w : World) (h : ItemRow w a zs) (hl : zs.length ≤ 1048576) :
    Calls Try.prog 27 #[.slice a zs.length cap, .int .i64 f, .int .i64 q] w fun e w' => ∃ b c, e = .returned (.agg #[.int .i64 (rgC zs f q), .int .i64 (rgR zs f q).length, .slice b (rgR zs f q).length c]) ∧
      w'.ownsRow w.heap.size 53 2 (.slice b (rgR zs f q).length c) (rgR zs f q).length (itemCells (rgR zs f q)) ∧ Below w.heap.size w w' := by
  have hF := fun w h => l3Fault_any a cap zs w h hl
  have hb0 : Below w.heap.size w (w.alloc (.cells #[.int .i64 0, .int .i64 0, .slice none 0 0] 31)) := by go_grown
  have B0 := Blk.new w 31 #[.int .i64 0, .int .i64 0, .slice none 0 0]
  rcases rg_ways zs f q with ⟨h0, e1, e2⟩ | ⟨h0, h1, e1, e2⟩ | ⟨h0, h1, h2, e1, e2⟩ | ⟨h0, h1, h2, ⟨m, rfl, hm1, hm8⟩, e1, e2⟩ <;> rw [e1, e2] <;> clear e1 e2
  case inl =>
    have hne : (itemsF zs != 0) = true := by simpa using h0
    clear h0
    generalize itemsF zs = r at hF hne
    go_enter Try.func27, Try.ntmps27
    go_wp2_with fail
    generalize w.alloc (.cells #[.int .i64 0, .int .i64 0, .slice none 0 0] 31) = W0 at hb0 B0
    refine (hF _ (h.below hb0)).mono ?_
    rintro e w1 ⟨rfl, hb⟩
    replace B0 := B0.below hb
    replace hb0 := hb0.trans (hb.mono hb0.size)
    have p0 := B0.cell 0 _ rfl
    have p1 := B0.cell 1 _ rfl
    have p2 := B0.cell 2 _ rfl
    have f0 := B0.frozen 0
    have f1 := B0.frozen 1
    have f2 := B0.frozen 2
    have hlt := B0.lt
    clear hb B0
    go_wp2
    refine bodyPost_ret (v := .agg #[.int .i64 r, .int .i64 0, .slice none 0 0]) (by simp [results, Try.results27, go_sem, p0, p1, p2]) rfl ⟨_, _, rfl, World.ownsRow_nil _ _ _ _, ?_⟩
    repeat' (refine Below.setCell ?_ (by dsimp only; omega) _)
    exact hb0
  case inr.inl =>
    rw [h0] at hF
    clear h0
    go_enter Try.func27, Try.ntmps27
    go_wp2_with fail
    generalize w.alloc (.cells #[.int .i64 0, .int .i64 0, .slice none 0 0] 31) = W0 at hb0 B0
    refine (hF _ (h.below hb0)).mono ?_
    rintro e w1 ⟨rfl, hb⟩
    replace B0 := B0.below hb
    replace hb0 := hb0.trans (hb.mono hb0.size)
    have p0 := B0.cell 0 _ rfl
    have p1 := B0.cell 1 _ rfl
    have p2 := B0.cell 2 _ rfl
    have f0 := B0.frozen 0
    have f1 := B0.frozen 1
    have f2 := B0.frozen 2
    have hlt := B0.lt
    clear hb B0
    go_wp2_with (go_at_call 61; refine (l1InW_any _ _ _ _).mono ?_; rintro e w' ⟨rfl, hw⟩; replace hw := hw.symm; subst hw)
    refine bodyPost_ret (v := .agg #[.int .i64 3, .int .i64 0, .slice none 0 0]) (by simp [results, Try.results27, go_sem, p0, p1, p2]) rfl ⟨_, _, rfl, World.ownsRow_nil _ _ _ _, ?_⟩
    repeat' (refine Below.setCell ?_ (by dsimp only; omega) _)
    exact hb0
  case inr.inr.inl =>
    rw [h0] at hF
    clear h0
    go_enter Try.func27, Try.ntmps27
    go_wp2_with fail
    generalize w.alloc (.cells #[.int .i64 0, .int .i64 0, .slice none 0 0] 31) = W0 at hb0 B0
    refine (hF _ (h.below hb0)).mono ?_
    rintro e w1 ⟨rfl, hb⟩
    replace B0 := B0.below hb
    replace hb0 := hb0.trans (hb.mono hb0.size)
    have p0 := B0.cell 0 _ rfl
    have p1 := B0.cell 1 _ rfl
    have p2 := B0.cell 2 _ rfl
    have f0 := B0.frozen 0
    have f1 := B0.frozen 1
    have f2 := B0.frozen 2
    have hlt := B0.lt
    clear hb B0
    go_wp2_with (go_at_call 61; refine (l1InW_any _ _ _ _).mono ?_; rintro e w' ⟨rfl, hw⟩; replace hw := hw.symm; subst hw)
    refine bodyPost_ret (v := .agg #[.int .i64 3, .int .i64 0, .slice none 0 0]) (by simp [results, Try.results27, go_sem, p0, p1, p2]) rfl ⟨_, _, rfl, World.ownsRow_nil _ _ _ _, ?_⟩
    repeat' (refine Below.setCell ?_ (by dsimp only; omega) _)
    exact hb0
  case inr.inr.inr =>
    have hz8 := itemsF_le h0
    rw [h0] at hF
    clear h0
    rw [show (m : Int).toNat = m by omega]
    go_enter Try.func27, Try.ntmps27
    go_wp2_with fail
    generalize w.alloc (.cells #[.int .i64 0, .int .i64 0, .slice none 0 0] 31) = W0 at hb0 B0
    refine (hF _ (h.below hb0)).mono ?_
    rintro e w1 ⟨rfl, hb⟩
    replace B0 := B0.below hb
    replace hb0 := hb0.trans (hb.mono hb0.size)
    have hlt0 := B0.lt
    replace h := h.below hb0
    clear hb hF
    have hob : w.heap.size < w1.heap.size := hlt0
    have hb2 : Below w1.heap.size w1 (w1.alloc (.cells #[.int .i64 0, .int .i64 0, .slice none 0 0] 31)) := by go_grown
    have Bt := Blk.new w1 31 #[.int .i64 0, .int .i64 0, .slice none 0 0]
    have hs2 : w1.heap.size < (w1.alloc (.cells #[.int .i64 0, .int .i64 0, .slice none 0 0] 31)).heap.size := by simp
    go_wp2_with (go_at_call 61; refine (l1InW_any _ _ _ _).mono ?_; rintro e w' ⟨rfl, hw⟩; replace hw := hw.symm; subst hw)
    generalize w1.alloc (.cells #[.int .i64 0, .int .i64 0, .slice none 0 0] 31) = W2 at hb2 Bt hs2
    generalize hobe : w1.heap.size = ob at *
    go_loopw [9] (fun j wr => ∃ (k : Nat) (a1 : Option Addr) (c1 : Nat), k ≤ zs.length ∧ j = .int .i64 k ∧ Blk wr ob 31 #[.int .i64 0, .int .i64 (rgL zs f m k).length, .slice a1 (rgL zs f m k).length c1] ∧ wr.ownsRow W2.heap.size 53 2 (.slice a1 (rgL zs f m k).length c1) (rgL zs f m k).length (itemCells (rgL zs f m k)) ∧ Below ob w1 wr ∧ W2.heap.size ≤ wr.heap.size) (fun j _ => zs.length - (intOf j).toNat)
    case atStart => exact ⟨0, none, 0, Nat.zero_le _, rfl, by simpa [rgL_zero] using Bt, by rw [rgL_zero]; exact World.ownsRow_nil _ _ _ _, hb2, Nat.le_refl _⟩
    case round =>
      clear Bt hb2
      obtain ⟨k, a1, c1, hk, rfl, Bt, ho, hb, hsz⟩ := hrel
      have hle := rgL_le zs f m k
      by_cases hlt : k < zs.length
      · obtain ⟨b, off, rfl, hbs, hc0, hc1⟩ := h.at k hlt
        rw [hobe] at hbs
        replace hc0 : wr.cell? ⟨b, off + k * 2, none⟩ = _ := (hb.cell (p := ⟨b, off + k * 2, none⟩) hbs).trans hc0
        replace hc1 : wr.cell? ⟨b, off + k * 2 + 1, none⟩ = _ := (hb.cell (p := ⟨b, off + k * 2 + 1, none⟩) hbs).trans hc1
        by_cases hfull : (rgL zs f m k).length < m
        · by_cases hf : f ≤ (zs.getD k itemNo).key
          · have hsu : Hid (rgL zs f m (k + 1) = rgL zs f m k ++ [zs.getD k itemNo]) := rgL_hit zs f m k hlt hf hfull
            generalize rgL zs f m k = F at Bt ho hle hfull hsu
            generalize zs.getD k itemNo = z at hc0 hc1 hf hsu
            obtain ⟨z0, z1⟩ := z
            dsimp only at hc0 hc1 hf
            have q1 := Bt.cell 1 _ rfl
            have t3 : wr.cell? ⟨ob, 2, none⟩ = some (.slice a1 F.length c1) := Bt.cell 2 _ rfl
            generalize hP : (fun u : World => u.cell? ⟨ob, 2, none⟩ = some (.slice a1 F.length c1) ∧ u.cell? ⟨b, off + k * 2, none⟩ = some (.int .i64 z0) ∧ u.cell? ⟨b, off + k * 2 + 1, none⟩ = some (.int .i64 z1)) = PP
            have hP0 : PP wr := by subst hP; exact ⟨t3, hc0, hc1⟩
            have cc0 : ∀ u : KeepP PP, u.val.cell? ⟨ob, 2, none⟩ = some (.slice a1 F.length c1) := fun u => by have := u.isP; subst hP; exact this.1
            have cc1 : ∀ u : KeepP PP, u.val.cell? ⟨b, off + k * 2, none⟩ = some (.int .i64 z0) := fun u => by have := u.isP; subst hP; exact this.2.1
            have cc2 : ∀ u : KeepP PP, u.val.cell? ⟨b, off + k * 2 + 1, none⟩ = some (.int .i64 z1) := fun u => by have := u.isP; subst hP; exact this.2.2
            have hne : Nonempty (KeepP PP) := ⟨⟨wr, hP0⟩⟩
            go_wp2_with fail
            clear q1
            refine beginX (S := fun w' => ∃ u : KeepP PP, w' = u.val) (R := fun _ _ => False) 9 (by kernel_rfl) (fun _ _ _ _ h => h.elim) ?_
            have hPd : PP wr.drew := by subst hP; exact hP0
            refine segX [(0, 6)] 4 (by kernel_rfl) (by kernel_rfl) (by kernel_rfl) (by kernel_rfl) (by kernel_rfl) ⟨⟨wr.drew, hPd⟩, rfl⟩ ?_
            simp only [pickR, List.toList_toArray, List.flatMap_cons, List.flatMap_nil, List.drop_succ_cons, List.drop_zero, List.take_succ_cons, List.take_zero, List.cons_append, List.nil_append, List.append_nil]
            repeat go_big_quiet_step (fail)
            refine wpQuiet_nil ?_
            clear cc0 cc1 cc2 hne hP0
            replace Bt : Blk wr.drew ob 31 #[.int .i64 0, .int .i64 F.length, .slice a1 F.length c1] := Bt
            replace ho := ho.drew
            replace hb : Below ob w1 wr.drew := hb.drew
            replace hsz : W2.heap.size ≤ wr.drew.heap.size := hsz
            replace hc0 : wr.drew.cell? ⟨b, off + k * 2, none⟩ = some (.int .i64 z0) := hc0
            replace hc1 : wr.drew.cell? ⟨b, off + k * 2 + 1, none⟩ = some (.int .i64 z1) := hc1
            clear hPd t3
            generalize wr.drew = wd at *
            have keepP : ∀ (u : World), Below ob w1 u → Blk u ob 31 #[.int .i64 0, .int .i64 F.length, .slice a1 F.length c1] → PP u := by
              intro u hu1 hu2
              subst hP
              exact ⟨hu2.cell 2 _ rfl, (hu1.cell (p := ⟨b, off + k * 2, none⟩) hbs).trans ((hb.cell (p := ⟨b, off + k * 2, none⟩) hbs).symm.trans hc0), (hu1.cell (p := ⟨b, off + k * 2 + 1, none⟩) hbs).trans ((hb.cell (p := ⟨b, off + k * 2 + 1, none⟩) hbs).symm.trans hc1)⟩
            clear hc0 hc1 hP
            refine oneX 6 _ 3 (by kernel_rfl) rfl (by kernel_rfl) ?_
            have hbA : Below wd.heap.size wd (wd.alloc (.cells #[.int .i64 z0, .int .i64 z1] 53)) := by go_grown
            go_wp2
            replace Bt := Bt.below hbA
            have hlob := Bt.lt
            replace hb : Below ob w1 (wd.alloc (.cells #[.int .i64 z0, .int .i64 z1] 53)) := hb.trans (hbA.mono (by omega))
            refine ThenX.to ⟨Or.inr ⟨⟨_, keepP _ hb Bt⟩, rfl⟩, ?_⟩
            have hsA : W2.heap.size ≤ (wd.alloc (.cells #[.int .i64 z0, .int .i64 z1] 53)).heap.size := by simp; omega
            have hsrc : ∀ j u, [Value.int .i64 z0, .int .i64 z1][j]? = some u → (wd.alloc (.cells #[.int .i64 z0, .int .i64 z1] 53)).cell? ((⟨wd.heap.size, 0, none⟩ : Addr).add j) = some u := by
              intro j u hj; match j, hj with | 0, hj => simp at hj; subst hj; simp [Addr.add] | 1, hj => simp at hj; subst hj; simp [Addr.add]
            replace ho := own_below ho hbA
            clear hlob
            generalize wd.alloc (.cells #[.int .i64 z0, .int .i64 z1] 53) = wb at hbA Bt hb hsA hsrc ho
            obtain ⟨i0, hi, hz0, hz1, hz2⟩ := info_parts infoItem
            refine oneX 7 _ 2 (by kernel_rfl) rfl (by kernel_rfl) ?_
            refine wpList_append_own _ rfl _ _ 24 rfl W2.heap.size 53 i0 (.agg #[.int .i64 0, .int .i64 0]) 2 16 Try.underlying24 hi hz0 hz1 hz2 rfl (by decide) _ F.length (itemCells F) rfl ho ⟨wd.heap.size, 0, none⟩ 1 1 [.int .i64 z0, .int .i64 z1] rfl rfl hsrc ?c2 ?c3 ?c4 ?c5 ?_
            case c2 => intro u hu; simp at hu; rcases hu with rfl | rfl <;> rfl
            case c3 => unfold maxLen; omega
            case c4 => omega
            case c5 => exact hsA
            intro v' wc hown hgrow _
            obtain ⟨a2, c2, rfl⟩ := own_shape hown
            have hgo : ∀ j, (Value.slice a1 F.length c1).ownBlock = some j → W2.heap.size ≤ j := fun j hj => (ho.lt j hj).1
            have hBc : Below W2.heap.size wb wc := (Below.refl _ _).grown hgrow hsA hgo
            have hsc : W2.heap.size ≤ wc.heap.size := Nat.le_trans hsA hBc.size
            replace Bt : Blk wc ob 31 #[.int .i64 0, .int .i64 F.length, .slice a1 F.length c1] := (hBc.block _ (by omega)).trans Bt
            replace hb : Below ob w1 wc := hb.trans (hBc.mono (by omega))
            clear hgrow hgo hBc ho hbA hsrc
            go_wp2
            refine ThenX.to ⟨Or.inr ⟨⟨_, keepP _ hb Bt⟩, rfl⟩, ?_⟩
            simp only [Act.put, List.getElem_toArray, List.getElem_cons_succ, List.getElem_cons_zero, List.setIfInBounds_toArray, List.set_cons_zero, List.set_cons_succ]
            refine oneX 8 _ 1 (by kernel_rfl) rfl (by kernel_rfl) ?_
            go_wp2
            refine ThenX.to ⟨Or.inr ⟨⟨_, keepP _ hb Bt⟩, rfl⟩, ?_⟩
            refine oneX 9 _ 0 (by kernel_rfl) rfl (by kernel_rfl) ?_
            have t3 := Bt.cell 2 _ rfl
            have t4 := Bt.frozen 2
            go_wp2
            clear t3 t4 keepP
            refine ThenX.to ⟨Or.inl (by kernel_rfl), ?_⟩
            refine endX (by kernel_rfl) ?_
            replace Bt : Blk (wc.setCell ⟨ob, 2, none⟩ (.slice a2 (F.length + 1) c2)) ob 31 #[.int .i64 0, .int .i64 F.length, .slice a2 (F.length + 1) c2] := by
              have := Go.Joins.block_setCell (i := 2) (v := .slice a2 (F.length + 1) c2) Bt
              unfold Blk
              simpa using this
            have ho := ownsRow_setCell_below (a := ⟨ob, 2, none⟩) hown (by dsimp only; omega) (.slice a2 (F.length + 1) c2)
            replace hb := hb.setCell (p := ⟨ob, 2, none⟩) (by dsimp only; omega) (.slice a2 (F.length + 1) c2)
            replace hsz : W2.heap.size ≤ (wc.setCell ⟨ob, 2, none⟩ (.slice a2 (F.length + 1) c2)).heap.size := by simpa [World.setCell] using hsc
            clear hsc hsA hown hi hz0 hz1 hz2
            generalize wc.setCell ⟨ob, 2, none⟩ (.slice a2 (F.length + 1) c2) = w9 at Bt ho hb hsz
            have r1 := Bt.cell 1 _ rfl
            have r2 := Bt.frozen 1
            have Bt9 : Blk (w9.setCell ⟨ob, 1, none⟩ (.int .i64 ((F.length : Int) + 1))) ob 31 #[.int .i64 0, .int .i64 ((F.length : Int) + 1), .slice a2 (F.length + 1) c2] := by
              have := Go.Joins.block_setCell (i := 1) (v := .int .i64 ((F.length : Int) + 1)) Bt
              unfold Blk
              simpa using this
            have ho9 := ownsRow_setCell_below (a := ⟨ob, 1, none⟩) ho (by dsimp only; omega) (.int .i64 ((F.length : Int) + 1))
            have hb9 := hb.setCell (p := ⟨ob, 1, none⟩) (by dsimp only; omega) (.int .i64 ((F.length : Int) + 1))
            have hs9 : W2.heap.size ≤ (w9.setCell ⟨ob, 1, none⟩ (.int .i64 ((F.length : Int) + 1))).heap.size := by simpa [World.setCell] using hsz
            have HO : Hid (_ ∧ _ ∧ _ ∧ _) := ⟨Bt9, ho9, hb9, hs9⟩
            clear Bt9 ho9 hb9 hs9 Bt ho hb hsz
            go_wp2
            go_roundw
            case rel =>
              refine ⟨k + 1, a2, c2, by omega, by go_num, ?_, ?_, HO.out.2.2.1, HO.out.2.2.2⟩
              · rw [hsu.out]; simpa using HO.out.1
              · rw [hsu.out, itemCells_snoc]; simpa using HO.out.2.1
            case measure => simp [intOf]; omega
          · have hsu : Hid (rgL zs f m (k + 1) = rgL zs f m k) := rgL_miss zs f m k hlt hf
            generalize hrg : rgL zs f m k = F at Bt ho hle hfull hsu
            clear hrg
            generalize zs.getD k itemNo = z at hc0 hc1 hf
            obtain ⟨z0, z1⟩ := z
            dsimp only at hc0 hc1 hf
            have q1 := Bt.cell 1 _ rfl
            have R : Hid (_ ∧ _) := ⟨Bt, ho⟩
            clear ho Bt
            go_wp2
            go_roundw
            case rel => exact ⟨k + 1, a1, c1, by omega, by go_num, by rw [hsu.out]; exact R.out.1, by rw [hsu.out]; exact R.out.2, hb, hsz⟩
            case measure => simp [intOf]; omega
        · have HF : Hid (rgL zs f m zs.length = rgL zs f m k) := rgL_full zs f m k hfull zs.length (by omega)
          generalize hrg : rgL zs f m k = F at Bt ho hle hfull HF
          clear hrg
          replace B0 : Blk wr w.heap.size 31 #[.int .i64 0, .int .i64 0, .slice none 0 0] := (hb.block _ hob).trans B0
          have p0 := B0.cell 0 _ rfl
          have p1 := B0.cell 1 _ rfl
          have p2 := B0.cell 2 _ rfl
          have f0 := B0.frozen 0
          have f1 := B0.frozen 1
          have f2 := B0.frozen 2
          have q0 := Bt.cell 0 _ rfl
          have q1 := Bt.cell 1 _ rfl
          have q2 := Bt.cell 2 _ rfl
          have hbw : Below w.heap.size w wr := hb0.trans (hb.mono (by omega))
          clear B0 Bt
          go_wp2
          refine bodyPost_ret (v := .agg #[.int .i64 0, .int .i64 F.length, .slice a1 F.length c1]) (by simp [results, Try.results27, go_sem, p0, p1, p2]) rfl ?_
          rw [HF.out]
          refine ⟨_, _, rfl, ?_, ?_⟩
          · refine own_base (base := W2.heap.size) ?_ (by omega)
            repeat' (refine ownsRow_setCell_below ?_ (by dsimp only; omega) _)
            exact ho
          · repeat' (refine Below.setCell ?_ (by dsimp only; omega) _)
            exact hbw
      · have hkl : k = zs.length := by omega
        have HF : Hid (rgL zs f m zs.length = rgL zs f m k) := by rw [hkl]; exact (rfl : rgL zs f m zs.length = _)
        generalize hrg : rgL zs f m k = F at Bt ho hle HF
        clear hrg
        replace B0 : Blk wr w.heap.size 31 #[.int .i64 0, .int .i64 0, .slice none 0 0] := (hb.block _ hob).trans B0
        have p0 := B0.cell 0 _ rfl
        have p1 := B0.cell 1 _ rfl
        have p2 := B0.cell 2 _ rfl
        have f0 := B0.frozen 0
        have f1 := B0.frozen 1
        have f2 := B0.frozen 2
        have q0 := Bt.cell 0 _ rfl
        have q1 := Bt.cell 1 _ rfl
        have q2 := Bt.cell 2 _ rfl
        have hbw : Below w.heap.size w wr := hb0.trans (hb.mono (by omega))
        clear B0 Bt
        go_wp2
        refine bodyPost_ret (v := .agg #[.int .i64 0, .int .i64 F.length, .slice a1 F.length c1]) (by simp [results, Try.results27, go_sem, p0, p1, p2]) rfl ?_
        rw [HF.out]
        refine ⟨_, _, rfl, ?_, ?_⟩
        · refine own_base (base := W2.heap.size) ?_ (by omega)
          repeat' (refine ownsRow_setCell_below ?_ (by dsimp only; omega) _)
          exact ho
        · repeat' (refine Below.setCell ?_ (by dsimp only; omega) _)
          exact hbw

end Go.Proofs.Yteoghlebijfbaaa
