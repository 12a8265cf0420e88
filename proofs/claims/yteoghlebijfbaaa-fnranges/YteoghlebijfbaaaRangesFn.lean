/- The law FnRanges, walked: at every list of bytes it answers true, and it writes into nothing that was there. No condition. -/
import Derived.Test.YteoghlebijfbaaaDraw3b
import Derived.Test.YteoghlebijfbaaaLawBig
import Derived.Test.YteoghlebijfbaaaItemRangeS
import Derived.Test.YteoghlebijfbaaaItemSame
namespace Go.Proofs.Yteoghlebijfbaaa
open Go.RowKit
open Go.BigFrame
set_option linter.unusedVariables false
set_option linter.unusedSimpArgs false

theorem rgL_pre (xs : List ItemD) (f : Int) (m k : Nat) : ∀ n, k ≤ n → ∃ t, rgL xs f m n = rgL xs f m k ++ t := by
  intro n hn
  unfold rgL
  have e : xs.take n = xs.take k ++ (xs.take n).drop k := by
    conv => lhs; rw [← List.take_append_drop k (xs.take n)]
    rw [List.take_take, Nat.min_eq_left hn]
  rw [e, List.filter_append, List.take_append]
  exact ⟨_, rfl⟩

theorem rgL_at (xs : List ItemD) (f : Int) (m k : Nat) (hk : k < xs.length) (hf : f ≤ (xs.getD k itemNo).key) (hl : (rgL xs f m k).length < m) :
    (rgL xs f m (k + 1)).length = (rgL xs f m k).length + 1 ∧ (rgL xs f m k).length < (rgL xs f m xs.length).length ∧ (rgL xs f m xs.length).getD (rgL xs f m k).length itemNo = xs.getD k itemNo := by
  obtain ⟨t, ht⟩ := rgL_pre xs f m (k + 1) xs.length (by omega)
  rw [ht, rgL_hit xs f m k hk hf hl]
  generalize xs.getD k itemNo = z
  generalize rgL xs f m k = F
  refine ⟨by simp, by simp, ?_⟩
  simp [List.getD]

theorem fieldIR0 (c v : Int) (a : Option Addr) (l k : Nat) (w : World) : (Instr.field 31 (.agg #[.int .i64 c, .int .i64 v, .slice a l k]) 0).run Try.prog w = .ok (.int .i64 c) w := by kernel_rfl

set_option maxRecDepth 100000 in
set_option maxHeartbeats 4000000 in
theorem rangesFn (a : Option Addr) (cap : Nat) (zs : List Int) (w : World) (h : Row .u8 w a zs) (hu : ∀ i, 0 ≤ zs.getD i 0 ∧ zs.getD i 0 ≤ 255) (hm : zs.length ≤ 9223372036854775807) :
    Calls Try.prog 4 #[.slice a zs.length cap] w fun e w' => e = .returned (.bool true) ∧ Below w.heap.size w w' := by
  by_cases hle : zs.length ≤ 1048576
  · have hd : decide (1048576 < (zs.length : Int)) = false := decide_eq_false (by omega)
    go_enter Try.func4, Try.ntmps4
    go_wp2_with fail
    refine (lwBig_any a zs.length cap w hm).mono ?_
    rintro e w1 ⟨rfl, hw⟩
    subst hw
    rw [hd]
    go_wp2_with fail
    refine (drawRangeOf_any a cap zs _ h hu hle).mono ?_
    rintro e w2 ⟨b, k, xs, f, q, rfl, hxl, hx, hb⟩
    clear hd h hu hm hle
    generalize zs.length = ZL at *
    clear zs
    go_wp2_with fail
    refine (implRangeOf_any b k xs f q w2 hx (by omega)).mono ?_
    rintro e w3 ⟨b3, k3, rfl, o3, hb3⟩
    replace hx := hx.below hb3
    replace hb := hb.trans (hb3.mono hb.size)
    clear hb3
    by_cases hc : rgC xs f q = 0
    · have hre := rg_ways xs f q
      rcases hre with ⟨h0, e1, e2⟩ | ⟨h0, h1, e1, e2⟩ | ⟨h0, h1, h2, e1, e2⟩ | ⟨h0, h1, h2, ⟨m, rfl, hm1, hm8⟩, e1, e2⟩
      · exact absurd (e1.symm.trans hc) h0
      · rw [hc] at e1; simp at e1
      · rw [hc] at e1; simp at e1
      rw [e1, e2]
      rw [e2] at o3
      rw [show (m : Int).toNat = m by omega] at o3 ⊢
      have hz8 := itemsF_le h0
      clear e1 e2 h0 h1 h2 hc
      have hRl : (rgL xs f m xs.length).length ≤ m := rgL_le xs f m xs.length
      generalize hR : rgL xs f m xs.length = R at o3 hRl ⊢
      have HR : Hid (rgL xs f m xs.length = R) := hR
      clear hR
      have hbA : Below w3.heap.size w3 (w3.alloc (.cells #[.int .i64 0, .int .i64 R.length, .slice b3 R.length k3] 31)) := by go_grown
      have B3 := Blk.new w3 31 #[.int .i64 0, .int .i64 R.length, .slice b3 R.length k3]
      replace hx := hx.below hbA
      have hr3 : ItemRow w3 b3 R := Lies.own o3
      replace hr3 := hr3.below hbA
      replace hb := hb.trans (hbA.mono hb.size)
      have d0 := B3.cell 0 _ rfl
      go_wp2_with fail
      generalize w3.alloc (.cells #[.int .i64 0, .int .i64 R.length, .slice b3 R.length k3] 31) = W at *
      have d1 := B3.cell 1 _ rfl
      have d2 := B3.cell 2 _ rfl
      clear B3 hbA o3 d0
      go_loopw [7, 8] (fun s i wr => ∃ j t : Nat, j ≤ xs.length ∧ i = .int .i64 j ∧ s = .int .i64 (rgL xs f m j).length ∧ wr = W.drewN t) (fun _ i _ => xs.length - (intOf i).toNat)
      case atStart => exact ⟨0, 0, Nat.zero_le _, rfl, by rw [rgL_zero]; rfl, rfl⟩
      case round =>
        obtain ⟨j, t, hj, rfl, rfl, rfl⟩ := hrel
        have hle := rgL_le xs f m j
        by_cases hlt : j < xs.length
        · obtain ⟨bb, off, rfl, hbs, hc0, hc1⟩ := hx.at j hlt
          by_cases hf : f ≤ (xs.getD j itemNo).key
          · by_cases hfull : (rgL xs f m j).length < m
            · obtain ⟨hs1, hs2, hs3⟩ := rgL_at xs f m j hlt hf hfull
              rw [HR.out] at hs2 hs3
              obtain ⟨b4, off4, rfl, hbs4, hc2, hc3⟩ := hr3.at _ hs2
              rw [hs3] at hc2 hc3
              have HS : Hid ((rgL xs f m (j + 1)).length = (rgL xs f m j).length + 1) := hs1
              clear hs1 hs3
              generalize (rgL xs f m j).length = n at *
              generalize xs.getD j itemNo = z at *
              obtain ⟨z0, z1⟩ := z
              dsimp only at hc0 hc1 hc2 hc3 hf
              have e1 : decide (z0 < f) = false := decide_eq_false (by omega)
              have e2 : decide ((m : Int) ≤ (n : Int)) = false := decide_eq_false (by omega)
              have e3 : decide ((R.length : Int) ≤ (n : Int)) = false := decide_eq_false (by omega)
              have e2' : decide (m ≤ n) = false := decide_eq_false (by omega)
              have e3' : decide (R.length ≤ n) = false := decide_eq_false (by omega)
              have hr := eqItem_run z0 z1 z0 z1
              rw [show sameI ⟨z0, z1⟩ ⟨z0, z1⟩ = true by simp [sameI], Bool.not_true] at hr
              go_wp2
              go_quiet (fail)
              go_wp2
              go_roundw
              case rel => exact ⟨j + 1, _, by omega, by go_num, by rw [HS.out]; go_num, rfl⟩
              case measure => simp [intOf]; omega
            · have HS : Hid (rgL xs f m (j + 1) = rgL xs f m j) := rgL_full xs f m j hfull (j + 1) (by omega)
              generalize hF : rgL xs f m j = F at *
              clear hF
              generalize xs.getD j itemNo = z at *
              obtain ⟨z0, z1⟩ := z
              dsimp only at hc0 hc1 hf
              have e1 : decide (z0 < f) = false := decide_eq_false (by omega)
              have e2 : decide ((m : Int) ≤ (F.length : Int)) = true := decide_eq_true (by omega)
              have e2' : decide (m ≤ F.length) = true := decide_eq_true (by omega)
              go_wp2
              go_roundw
              case rel => exact ⟨j + 1, _, by omega, by go_num, by rw [HS.out], rfl⟩
              case measure => simp [intOf]; omega
          · have HS : Hid (rgL xs f m (j + 1) = rgL xs f m j) := rgL_miss xs f m j hlt hf
            generalize hF : rgL xs f m j = F at *
            clear hF
            generalize xs.getD j itemNo = z at *
            obtain ⟨z0, z1⟩ := z
            dsimp only at hc0 hc1 hf
            have e1 : decide (z0 < f) = true := decide_eq_true (by omega)
            go_wp2
            go_roundw
            case rel => exact ⟨j + 1, _, by omega, by go_num, by rw [HS.out], rfl⟩
            case measure => simp [intOf]; omega
        · have hjl : j = xs.length := by omega
          subst hjl
          rw [HR.out] at *
          have e1 : ((R.length : Int) == (R.length : Int)) = true := by simp
          go_wp2
          go_ret
          exact ⟨rfl, below_drewN hb _⟩
    · have hne : (rgC xs f q != 0) = true := by simpa using hc
      have hsp := fun w h => specRangeOf_any b k xs f q w h (by omega)
      have hf1 := fun w h => implItemsFault_any b k xs w h (by omega)
      have hf2 := fun w h => specItemsFault_any b k xs w h (by omega)
      generalize rgC xs f q = c at hsp hne
      generalize rgR xs f q = R at hsp o3
      generalize itemsF xs = it at hf1 hf2
      clear hc o3
      have hbA : Below w3.heap.size w3 (w3.alloc (.cells #[.int .i64 c, .int .i64 R.length, .slice b3 R.length k3] 31)) := by go_grown
      have B3 := Blk.new w3 31 #[.int .i64 c, .int .i64 R.length, .slice b3 R.length k3]
      replace hx := hx.below hbA
      replace hb := hb.trans (hbA.mono hb.size)
      have d0 := B3.cell 0 _ rfl
      go_wp2_with fail
      generalize w3.alloc (.cells #[.int .i64 c, .int .i64 R.length, .slice b3 R.length k3] 31) = W at *
      have cc0 : ∀ u : Lat W, u.val.cell? ⟨w3.heap.size, 0, none⟩ = some (.int .i64 c) := fun u => (u.isBelow.cell (p := ⟨w3.heap.size, 0, none⟩) B3.lt).trans d0
      clear d0 B3 hbA
      have hW : Below W.heap.size W W.drew := (Below.refl _ _).drew
      have hnn : Nonempty (Lat W) := ⟨⟨W, Below.refl _ _⟩⟩
      have hfl := fieldIR0
      have hcc : (c == c) = true := by simp
      have hii : (it == it) = true := by simp
      refine text_begin (S := fun w' => ∃ u : Lat W, w' = u.val) (by kernel_rfl) ?_
      refine seg_range [(0, 3), (5, 2)] 11 (by kernel_rfl) (by kernel_rfl) (by kernel_rfl) (by kernel_rfl) (by kernel_rfl) ⟨⟨_, hW⟩, rfl⟩ ?_
      simp only [pickR, List.toList_toArray, List.flatMap_cons, List.flatMap_nil, List.drop_succ_cons, List.drop_zero, List.take_succ_cons, List.take_zero, List.cons_append, List.nil_append, List.append_nil]
      repeat go_big_quiet_step (fail)
      refine wpQuiet_nil ?_
      refine call_at 3 (some 27) 27 #[.slice b xs.length k, .int .i64 f, .int .i64 q] 10 (by kernel_rfl) (by kernel_rfl) (by kernel_rfl) (by kernel_rfl) (by kernel_rfl) ?_
      refine (hsp _ (hx.below hW)).mono ?_
      rintro e w9 ⟨b9, c9, rfl, o9, hb9⟩
      replace hW := hW.trans (hb9.mono hW.size)
      clear hb9
      refine ⟨_, rfl, ⟨⟨_, hW⟩, rfl⟩, ?_⟩
      simp only [Act.put, List.setIfInBounds_toArray, List.set_cons_zero, List.set_cons_succ]
      clear o9
      refine seg_range [(4, 1), (7, 3), (11, 1)] 5 (by kernel_rfl) (by kernel_rfl) (by kernel_rfl) (by kernel_rfl) (by kernel_rfl) ⟨⟨_, hW⟩, rfl⟩ ?_
      simp only [pickR, List.toList_toArray, List.flatMap_cons, List.flatMap_nil, List.drop_succ_cons, List.drop_zero, List.take_succ_cons, List.take_zero, List.cons_append, List.nil_append, List.append_nil]
      repeat go_big_quiet_step (fail)
      refine wpQuiet_nil ?_
      refine call_at 10 (some 34) 20 #[.slice b xs.length k] 4 (by kernel_rfl) (by kernel_rfl) (by kernel_rfl) (by kernel_rfl) (by kernel_rfl) ?_
      refine (hf1 _ (hx.below hW)).mono ?_
      rintro e w9 ⟨rfl, hb9⟩
      replace hW := hW.trans (hb9.mono hW.size)
      clear hb9
      refine ⟨_, rfl, ⟨⟨_, hW⟩, rfl⟩, ?_⟩
      simp only [Act.put, List.setIfInBounds_toArray, List.set_cons_zero, List.set_cons_succ]
      refine call_at 12 (some 36) 28 #[.slice b xs.length k] 3 (by kernel_rfl) (by kernel_rfl) (by kernel_rfl) (by kernel_rfl) (by kernel_rfl) ?_
      refine (hf2 _ (hx.below hW)).mono ?_
      rintro e w9 ⟨rfl, hb9⟩
      replace hW := hW.trans (hb9.mono hW.size)
      clear hb9
      refine ⟨_, rfl, ⟨⟨_, hW⟩, rfl⟩, ?_⟩
      simp only [Act.put, List.setIfInBounds_toArray, List.set_cons_zero, List.set_cons_succ]
      refine seg_range [(13, 3)] 0 (by kernel_rfl) (by kernel_rfl) (by kernel_rfl) (by kernel_rfl) (by kernel_rfl) ⟨⟨_, hW⟩, rfl⟩ ?_
      simp only [pickR, List.toList_toArray, List.flatMap_cons, List.flatMap_nil, List.drop_succ_cons, List.drop_zero, List.take_succ_cons, List.take_zero, List.cons_append, List.nil_append, List.append_nil]
      repeat go_big_quiet_step (fail)
      refine wpQuiet_nil ?_
      refine text_end (by kernel_rfl) ?_
      replace hb := hb.trans (hW.mono hb.size)
      clear hW cc0 hnn
      go_wp2
      go_ret
      exact ⟨rfl, hb⟩
  · have hd : decide (1048576 < (zs.length : Int)) = true := decide_eq_true (by omega)
    go_enter Try.func4, Try.ntmps4
    go_wp2_with fail
    refine (lwBig_any a zs.length cap w hm).mono ?_
    rintro e w1 ⟨rfl, hw⟩
    subst hw
    rw [hd]
    go_wp2
    go_ret
    exact ⟨rfl, Below.refl _ _⟩

end Go.Proofs.Yteoghlebijfbaaa
