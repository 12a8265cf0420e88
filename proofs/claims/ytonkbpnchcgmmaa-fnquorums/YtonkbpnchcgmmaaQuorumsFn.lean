/- The law FnQuorums, walked: at every list of bytes it answers true, and it writes into nothing that was there. No condition. -/
import Derived.Test.YtonkbpnchcgmmaaS5c
import Derived.Test.YtonkbpnchcgmmaaBlk5
import Derived.Test.YtonkbpnchcgmmaaDraw5b
import Derived.Test.YtonkbpnchcgmmaaLawAt
import Derived.Test.YtonkbpnchcgmmaaLawBig
import Derived.Test.YtonkbpnchcgmmaaText
namespace Go.Proofs.Ytonkbpnchcgmmaa
open Go.RowKit
open Go.BigFrame
set_option linter.unusedVariables false
set_option linter.unusedSimpArgs false

theorem fieldN0 (c v : Int) (w : World) : (Instr.field 29 (.agg #[.int .i64 c, .int .i64 v]) 0).run Try.prog w = .ok (.int .i64 c) w := by kernel_rfl
theorem fieldN1 (c v : Int) (w : World) : (Instr.field 29 (.agg #[.int .i64 c, .int .i64 v]) 1).run Try.prog w = .ok (.int .i64 v) w := by kernel_rfl
theorem fieldL1 (c : Int) (a : Option Addr) (l k : Nat) (w : World) : (Instr.field 37 (.agg #[.int .i64 c, .slice a l k]) 1).run Try.prog w = .ok (.slice a l k) w := by kernel_rfl
theorem isQuorum_b (m : Int) (w : World) : Calls Try.prog 12 #[.int .i64 m] w fun e w' => e = .returned (.bool (isQ m)) ∧ Below w.heap.size w w' :=
  (isQuorum_any m w).mono (by rintro e w' ⟨he, hw⟩; subst hw; exact ⟨he, Below.refl _ _⟩)
theorem quo4 : ∀ a ∈ [(3 : Int), 5, 6, 7], isQ a = true ∧ ∀ b ∈ [(3 : Int), 5, 6, 7], 1 ≤ (bitsR (bits .and .i64 a b)).length ∧ (bitsR (bits .and .i64 a b)).length ≤ 16 := by decide +kernel

set_option maxRecDepth 100000 in
set_option maxHeartbeats 4000000 in
theorem quorumsFn (a : Option Addr) (cap : Nat) (zs : List Int) (w : World) (h : Row .u8 w a zs) (hu : ∀ i, 0 ≤ zs.getD i 0 ∧ zs.getD i 0 ≤ 255) (hm : zs.length ≤ 9223372036854775807) :
    Calls Try.prog 3 #[.slice a zs.length cap] w fun e w' => e = .returned (.bool true) ∧ Below w.heap.size w w' := by
  by_cases hle : zs.length ≤ 1048576
  · have hd : decide (1048576 < (zs.length : Int)) = false := decide_eq_false (by omega)
    go_enter Try.func3, Try.ntmps3
    go_wp2_with fail
    refine (lwBig_any a zs.length cap w hm).mono ?_
    rintro e w1 ⟨rfl, hw⟩
    replace hw := hw.symm
    subst hw
    rw [hd]
    go_wp2_with fail
    refine (drawIsQuorum_any a cap zs _ h hu hle).mono ?_
    rintro e w2 ⟨m0, rfl, hb⟩
    have hcv := drawCountVotes_any a cap zs w2 (h.below hb) hu hle
    go_wp2_with fail
    refine hcv.mono ?_
    rintro e w3 ⟨b1, k1, ys, x0, x1, rfl, hy1, hR1, hb3⟩
    replace hb := hb.trans (hb3.mono hb.size)
    clear hcv hb3
    have hic := implCount_any b1 k1 ys x0 x1 w3 hR1 (by omega)
    have hc2 := fun w h => specCount_any b1 k1 ys x0 x1 w h (by omega)
    generalize cvC ys x0 x1 = C at hic hc2
    generalize cvV ys x0 x1 = V at hic hc2
    go_wp2_with fail
    refine hic.mono ?_
    rintro e w4 ⟨rfl, hb4⟩
    replace hb := hb.trans (hb4.mono hb.size)
    replace hR1 := hR1.below hb4
    clear hic hb4
    have hbA : Below w4.heap.size w4 (w4.alloc (.cells #[.int .i64 C, .int .i64 V] 29)) := by go_grown
    have B4 := Blk.new w4 29 #[.int .i64 C, .int .i64 V]
    replace hR1 := hR1.below hbA
    replace hb := hb.trans (hbA.mono hb.size)
    have hvf := drawVotesFault_any a cap zs _ (h.below hb) hu hle
    go_wp2_with fail
    generalize w4.alloc (.cells #[.int .i64 C, .int .i64 V] 29) = W4 at *
    refine hvf.mono ?_
    rintro e W ⟨b2, k2, ys2, y0, rfl, hy2, hR2, hb5⟩
    replace hb := hb.trans (hb5.mono hb.size)
    replace hR1 := hR1.below hb5
    replace B4 := B4.below hb5
    clear hvf hb5 hbA
    have hq1 := isQuorum_b m0
    have hq2 := specQuorum_any m0
    have hv1 := fun w h => votesFault_b b2 k2 ys2 y0 w h (by omega)
    have hv2 := fun w h => specVotesFault_any b2 k2 ys2 y0 w h (by omega)
    generalize isQ m0 = Q0 at hq1 hq2
    generalize vfault ys2 y0 = F0 at hv1 hv2
    have d0 := B4.cell 0 (.int .i64 C) rfl
    have d1 := B4.cell 1 (.int .i64 V) rfl
    go_wp2_with fail
    have cc0 : ∀ u : Lat W, u.val.cell? ⟨w4.heap.size, 0, none⟩ = some (.int .i64 C) := fun u => (u.isBelow.cell (p := ⟨w4.heap.size, 0, none⟩) B4.lt).trans d0
    have cc1 : ∀ u : Lat W, u.val.cell? ⟨w4.heap.size, 1, none⟩ = some (.int .i64 V) := fun u => (u.isBelow.cell (p := ⟨w4.heap.size, 1, none⟩) B4.lt).trans d1
    clear d0 d1 B4
    have hW : Below W.heap.size W W.drew := (Below.refl _ _).drew
    have hnn : Nonempty (Lat W) := ⟨⟨W, Below.refl _ _⟩⟩
    have hfl0 := fieldN0
    have hfl1 := fieldN1
    have hQQ : (Q0 != Q0) = false := by simp
    have hCC : (C != C) = false := by simp
    have hVV : (V != V) = false := by simp
    have hFF : (F0 != F0) = false := by simp
    have HB : Hid (Below w.heap.size w W) := hb
    clear hb
    refine text_begin (S := fun w' => ∃ u : Lat W, w' = u.val) (by kernel_rfl) ?_
    refine seg_range [(0, 1), (2, 1)] 32 (by kernel_rfl) (by kernel_rfl) (by kernel_rfl) (by kernel_rfl) (by kernel_rfl) ⟨⟨_, hW⟩, rfl⟩ ?_
    simp only [pickR, List.toList_toArray, List.flatMap_cons, List.flatMap_nil, List.drop_succ_cons, List.drop_zero, List.take_succ_cons, List.take_zero, List.cons_append, List.nil_append, List.append_nil]
    repeat go_big_quiet_step (fail)
    refine wpQuiet_nil ?_
    refine call_at 1 (some 32) 12 #[.int .i64 m0] 31 (by kernel_rfl) (by kernel_rfl) (by kernel_rfl) (by kernel_rfl) (by kernel_rfl) ?_
    refine (hq1 _).mono ?_
    rintro e w9 ⟨rfl, hb⟩
    replace hW := hW.trans (hb.mono hW.size)
    refine ⟨_, rfl, ⟨⟨_, hW⟩, rfl⟩, ?_⟩
    simp only [Act.put, List.setIfInBounds_toArray, List.set_cons_zero, List.set_cons_succ]
    refine call_at 3 (some 34) 13 #[.int .i64 m0] 30 (by kernel_rfl) (by kernel_rfl) (by kernel_rfl) (by kernel_rfl) (by kernel_rfl) ?_
    refine (hq2 _).mono ?_
    rintro e w9 ⟨rfl, hb⟩
    replace hW := hW.trans (hb.mono hW.size)
    refine ⟨_, rfl, ⟨⟨_, hW⟩, rfl⟩, ?_⟩
    simp only [Act.put, List.setIfInBounds_toArray, List.set_cons_zero, List.set_cons_succ]
    refine seg_range [(4, 7)] 23 (by kernel_rfl) (by kernel_rfl) (by kernel_rfl) (by kernel_rfl) (by kernel_rfl) ⟨⟨_, hW⟩, rfl⟩ ?_
    simp only [pickR, List.toList_toArray, List.flatMap_cons, List.flatMap_nil, List.drop_succ_cons, List.drop_zero, List.take_succ_cons, List.take_zero, List.cons_append, List.nil_append, List.append_nil]
    repeat go_big_quiet_step (fail)
    refine wpQuiet_nil ?_
    refine call_at 11 (some 42) 14 #[.slice b1 ys.length k1, .int .i64 x0, .int .i64 x1] 22 (by kernel_rfl) (by kernel_rfl) (by kernel_rfl) (by kernel_rfl) (by kernel_rfl) ?_
    refine (hc2 _ (hR1.below hW)).mono ?_
    rintro e w9 ⟨rfl, hb⟩
    replace hW := hW.trans (hb.mono hW.size)
    refine ⟨_, rfl, ⟨⟨_, hW⟩, rfl⟩, ?_⟩
    simp only [Act.put, List.setIfInBounds_toArray, List.set_cons_zero, List.set_cons_succ]
    refine seg_range [(12, 9)] 13 (by kernel_rfl) (by kernel_rfl) (by kernel_rfl) (by kernel_rfl) (by kernel_rfl) ⟨⟨_, hW⟩, rfl⟩ ?_
    simp only [pickR, List.toList_toArray, List.flatMap_cons, List.flatMap_nil, List.drop_succ_cons, List.drop_zero, List.take_succ_cons, List.take_zero, List.cons_append, List.nil_append, List.append_nil]
    repeat go_big_quiet_step (fail)
    refine wpQuiet_nil ?_
    refine call_at 21 (some 52) 14 #[.slice b1 ys.length k1, .int .i64 x0, .int .i64 x1] 12 (by kernel_rfl) (by kernel_rfl) (by kernel_rfl) (by kernel_rfl) (by kernel_rfl) ?_
    refine (hc2 _ (hR1.below hW)).mono ?_
    rintro e w9 ⟨rfl, hb⟩
    replace hW := hW.trans (hb.mono hW.size)
    refine ⟨_, rfl, ⟨⟨_, hW⟩, rfl⟩, ?_⟩
    simp only [Act.put, List.setIfInBounds_toArray, List.set_cons_zero, List.set_cons_succ]
    refine seg_range [(22, 6), (29, 2)] 4 (by kernel_rfl) (by kernel_rfl) (by kernel_rfl) (by kernel_rfl) (by kernel_rfl) ⟨⟨_, hW⟩, rfl⟩ ?_
    simp only [pickR, List.toList_toArray, List.flatMap_cons, List.flatMap_nil, List.drop_succ_cons, List.drop_zero, List.take_succ_cons, List.take_zero, List.cons_append, List.nil_append, List.append_nil]
    repeat go_big_quiet_step (fail)
    refine wpQuiet_nil ?_
    refine call_at 28 (some 59) 15 #[.slice b2 ys2.length k2, .int .i64 y0] 3 (by kernel_rfl) (by kernel_rfl) (by kernel_rfl) (by kernel_rfl) (by kernel_rfl) ?_
    refine (hv1 _ (hR2.below hW)).mono ?_
    rintro e w9 ⟨rfl, hb⟩
    replace hW := hW.trans (hb.mono hW.size)
    refine ⟨_, rfl, ⟨⟨_, hW⟩, rfl⟩, ?_⟩
    simp only [Act.put, List.setIfInBounds_toArray, List.set_cons_zero, List.set_cons_succ]
    refine call_at 31 (some 62) 16 #[.slice b2 ys2.length k2, .int .i64 y0] 2 (by kernel_rfl) (by kernel_rfl) (by kernel_rfl) (by kernel_rfl) (by kernel_rfl) ?_
    refine (hv2 _ (hR2.below hW)).mono ?_
    rintro e w9 ⟨rfl, hb⟩
    replace hW := hW.trans (hb.mono hW.size)
    refine ⟨_, rfl, ⟨⟨_, hW⟩, rfl⟩, ?_⟩
    simp only [Act.put, List.setIfInBounds_toArray, List.set_cons_zero, List.set_cons_succ]
    refine seg_range [(32, 2)] 0 (by kernel_rfl) (by kernel_rfl) (by kernel_rfl) (by kernel_rfl) (by kernel_rfl) ⟨⟨_, hW⟩, rfl⟩ ?_
    simp only [pickR, List.toList_toArray, List.flatMap_cons, List.flatMap_nil, List.drop_succ_cons, List.drop_zero, List.take_succ_cons, List.take_zero, List.cons_append, List.nil_append, List.append_nil]
    repeat go_big_quiet_step (fail)
    refine wpQuiet_nil ?_
    refine text_end (by kernel_rfl) ?_
    have hb := HB.out.trans (hW.mono HB.out.size)
    clear hW cc0 cc1 hnn hfl0 hfl1 hQQ hCC hVV hFF HB hq1 hq2 hv1 hv2 hc2
    have hm1 := lwMask_any a cap zs 1 _ (h.below hb) hu hle (by omega)
    go_wp2_with fail
    refine hm1.mono ?_
    rintro e V1 ⟨r1, rfl, hr1, hb1⟩
    replace hb := hb.trans (hb1.mono hb.size)
    clear hm1 hb1
    have hm2 := lwMask_any a cap zs 2 _ (h.below hb) hu hle (by omega)
    go_wp2_with fail
    refine hm2.mono ?_
    rintro e V2 ⟨r2, rfl, hr2, hb1⟩
    replace hb := hb.trans (hb1.mono hb.size)
    clear hm2 hb1
    have hr1' : r1 ∈ [(3 : Int), 5, 6, 7] := by simpa using hr1
    have hr2' : r2 ∈ [(3 : Int), 5, 6, 7] := by simpa using hr2
    obtain ⟨q1, q2⟩ := quo4 r1 hr1'
    obtain ⟨q3, _⟩ := quo4 r2 hr2'
    obtain ⟨q4, q5⟩ := q2 r2 hr2'
    have hi1 := isQuorum_any r1 V2
    have hi2 := isQuorum_any r2 V2
    rw [q1] at hi1
    rw [q3] at hi2
    have hbo := implBits_any (bits .and .i64 r1 r2) V2
    clear q1 q2 q3 hr1' hr2' hr1 hr2
    generalize bitsR (bits .and .i64 r1 r2) = L at *
    generalize bitsC (bits .and .i64 r1 r2) = D at *
    have q6 : decide (1 ≤ (L.length : Int)) = true := decide_eq_true (by omega)
    have q7 : decide (1 ≤ L.length) = true := decide_eq_true (by omega)
    go_wp2_with fail
    refine hi1.mono ?_
    rintro e V3 ⟨rfl, hw⟩
    replace hw := hw.symm
    subst hw
    go_wp2_with fail
    refine hi2.mono ?_
    rintro e V3 ⟨rfl, hw⟩
    replace hw := hw.symm
    subst hw
    go_wp2_with fail
    refine hbo.mono ?_
    rintro e V3 ⟨a3, c3, rfl, _, hb1⟩
    replace hb := hb.trans (hb1.mono hb.size)
    clear hbo hb1 hi1 hi2
    have hfl := fieldL1 D a3 L.length c3 V3
    go_wp2
    go_ret
    exact ⟨by simp, hb⟩
  · have hd : decide (1048576 < (zs.length : Int)) = true := decide_eq_true (by omega)
    go_enter Try.func3, Try.ntmps3
    go_wp2_with fail
    refine (lwBig_any a zs.length cap w hm).mono ?_
    rintro e w1 ⟨rfl, hw⟩
    replace hw := hw.symm
    subst hw
    rw [hd]
    go_wp2
    go_ret
    exact ⟨rfl, Below.refl _ _⟩

end Go.Proofs.Ytonkbpnchcgmmaa
