/- The law FnExecs, walked: at every list of bytes it answers true, and it writes into nothing that was there. No condition. -/
import Derived.Test.YteoghlebijfbaaaDraw2d
import Derived.Test.YteoghlebijfbaaaLawBig
import Derived.Test.YteoghlebijfbaaaLawHelp
import Derived.Test.YteoghlebijfbaaaExecsA
import Derived.Test.YteoghlebijfbaaaItemSame
namespace Go.Proofs.Yteoghlebijfbaaa
open Go.RowKit Go.Maps
open Go.BigFrame
set_option linter.unusedVariables false
set_option linter.unusedSimpArgs false

theorem fieldI0 (c v : Int) (w : World) : (Instr.field 43 (.agg #[.int .i64 c, .int .i64 v]) 0).run Try.prog w = .ok (.int .i64 c) w := by kernel_rfl
theorem fieldI1 (c v : Int) (w : World) : (Instr.field 43 (.agg #[.int .i64 c, .int .i64 v]) 1).run Try.prog w = .ok (.int .i64 v) w := by kernel_rfl
theorem fieldIT0 (c v : Int) (a : Option Addr) (l k : Nat) (w : World) : (Instr.field 31 (.agg #[.int .i64 c, .int .i64 v, .slice a l k]) 0).run Try.prog w = .ok (.int .i64 c) w := by kernel_rfl
theorem fieldIT1 (c v : Int) (a : Option Addr) (l k : Nat) (w : World) : (Instr.field 31 (.agg #[.int .i64 c, .int .i64 v, .slice a l k]) 1).run Try.prog w = .ok (.int .i64 v) w := by kernel_rfl
theorem fieldIT2 (c v : Int) (a : Option Addr) (l k : Nat) (w : World) : (Instr.field 31 (.agg #[.int .i64 c, .int .i64 v, .slice a l k]) 2).run Try.prog w = .ok (.slice a l k) w := by kernel_rfl
theorem fieldAN0 (c : Int) (a1 a2 a3 : Option Addr) (l1 k1 l2 k2 l3 k3 : Nat) (w : World) : (Instr.field 38 (.agg #[.int .i64 c, .slice a1 l1 k1, .slice a2 l2 k2, .slice a3 l3 k3]) 0).run Try.prog w = .ok (.int .i64 c) w := by kernel_rfl

set_option maxRecDepth 100000 in
set_option maxHeartbeats 6000000 in
theorem execsFn (a : Option Addr) (cap : Nat) (bs : List Int) (w : World) (h : Row .u8 w a bs) (hu : ∀ i, 0 ≤ bs.getD i 0 ∧ bs.getD i 0 ≤ 255) (hm : bs.length ≤ 9223372036854775807) :
    Calls Try.prog 3 #[.slice a bs.length cap] w fun e w' => e = .returned (.bool true) ∧ Below w.heap.size w w' := by
  by_cases hle : bs.length ≤ 1048576
  · have hd : decide (1048576 < (bs.length : Int)) = false := decide_eq_false (by omega)
    go_enter Try.func3, Try.ntmps3
    go_wp2_with fail
    refine (lwBig_any a bs.length cap w hm).mono ?_
    rintro e w1 ⟨rfl, hw⟩
    subst hw
    rw [hd]
    have hb : Below w1.heap.size w1 w1 := Below.refl _ _
    go_wp2_with fail
    refine (drawExecTxn_any a cap bs _ h hu hle).mono ?_
    rintro e w2 ⟨b0, k0, xs, i, s, q, ta, tc, zs, rfl, hxl, hN0, hzl, hx, ht, hb2⟩
    replace hb := hb.trans (hb2.mono hb.size)
    clear hb2
    have hbA : Below w2.heap.size w2 (w2.alloc (.cells #[.int .i64 i, .int .i64 s, .int .i64 q, .slice ta zs.length tc] 27)) := by go_grown
    have Bt := Blk.new w2 27 #[.int .i64 i, .int .i64 s, .int .i64 q, .slice ta zs.length tc]
    replace hx := hx.below hbA
    replace ht : ActRow _ ta zs := ht.below hbA
    replace hb := hb.trans (hbA.mono hb.size)
    have him := fun w h ht => implExecTxn_any b0 k0 xs i s q ta tc zs w h ht (by omega) (by omega)
    have hsp := fun w h ht => specExecTxn_any b0 k0 xs i s q ta tc zs w h hN0 ht (by omega) (by omega)
    have hel : (exR xs i s q zs).length ≤ 8 := exR_le xs i s q zs
    have HEX : Hid (exC xs i s q zs = 0 → itemsF (exR xs i s q zs) = 0) := ex_good
    generalize exC xs i s q zs = d at him hsp HEX
    generalize exV xs i s q zs = y at him hsp
    generalize exR xs i s q zs = es at him hsp hel HEX
    have t0 := Bt.cell 0 _ rfl
    have t1 := Bt.cell 1 _ rfl
    have t2 := Bt.cell 2 _ rfl
    have t3 := Bt.cell 3 _ rfl
    go_wp2_with fail
    generalize w2.alloc (.cells #[.int .i64 i, .int .i64 s, .int .i64 q, .slice ta zs.length tc] 27) = W2 at hbA Bt hx ht hb t0 t1 t2 t3
    clear t0 t1 t2 t3 hbA
    refine (him _ hx ht).mono ?_
    rintro e w3 ⟨ea, ec, rfl, oe, hb3⟩
    have he : ItemRow w3 ea es := Lies.own oe
    replace Bt := Bt.below hb3
    replace hx := hx.below hb3
    replace ht := Lies.below ht hb3
    replace hb := hb.trans (hb3.mono hb.size)
    clear hb3 oe him
    have hbA : Below w3.heap.size w3 (w3.alloc (.cells #[.int .i64 d, .int .i64 y, .slice ea es.length ec] 31)) := by go_grown
    have Be := Blk.new w3 31 #[.int .i64 d, .int .i64 y, .slice ea es.length ec]
    replace Bt := Bt.below hbA
    replace hx := hx.below hbA
    replace ht := Lies.below ht hbA
    replace he := he.below hbA
    replace hb := hb.trans (hbA.mono hb.size)
    go_wp2_with fail
    generalize w3.alloc (.cells #[.int .i64 d, .int .i64 y, .slice ea es.length ec] 31) = W3 at hbA Bt Be hx ht he hb
    clear hbA
    refine (drawExecAll_any a cap bs _ (h.below hb) hu hle).mono ?_
    rintro e w4 ⟨b1, k1, xs1, v1, ps, rfl, hxl1, hN1, hpl, hpa, hx1, hR, hb4⟩
    obtain ⟨va, vc, rfl⟩ := own_shape hR.1
    have hT1 : TxnsAt w4 (.slice va ps.length vc) (ps.map TxnP.d) := hR.at
    have hsA : (ps.map TxnP.d).length + sumA (ps.map TxnP.d) ≤ 1048576 := by
      have := sumA_le (ds := ps.map TxnP.d) (fun d hd => by obtain ⟨p, hp, rfl⟩ := List.mem_map.1 hd; exact hpa p hp)
      simp at this ⊢
      omega
    replace Bt := Bt.below hb4
    replace Be := Be.below hb4
    replace hx := hx.below hb4
    replace ht := Lies.below ht hb4
    replace he := he.below hb4
    replace hb := hb.trans (hb4.mono hb.size)
    clear hb4 hpa
    have HR : Hid (TxnRow W3.heap.size w4 (.slice va ps.length vc) ps) := hR
    clear hR
    go_wp2_with fail
    refine (implExecAll_any b1 k1 xs1 _ _ w4 hx1 hN1 hT1 (by omega) hsA).mono ?_
    rintro e w5 ⟨aa1, ac1, aa2, ac2, aa3, ac3, rfl, oA, hb5⟩
    have hspA := fun w h ht => specExecAll_any b1 k1 xs1 (.slice va ps.length vc) (ps.map TxnP.d) w h hN1 ht (by omega) hsA
    have HCUT : Hid (∀ k, eaC xs1 (ps.map TxnP.d) = 0 → _) := fun k hk => ea_cut hk k
    have hAl := ea_le xs1 (ps.map TxnP.d)
    have hA := oA.row
    have hNA := nice_own oA.o3.1
    generalize eaC xs1 (ps.map TxnP.d) = dc at hspA HCUT ⊢
    generalize eaCd xs1 (ps.map TxnP.d) = cs at hspA HCUT hA hAl ⊢
    generalize eaVl xs1 (ps.map TxnP.d) = vls at hspA HCUT hA hAl ⊢
    generalize eaI xs1 (ps.map TxnP.d) = its at hspA HCUT hA hAl hNA ⊢
    clear oA
    replace Bt := Bt.below hb5
    replace Be := Be.below hb5
    replace hx := hx.below hb5
    replace ht := Lies.below ht hb5
    replace he := he.below hb5
    replace hx1 := hx1.below hb5
    replace hT1 := hT1.below hb5
    replace hb := hb.trans (hb5.mono hb.size)
    clear hb5
    have hbA : Below w5.heap.size w5 (w5.alloc (.cells #[.int .i64 dc, .slice aa1 cs.length ac1, .slice aa2 vls.length ac2, .slice aa3 its.length ac3] 38)) := by go_grown
    have Ba := Blk.new w5 38 #[.int .i64 dc, .slice aa1 cs.length ac1, .slice aa2 vls.length ac2, .slice aa3 its.length ac3]
    replace Bt := Bt.below hbA
    replace Be := Be.below hbA
    replace hx := hx.below hbA
    replace ht := Lies.below ht hbA
    replace he := he.below hbA
    replace hx1 := hx1.below hbA
    replace hT1 := hT1.below hbA
    replace hA := hA.below hbA
    replace hb := hb.trans (hbA.mono hb.size)
    go_wp2_with fail
    generalize w5.alloc (.cells #[.int .i64 dc, .slice aa1 cs.length ac1, .slice aa2 vls.length ac2, .slice aa3 its.length ac3] 38) = W5 at hbA Bt Be Ba hx ht he hx1 hT1 hA hb
    clear hbA
    refine (drawValueAt_any a cap bs _ (h.below hb) hu hle).mono ?_
    rintro e W ⟨b2, k2, xs2, key, rfl, hxl2, hx2, hb6⟩
    replace Bt := Bt.below hb6
    replace Be := Be.below hb6
    replace Ba := Ba.below hb6
    replace hx := hx.below hb6
    replace ht := Lies.below ht hb6
    replace he := he.below hb6
    replace hx1 := hx1.below hb6
    replace hT1 := hT1.below hb6
    replace hA := hA.below hb6
    replace hb := hb.trans (hb6.mono hb.size)
    clear hb6
    have hq17 := fun w h => implValueAt_any b2 k2 xs2 key w h (by omega)
    have hq18 := fun w h => specValueAt_any b2 k2 xs2 key w h (by omega)
    generalize vaC xs2 key = vc0 at hq17 hq18
    generalize vaV xs2 key = vv0 at hq17 hq18
    have n1 : (vc0 != vc0) = false := by simp
    have n2 : (vv0 != vv0) = false := by simp
    have n3 : (d != d) = false := by simp
    have n4 : (y != y) = false := by simp
    have hf0 := fieldI0
    have hf1 := fieldI1
    have hf2 := fieldIT0
    have hf3 := fieldIT1
    have hf4 := fieldIT2
    have hW : Below W.heap.size W W.drew := (Below.refl _ _).drew
    have hnn : Nonempty (Lat W) := ⟨⟨W, Below.refl _ _⟩⟩
    have e0 := Be.lat 0 _ rfl
    have e1 := Be.lat 1 _ rfl
    have e2 := Be.lat 2 _ rfl
    have u0 := Bt.lat 0 _ rfl
    have u1 := Bt.lat 1 _ rfl
    have u2 := Bt.lat 2 _ rfl
    have u3 := Bt.lat 3 _ rfl
    by_cases hd0 : d = 0
    · have k0d : (d == 0) = true := by simp [hd0]
      have hq20 := fun w h => implItemsFault_any ea ec es w h (by omega)
      rw [HEX.out hd0] at hq20
      have hq21 := fun rb rc w h h' => implSameItems_any ea rb ec rc es es w h h' (by omega) (by omega)
      rw [sameIs_refl] at hq21
      clear hd0
      go_wp2_with fail
      refine text_begin (S := fun w' => ∃ u : Lat W, w' = u.val) (by kernel_rfl) ?_
      refine seg_range [(0, 2), (4, 2)] 55 (by kernel_rfl) (by kernel_rfl) (by kernel_rfl) (by kernel_rfl) (by kernel_rfl) ⟨⟨_, hW⟩, rfl⟩ ?_
      simp only [pickR, List.toList_toArray, List.flatMap_cons, List.flatMap_nil, List.drop_succ_cons, List.drop_zero, List.take_succ_cons, List.take_zero, List.cons_append, List.nil_append, List.append_nil]
      repeat go_big_quiet_step (fail)
      refine wpQuiet_nil ?_
      refine call_at 2 (some 39) 17 #[.slice b2 xs2.length k2, .int .i64 key] 54 (by kernel_rfl) (by kernel_rfl) (by kernel_rfl) (by kernel_rfl) (by kernel_rfl) ?_
      refine (hq17 _ (hx2.below hW)).mono ?_
      rintro e w9 ⟨rfl, hb9⟩
      replace hW := hW.trans (hb9.mono hW.size)
      clear hb9
      refine ⟨_, rfl, ⟨⟨_, hW⟩, rfl⟩, ?_⟩
      simp only [Act.put, List.setIfInBounds_toArray, List.set_cons_zero, List.set_cons_succ]
      refine seg_range [(3, 1)] 53 (by kernel_rfl) (by kernel_rfl) (by kernel_rfl) (by kernel_rfl) (by kernel_rfl) ⟨⟨_, hW⟩, rfl⟩ ?_
      simp only [pickR, List.toList_toArray, List.flatMap_cons, List.flatMap_nil, List.drop_succ_cons, List.drop_zero, List.take_succ_cons, List.take_zero, List.cons_append, List.nil_append, List.append_nil]
      repeat go_big_quiet_step (fail)
      refine wpQuiet_nil ?_
      refine call_at 6 (some 43) 18 #[.slice b2 xs2.length k2, .int .i64 key] 52 (by kernel_rfl) (by kernel_rfl) (by kernel_rfl) (by kernel_rfl) (by kernel_rfl) ?_
      refine (hq18 _ (hx2.below hW)).mono ?_
      rintro e w9 ⟨rfl, hb9⟩
      replace hW := hW.trans (hb9.mono hW.size)
      clear hb9
      refine ⟨_, rfl, ⟨⟨_, hW⟩, rfl⟩, ?_⟩
      simp only [Act.put, List.setIfInBounds_toArray, List.set_cons_zero, List.set_cons_succ]
      refine seg_range [(7, 5), (14, 2)] 45 (by kernel_rfl) (by kernel_rfl) (by kernel_rfl) (by kernel_rfl) (by kernel_rfl) ⟨⟨_, hW⟩, rfl⟩ ?_
      simp only [pickR, List.toList_toArray, List.flatMap_cons, List.flatMap_nil, List.drop_succ_cons, List.drop_zero, List.take_succ_cons, List.take_zero, List.cons_append, List.nil_append, List.append_nil]
      repeat go_big_quiet_step (fail)
      refine wpQuiet_nil ?_
      refine call_at 12 (some 49) 17 #[.slice b2 xs2.length k2, .int .i64 key] 44 (by kernel_rfl) (by kernel_rfl) (by kernel_rfl) (by kernel_rfl) (by kernel_rfl) ?_
      refine (hq17 _ (hx2.below hW)).mono ?_
      rintro e w9 ⟨rfl, hb9⟩
      replace hW := hW.trans (hb9.mono hW.size)
      clear hb9
      refine ⟨_, rfl, ⟨⟨_, hW⟩, rfl⟩, ?_⟩
      simp only [Act.put, List.setIfInBounds_toArray, List.set_cons_zero, List.set_cons_succ]
      refine seg_range [(13, 1)] 43 (by kernel_rfl) (by kernel_rfl) (by kernel_rfl) (by kernel_rfl) (by kernel_rfl) ⟨⟨_, hW⟩, rfl⟩ ?_
      simp only [pickR, List.toList_toArray, List.flatMap_cons, List.flatMap_nil, List.drop_succ_cons, List.drop_zero, List.take_succ_cons, List.take_zero, List.cons_append, List.nil_append, List.append_nil]
      repeat go_big_quiet_step (fail)
      refine wpQuiet_nil ?_
      refine call_at 16 (some 53) 18 #[.slice b2 xs2.length k2, .int .i64 key] 42 (by kernel_rfl) (by kernel_rfl) (by kernel_rfl) (by kernel_rfl) (by kernel_rfl) ?_
      refine (hq18 _ (hx2.below hW)).mono ?_
      rintro e w9 ⟨rfl, hb9⟩
      replace hW := hW.trans (hb9.mono hW.size)
      clear hb9
      refine ⟨_, rfl, ⟨⟨_, hW⟩, rfl⟩, ?_⟩
      simp only [Act.put, List.setIfInBounds_toArray, List.set_cons_zero, List.set_cons_succ]
      refine seg_range [(17, 8)] 34 (by kernel_rfl) (by kernel_rfl) (by kernel_rfl) (by kernel_rfl) (by kernel_rfl) ⟨⟨_, hW⟩, rfl⟩ ?_
      simp only [pickR, List.toList_toArray, List.flatMap_cons, List.flatMap_nil, List.drop_succ_cons, List.drop_zero, List.take_succ_cons, List.take_zero, List.cons_append, List.nil_append, List.append_nil]
      repeat go_big_quiet_step (fail)
      refine wpQuiet_nil ?_
      refine call_at 25 (some 62) 19 #[.slice b0 xs.length k0, .agg #[.int .i64 i, .int .i64 s, .int .i64 q, .slice ta zs.length tc]] 33 (by kernel_rfl) (by kernel_rfl) (by kernel_rfl) (by kernel_rfl) (by kernel_rfl) ?_
      refine (hsp _ (hx.below hW) (Lies.below ht hW)).mono ?_
      rintro e w9 ⟨rb25, rc25, rfl, o9, hb9⟩
      replace hW := hW.trans (hb9.mono hW.size)
      clear o9
      clear hb9
      refine ⟨_, rfl, ⟨⟨_, hW⟩, rfl⟩, ?_⟩
      simp only [Act.put, List.setIfInBounds_toArray, List.set_cons_zero, List.set_cons_succ]
      refine seg_range [(26, 10)] 23 (by kernel_rfl) (by kernel_rfl) (by kernel_rfl) (by kernel_rfl) (by kernel_rfl) ⟨⟨_, hW⟩, rfl⟩ ?_
      simp only [pickR, List.toList_toArray, List.flatMap_cons, List.flatMap_nil, List.drop_succ_cons, List.drop_zero, List.take_succ_cons, List.take_zero, List.cons_append, List.nil_append, List.append_nil]
      repeat go_big_quiet_step (fail)
      refine wpQuiet_nil ?_
      refine call_at 36 (some 73) 20 #[.slice ea es.length ec] 22 (by kernel_rfl) (by kernel_rfl) (by kernel_rfl) (by kernel_rfl) (by kernel_rfl) ?_
      refine (hq20 _ (he.below hW)).mono ?_
      rintro e w9 ⟨rfl, hb9⟩
      replace hW := hW.trans (hb9.mono hW.size)
      clear hb9
      refine ⟨_, rfl, ⟨⟨_, hW⟩, rfl⟩, ?_⟩
      simp only [Act.put, List.setIfInBounds_toArray, List.set_cons_zero, List.set_cons_succ]
      refine seg_range [(37, 6)] 16 (by kernel_rfl) (by kernel_rfl) (by kernel_rfl) (by kernel_rfl) (by kernel_rfl) ⟨⟨_, hW⟩, rfl⟩ ?_
      simp only [pickR, List.toList_toArray, List.flatMap_cons, List.flatMap_nil, List.drop_succ_cons, List.drop_zero, List.take_succ_cons, List.take_zero, List.cons_append, List.nil_append, List.append_nil]
      repeat go_big_quiet_step (fail)
      refine wpQuiet_nil ?_
      refine call_at 43 (some 80) 19 #[.slice b0 xs.length k0, .agg #[.int .i64 i, .int .i64 s, .int .i64 q, .slice ta zs.length tc]] 15 (by kernel_rfl) (by kernel_rfl) (by kernel_rfl) (by kernel_rfl) (by kernel_rfl) ?_
      refine (hsp _ (hx.below hW) (Lies.below ht hW)).mono ?_
      rintro e w9 ⟨rb, rc, rfl, o9, hb9⟩
      replace hW := hW.trans (hb9.mono hW.size)
      have hrb : ItemRow w9 rb es := Lies.own o9
      clear o9
      clear hb9
      refine ⟨_, rfl, ⟨⟨_, hW⟩, rfl⟩, ?_⟩
      simp only [Act.put, List.setIfInBounds_toArray, List.set_cons_zero, List.set_cons_succ]
      refine seg_range [(44, 1)] 14 (by kernel_rfl) (by kernel_rfl) (by kernel_rfl) (by kernel_rfl) (by kernel_rfl) ⟨⟨_, hW⟩, rfl⟩ ?_
      simp only [pickR, List.toList_toArray, List.flatMap_cons, List.flatMap_nil, List.drop_succ_cons, List.drop_zero, List.take_succ_cons, List.take_zero, List.cons_append, List.nil_append, List.append_nil]
      repeat go_big_quiet_step (fail)
      refine wpQuiet_nil ?_
      refine call_at 45 (some 82) 21 #[.slice ea es.length ec, .slice rb es.length rc] 13 (by kernel_rfl) (by kernel_rfl) (by kernel_rfl) (by kernel_rfl) (by kernel_rfl) ?_
      refine (hq21 _ _ _ (he.below hW) hrb).mono ?_
      rintro e w9 ⟨rfl, hb9⟩
      replace hW := hW.trans (hb9.mono hW.size)
      clear hrb
      clear hb9
      refine ⟨_, rfl, ⟨⟨_, hW⟩, rfl⟩, ?_⟩
      simp only [Act.put, List.setIfInBounds_toArray, List.set_cons_zero, List.set_cons_succ]
      refine seg_range [(46, 7)] 6 (by kernel_rfl) (by kernel_rfl) (by kernel_rfl) (by kernel_rfl) (by kernel_rfl) ⟨⟨_, hW⟩, rfl⟩ ?_
      simp only [pickR, List.toList_toArray, List.flatMap_cons, List.flatMap_nil, List.drop_succ_cons, List.drop_zero, List.take_succ_cons, List.take_zero, List.cons_append, List.nil_append, List.append_nil]
      repeat go_big_quiet_step (fail)
      refine wpQuiet_nil ?_
      refine call_at 53 (some 90) 19 #[.slice b0 xs.length k0, .agg #[.int .i64 i, .int .i64 s, .int .i64 q, .slice ta zs.length tc]] 5 (by kernel_rfl) (by kernel_rfl) (by kernel_rfl) (by kernel_rfl) (by kernel_rfl) ?_
      refine (hsp _ (hx.below hW) (Lies.below ht hW)).mono ?_
      rintro e w9 ⟨rb53, rc53, rfl, o9, hb9⟩
      replace hW := hW.trans (hb9.mono hW.size)
      clear o9
      clear hb9
      refine ⟨_, rfl, ⟨⟨_, hW⟩, rfl⟩, ?_⟩
      simp only [Act.put, List.setIfInBounds_toArray, List.set_cons_zero, List.set_cons_succ]
      refine seg_range [(54, 5)] 0 (by kernel_rfl) (by kernel_rfl) (by kernel_rfl) (by kernel_rfl) (by kernel_rfl) ⟨⟨_, hW⟩, rfl⟩ ?_
      simp only [pickR, List.toList_toArray, List.flatMap_cons, List.flatMap_nil, List.drop_succ_cons, List.drop_zero, List.take_succ_cons, List.take_zero, List.cons_append, List.nil_append, List.append_nil]
      repeat go_big_quiet_step (fail)
      refine wpQuiet_nil ?_
      refine text_end (by kernel_rfl) ?_
      replace Ba := Ba.below hW
      replace hx1 := hx1.below hW
      replace hT1 := hT1.below hW
      replace hA := hA.below hW
      replace hb := hb.trans (hW.mono hb.size)
      clear hW hnn e0 e1 e2 u0 u1 u2 u3 n1 n2 n3 n4 hq17 hq18 hsp hx2 hx ht he Be Bt
      obtain ⟨V, hVe⟩ : ∃ V, V = w9 := ⟨_, rfl⟩
      subst hVe
      have a0 := Ba.cell 0 _ rfl
      by_cases hdc : dc = 0
      · have hdn : (dc != 0) = false := by simp [hdc]
        have hR := HR.out
        obtain ⟨gv, rfl, hvc⟩ := hR.some
        clear hR HR hspA
        have hlw := lwAt_any a cap bs 3 ((ps.length : Int) + 1) V (h.below hb) hu hle (by omega) (by omega) (by omega)
        rw [show ((3 : Nat) : Int) = 3 from rfl] at hlw
        go_wp2_with fail
        clear a0
        refine hlw.mono ?_
        rintro e w6 ⟨r, rfl, hr0, hr1, hb6⟩
        obtain ⟨kk, rfl⟩ := Int.eq_ofNat_of_zero_le hr0
        have hkk : kk ≤ ps.length := by omega
        have hkv : kk ≤ vc := by omega
        replace Ba := Ba.below hb6
        replace hx1 := hx1.below hb6
        replace hT1 := hT1.below hb6
        replace hA := hA.below hb6
        replace hb := hb.trans (hb6.mono hb.size)
        clear hb6 hlw hr0 hr1
        have hlT : kk ≤ (ps.map TxnP.d).length := by simpa using hkk
        have hT2 := hT1.take kk hlT
        have hT3 := hT1.drop kk hlT hvc (vc - kk)
        have hsT : ((ps.map TxnP.d).take kk).length + sumA ((ps.map TxnP.d).take kk) ≤ 1048576 := by
          have := sumA_take_le (ps.map TxnP.d) kk
          have h2 : ((ps.map TxnP.d).take kk).length ≤ (ps.map TxnP.d).length := by rw [List.length_take]; exact Nat.min_le_right _ _
          omega
        have hsD : ((ps.map TxnP.d).drop kk).length + sumA ((ps.map TxnP.d).drop kk) ≤ 1048576 := by
          have h1 : sumA ((ps.map TxnP.d).drop kk) ≤ sumA (ps.map TxnP.d) := by
            have e : sumA (ps.map TxnP.d) = sumA ((ps.map TxnP.d).take kk) + sumA ((ps.map TxnP.d).drop kk) := by
              conv => lhs; rw [← List.take_append_drop kk (ps.map TxnP.d)]
              simp only [sumA, List.map_append, List.sum_append]
            omega
          have h2 : ((ps.map TxnP.d).drop kk).length ≤ (ps.map TxnP.d).length := by simp
          omega
        obtain ⟨g1, g2, g3, g4, g5, g6⟩ := HCUT.out kk hdc
        have hl1 := ea_le xs1 ((ps.map TxnP.d).take kk)
        have hl2 := ea_le (eaI xs1 ((ps.map TxnP.d).take kk)) ((ps.map TxnP.d).drop kk)
        have hiA := fun w h ht => implExecAll_any b1 k1 xs1 (.slice (some ⟨gv, 0, none⟩) kk vc) ((ps.map TxnP.d).take kk) w h hN1 ht (by omega) hsT
        have hiB := fun aa cc w h hN ht => implExecAll_any aa cc (eaI xs1 ((ps.map TxnP.d).take kk)) (.slice (restAt gv kk vc) (ps.length - kk) (vc - kk)) ((ps.map TxnP.d).drop kk) w h hN ht (by omega) hsD
        rw [g1] at hiA
        rw [g2] at hiB
        clear HCUT hsT hsD hsA g1 g2 hT1
        generalize hd1 : (ps.map TxnP.d).take kk = D1 at *
        generalize hd2 : (ps.map TxnP.d).drop kk = D2 at *
        clear hd1 hd2
        generalize eaCd xs1 D1 = cs1 at *
        generalize eaVl xs1 D1 = vl1 at *
        generalize eaI xs1 D1 = it1 at *
        generalize eaCd it1 D2 = cs2 at *
        generalize eaVl it1 D2 = vl2 at *
        rw [g3] at hiB hl2
        have G4 : Hid (cs1 ++ cs2 = cs) := g4
        have G5 : Hid (vl1 ++ vl2 = vls) := g5
        have G6 : Hid (itemsF its = 0) := g6
        clear g3 g4 g5 g6
        go_wp2_with fail
        refine (hiA _ hx1 hT2).mono ?_
        rintro e w7 ⟨ca1, cc1, ca2, cc2, ca3, cc3, rfl, oB, hb7⟩
        have hB := oB.row
        have nB1 := nice_own oB.o1.1
        have nB2 := nice_own oB.o2.1
        have nB3 := nice_own oB.o3.1
        clear oB hiA hT2
        have hbA : Below w7.heap.size w7 (w7.alloc (.cells #[.int .i64 0, .slice ca1 cs1.length cc1, .slice ca2 vl1.length cc2, .slice ca3 it1.length cc3] 38)) := by go_grown
        have Bb := Blk.new w7 38 #[.int .i64 0, .slice ca1 cs1.length cc1, .slice ca2 vl1.length cc2, .slice ca3 it1.length cc3]
        replace hb7 := hb7.trans (hbA.mono hb7.size)
        replace hB := hB.below hbA
        replace Ba := Ba.below hb7
        replace hT3 := hT3.below hb7
        replace hA := hA.below hb7
        replace hb := hb.trans (hb7.mono hb.size)
        clear hb7 hx1
        go_wp2_with fail
        generalize w7.alloc (.cells #[.int .i64 0, .slice ca1 cs1.length cc1, .slice ca2 vl1.length cc2, .slice ca3 it1.length cc3] 38) = W7 at hbA Bb hB Ba hT3 hA hb
        clear hbA
        refine region_vals [some 116, some 117, some 118, some 119, some 120, some 121, some 13] (fun vs w' => ∃ (da1 : Option Addr) (dc1 : Nat) (da2 : Option Addr) (dc2 : Nat) (da3 : Option Addr) (dc3 bx lo hi : Nat), vs = [.pointer (some ⟨w7.heap.size, 3, none⟩), .slice ca3 it1.length cc3, .slice (some ⟨gv, 0, none⟩) ps.length vc, .int .i64 kk, .slice (restAt gv kk vc) (ps.length - kk) (vc - kk), .agg #[.int .i64 0, .slice da1 cs2.length dc1, .slice da2 vl2.length dc2, .slice da3 its.length dc3], .pointer (some ⟨bx, 0, none⟩)] ∧ Blk w' bx 38 #[.int .i64 0, .slice da1 cs2.length dc1, .slice da2 vl2.length dc2, .slice da3 its.length dc3] ∧ OwnA lo hi w' (.slice da1 cs2.length dc1) (.slice da2 vl2.length dc2) (.slice da3 its.length dc3) cs2 vl2 its ∧ Below W7.heap.size W7 w') ?_ ?_
        · skip
          have hW : Below W7.heap.size W7 W7.drew := (Below.refl _ _).drew
          have hnn : Nonempty (Lat W7) := ⟨⟨W7, Below.refl _ _⟩⟩
          have p3 := Bb.lat 3 _ rfl
          refine text_begin (S := fun w' => ∃ u : Lat W7, w' = u.val) (by kernel_rfl) ?_
          refine seg_range [(0, 4)] 4 (by kernel_rfl) (by kernel_rfl) (by kernel_rfl) (by kernel_rfl) (by kernel_rfl) ⟨⟨_, hW⟩, rfl⟩ ?_
          simp only [pickR, List.toList_toArray, List.flatMap_cons, List.flatMap_nil, List.drop_succ_cons, List.drop_zero, List.take_succ_cons, List.take_zero, List.cons_append, List.nil_append, List.append_nil]
          repeat go_big_quiet_step (fail)
          refine wpQuiet_nil ?_
          clear p3
          have hsl := sl_lo gv kk ps.length vc hkk
          refine quiet_at 4 (some 120) (.slice (restAt gv kk vc) (ps.length - kk) (vc - kk)) 3 (by kernel_rfl) (by kernel_rfl) (by kernel_rfl) (by kernel_rfl) (by kernel_rfl) (fun u _ => ?_) ⟨⟨_, hW⟩, rfl⟩ ?_
          · show some (((Instr.sliceAt 33 (.slice (some ⟨gv, 0, none⟩) ps.length vc) (some (.int .i64 (kk : Int))) none none) >>= fun x => pure (Next.value x) : Sem Next).run Try.prog u) = _
            rw [Sem.run_bind, hsl u]
            rfl
          clear hsl
          simp only [Act.put, List.setIfInBounds_toArray, List.set_cons_zero, List.set_cons_succ]
          generalize W7.drew = wd at hW ⊢
          refine two_at 5 6 2 (by kernel_rfl) (by kernel_rfl) ?_ ?_
          · skip
            refine op_call 5 (some 121) 15 #[.slice ca3 it1.length cc3, .slice (restAt gv kk vc) (ps.length - kk) (vc - kk)] (by kernel_rfl) (by kernel_rfl) (by kernel_rfl) ?_
            refine (hiB ca3 cc3 _ (hB.r3.below hW) nB3 (hT3.below hW)).mono ?_
            rintro e w8 ⟨da1, dc1, da2, dc2, da3, dc3, rfl, oC, hb8⟩
            replace hW := hW.trans (hb8.mono hW.size)
            clear hb8
            refine ⟨_, rfl, ⟨⟨_, hW⟩, rfl⟩, ?_⟩
            simp only [Act.put, List.getElem_toArray, List.getElem_cons_succ, List.getElem_cons_zero, List.setIfInBounds_toArray, List.set_cons_zero, List.set_cons_succ]
            refine one_at 6 _ 1 (by kernel_rfl) rfl (by kernel_rfl) ?_
            have hbz : Below w8.heap.size w8 (w8.alloc (.cells #[.int .i64 0, .slice none 0 0, .slice none 0 0, .slice none 0 0] 38)) := by go_grown
            have Bz := Blk.new w8 38 #[.int .i64 0, .slice none 0 0, .slice none 0 0, .slice none 0 0]
            have hzz : W7.heap.size ≤ w8.heap.size := hW.size
            have hnb : w8.heap.size < wd.heap.size ∨ w8.heap.size ≤ w8.heap.size := Or.inr (Nat.le_refl _)
            replace hW := hW.trans (hbz.mono hW.size)
            replace oC := oC.below hbz
            go_wp2
            refine ThenGo.to ⟨⟨⟨_, hW⟩, rfl⟩, ?_⟩
            generalize w8.alloc (.cells #[.int .i64 0, .slice none 0 0, .slice none 0 0, .slice none 0 0] 38) = Z8 at hbz Bz hW oC ⊢
            clear hbz
            refine one_at 7 _ 0 (by kernel_rfl) rfl (by kernel_rfl) ?_
            have p0 := Bz.cell 0 _ rfl
            have f0 := Bz.frozen 0
            have p1 := Bz.cell 1 _ rfl
            have f1 := Bz.frozen 1
            have p2 := Bz.cell 2 _ rfl
            have f2 := Bz.frozen 2
            have p3 := Bz.cell 3 _ rfl
            have f3 := Bz.frozen 3
            go_wp2
            refine ThenGo.to ⟨⟨⟨_, ((((hW.setCell (p := ⟨w8.heap.size, 0, none⟩) hzz (.int .i64 0)).setCell (p := ⟨w8.heap.size, 1, none⟩) hzz (.slice da1 cs2.length dc1)).setCell (p := ⟨w8.heap.size, 2, none⟩) hzz (.slice da2 vl2.length dc2)).setCell (p := ⟨w8.heap.size, 3, none⟩) hzz (.slice da3 its.length dc3))⟩, rfl⟩, ?_⟩
            refine text_end (by kernel_rfl) ?_
            exact ⟨rfl, _, ⟨da1, dc1, da2, dc2, da3, dc3, w8.heap.size, _, _, rfl, ((((Bz.set 0 (.int .i64 0)).set 1 (.slice da1 cs2.length dc1)).set 2 (.slice da2 vl2.length dc2)).set 3 (.slice da3 its.length dc3)), ((((oC.set (j := 0) (u := .int .i64 0) hnb).set (j := 1) (u := .slice da1 cs2.length dc1) hnb).set (j := 2) (u := .slice da2 vl2.length dc2) hnb).set (j := 3) (u := .slice da3 its.length dc3) hnb), ((((hW.setCell (p := ⟨w8.heap.size, 0, none⟩) hzz (.int .i64 0)).setCell (p := ⟨w8.heap.size, 1, none⟩) hzz (.slice da1 cs2.length dc1)).setCell (p := ⟨w8.heap.size, 2, none⟩) hzz (.slice da2 vl2.length dc2)).setCell (p := ⟨w8.heap.size, 3, none⟩) hzz (.slice da3 its.length dc3))⟩, by kernel_rfl⟩
          · skip
            refine op_one 6 _ rfl ?_
            have hbz : Below wd.heap.size wd (wd.alloc (.cells #[.int .i64 0, .slice none 0 0, .slice none 0 0, .slice none 0 0] 38)) := by go_grown
            have Bz := Blk.new wd 38 #[.int .i64 0, .slice none 0 0, .slice none 0 0, .slice none 0 0]
            have hzz : W7.heap.size ≤ wd.heap.size := hW.size
            replace hW := hW.trans (hbz.mono hW.size)
            have hlo : wd.heap.size < (wd.alloc (.cells #[.int .i64 0, .slice none 0 0, .slice none 0 0, .slice none 0 0] 38)).heap.size := by simp
            go_wp2
            refine ThenGo.to ⟨⟨⟨_, hW⟩, rfl⟩, ?_⟩
            generalize wd.alloc (.cells #[.int .i64 0, .slice none 0 0, .slice none 0 0, .slice none 0 0] 38) = Z8 at hbz Bz hW hlo ⊢
            clear hbz
            refine call_at 5 (some 121) 15 #[.slice ca3 it1.length cc3, .slice (restAt gv kk vc) (ps.length - kk) (vc - kk)] 1 (by kernel_rfl) (by kernel_rfl) (by kernel_rfl) (by kernel_rfl) (by kernel_rfl) ?_
            refine (hiB ca3 cc3 _ (hB.r3.below hW) nB3 (hT3.below hW)).mono ?_
            rintro e w8 ⟨da1, dc1, da2, dc2, da3, dc3, rfl, oC, hb8⟩
            replace Bz := Bz.below hb8
            replace hW := hW.trans (hb8.mono hW.size)
            have hnb : wd.heap.size < Z8.heap.size ∨ w8.heap.size ≤ wd.heap.size := Or.inl hlo
            clear hb8
            refine ⟨_, rfl, ⟨⟨_, hW⟩, rfl⟩, ?_⟩
            simp only [Act.put, List.getElem_toArray, List.getElem_cons_succ, List.getElem_cons_zero, List.setIfInBounds_toArray, List.set_cons_zero, List.set_cons_succ]
            refine one_at 7 _ 0 (by kernel_rfl) rfl (by kernel_rfl) ?_
            have p0 := Bz.cell 0 _ rfl
            have f0 := Bz.frozen 0
            have p1 := Bz.cell 1 _ rfl
            have f1 := Bz.frozen 1
            have p2 := Bz.cell 2 _ rfl
            have f2 := Bz.frozen 2
            have p3 := Bz.cell 3 _ rfl
            have f3 := Bz.frozen 3
            go_wp2
            refine ThenGo.to ⟨⟨⟨_, ((((hW.setCell (p := ⟨wd.heap.size, 0, none⟩) hzz (.int .i64 0)).setCell (p := ⟨wd.heap.size, 1, none⟩) hzz (.slice da1 cs2.length dc1)).setCell (p := ⟨wd.heap.size, 2, none⟩) hzz (.slice da2 vl2.length dc2)).setCell (p := ⟨wd.heap.size, 3, none⟩) hzz (.slice da3 its.length dc3))⟩, rfl⟩, ?_⟩
            refine text_end (by kernel_rfl) ?_
            exact ⟨rfl, _, ⟨da1, dc1, da2, dc2, da3, dc3, wd.heap.size, _, _, rfl, ((((Bz.set 0 (.int .i64 0)).set 1 (.slice da1 cs2.length dc1)).set 2 (.slice da2 vl2.length dc2)).set 3 (.slice da3 its.length dc3)), ((((oC.set (j := 0) (u := .int .i64 0) hnb).set (j := 1) (u := .slice da1 cs2.length dc1) hnb).set (j := 2) (u := .slice da2 vl2.length dc2) hnb).set (j := 3) (u := .slice da3 its.length dc3) hnb), ((((hW.setCell (p := ⟨wd.heap.size, 0, none⟩) hzz (.int .i64 0)).setCell (p := ⟨wd.heap.size, 1, none⟩) hzz (.slice da1 cs2.length dc1)).setCell (p := ⟨wd.heap.size, 2, none⟩) hzz (.slice da2 vl2.length dc2)).setCell (p := ⟨wd.heap.size, 3, none⟩) hzz (.slice da3 its.length dc3))⟩, by kernel_rfl⟩
        rintro vs X ⟨da1, dc1, da2, dc2, da3, dc3, bx, lo, hi, rfl, Bc, oC, hW7⟩
        simp only [putAll, Act.put, List.setIfInBounds_toArray, List.set_cons_zero, List.set_cons_succ]
        have hC := oC.row
        have nC1 := nice_own oC.o1.1
        have nC2 := nice_own oC.o2.1
        replace Ba := Ba.below hW7
        replace Bb := Bb.below hW7
        replace hA := hA.below hW7
        replace hB := hB.below hW7
        replace hb := hb.trans (hW7.mono hb.size)
        clear hW7 oC hiB hT3 nB3
        have hq20 := fun w h => implItemsFault_any aa3 ac3 its w h (by omega)
        rw [G6.out] at hq20
        have hq21 := fun w h h' => implSameItems_any da3 aa3 dc3 ac3 its its w h h' (by omega) (by omega)
        rw [sameIs_refl] at hq21
        have hW : Below X.heap.size X X.drew := (Below.refl _ _).drew
        have hnn : Nonempty (Lat X) := ⟨⟨X, Below.refl _ _⟩⟩
        have x0 := Bb.lat 0 _ rfl
        have x1 := Bb.lat 1 _ rfl
        have x2 := Bb.lat 2 _ rfl
        have y0 := Bc.lat 0 _ rfl
        have y1 := Bc.lat 1 _ rfl
        have y2 := Bc.lat 2 _ rfl
        have y3 := Bc.lat 3 _ rfl
        have z1 := Ba.lat 1 _ rfl
        have z2 := Ba.lat 2 _ rfl
        have z3 := Ba.lat 3 _ rfl
        go_wp2_with fail
        refine text_begin (S := fun w' => ∃ u : Lat X, w' = u.val) (by kernel_rfl) ?_
        refine seg_range [(0, 13)] 33 (by kernel_rfl) (by kernel_rfl) (by kernel_rfl) (by kernel_rfl) (by kernel_rfl) ⟨⟨_, hW⟩, rfl⟩ ?_
        simp only [pickR, List.toList_toArray, List.flatMap_cons, List.flatMap_nil, List.drop_succ_cons, List.drop_zero, List.take_succ_cons, List.take_zero, List.cons_append, List.nil_append, List.append_nil]
        repeat go_big_quiet_step (fail)
        refine wpQuiet_nil ?_
        refine call_at 13 (some 135) 21 #[.slice da3 its.length dc3, .slice aa3 its.length ac3] 32 (by kernel_rfl) (by kernel_rfl) (by kernel_rfl) (by kernel_rfl) (by kernel_rfl) ?_
        refine (hq21 _ (hC.r3.below hW) (hA.r3.below hW)).mono ?_
        rintro e w9 ⟨rfl, hb9⟩
        replace hW := hW.trans (hb9.mono hW.size)
        clear hb9
        refine ⟨_, rfl, ⟨⟨_, hW⟩, rfl⟩, ?_⟩
        simp only [Act.put, List.setIfInBounds_toArray, List.set_cons_zero, List.set_cons_succ]
        refine seg_range [(14, 2), (17, 2), (20, 2), (23, 2)] 24 (by kernel_rfl) (by kernel_rfl) (by kernel_rfl) (by kernel_rfl) (by kernel_rfl) ⟨⟨_, hW⟩, rfl⟩ ?_
        simp only [pickR, List.toList_toArray, List.flatMap_cons, List.flatMap_nil, List.drop_succ_cons, List.drop_zero, List.take_succ_cons, List.take_zero, List.cons_append, List.nil_append, List.append_nil]
        repeat go_big_quiet_step (fail)
        refine wpQuiet_nil ?_
        refine one_g 16 _ 23 (by kernel_rfl) rfl (by kernel_rfl) (by kernel_rfl) ?_
        try dsimp only
        have hbE : Below w9.heap.size w9 (w9.alloc (.cells #[] 2)) := by go_grown
        have oE : (w9.alloc (.cells #[] 2)).ownsRow w9.heap.size 2 1 (.slice (some ⟨w9.heap.size, 0, none⟩) 0 0) 0 [] := World.ownsRow_lit w9 #[] 0 (Nat.le_refl _) (by decide) rfl
        have hXs := hW.size
        have hsE : w9.heap.size ≤ (w9.alloc (.cells #[] 2)).heap.size := hbE.size
        replace hW := hW.trans (hbE.mono hW.size)
        go_wp2
        refine ThenGo.to ⟨⟨⟨_, hW⟩, rfl⟩, ?_⟩
        generalize w9.alloc (.cells #[] 2) = wE at hbE oE hW hsE ⊢
        clear hbE
        refine one_g 19 _ 22 (by kernel_rfl) rfl (by kernel_rfl) (by kernel_rfl) ?_
        try dsimp only
        refine wpList_append_ints _ rfl _ _ rfl w9.heap.size _ [] rfl oE ca1 cs1 cc1 rfl (hB.r1.below hW) nB1 (by omega) (by simp) hsE ?_
        intro a' c' wF oF hbF
        simp only [List.nil_append] at oF ⊢
        have hsF : w9.heap.size ≤ wF.heap.size := Nat.le_trans hsE hbF.size
        replace hW := hW.trans (hbF.mono hXs)
        clear hbF oE
        go_wp2
        refine ThenGo.to ⟨⟨⟨_, hW⟩, rfl⟩, ?_⟩
        try simp only [Act.put, List.getElem_toArray, List.getElem_cons_succ, List.getElem_cons_zero, List.setIfInBounds_toArray, List.set_cons_zero, List.set_cons_succ]
        refine one_g 22 _ 21 (by kernel_rfl) rfl (by kernel_rfl) (by kernel_rfl) ?_
        try dsimp only
        refine wpList_append_ints _ rfl _ _ rfl w9.heap.size _ cs1 rfl oF da1 cs2 dc1 rfl (hC.r1.below hW) nC1 (by omega) (by omega) hsF ?_
        intro a'' c'' wG oG hbG
        rw [G4.out] at oG ⊢
        have hRG := Row.own oG
        replace hW := hW.trans (hbG.mono hXs)
        clear hbG oF oG hsF hsE
        go_wp2
        refine ThenGo.to ⟨⟨⟨_, hW⟩, rfl⟩, ?_⟩
        try simp only [Act.put, List.getElem_toArray, List.getElem_cons_succ, List.getElem_cons_zero, List.setIfInBounds_toArray, List.set_cons_zero, List.set_cons_succ]
        refine call_at 25 (some 147) 24 #[.slice a'' cs.length c'', .slice aa1 cs.length ac1] 20 (by kernel_rfl) (by kernel_rfl) (by kernel_rfl) (by kernel_rfl) (by kernel_rfl) ?_
        refine (lwNums_true a'' aa1 c'' ac1 cs wG hRG (hA.r1.below hW) (by omega)).mono ?_
        rintro e w9 ⟨rfl, m, rfl⟩
        replace hW := below_drewN hW m
        refine ⟨_, rfl, ⟨⟨_, hW⟩, rfl⟩, ?_⟩
        simp only [Act.put, List.setIfInBounds_toArray, List.set_cons_zero, List.set_cons_succ]
        clear hRG hXs
        generalize wG.drewN m = w9 at hW ⊢
        refine seg_range [(26, 2), (29, 2), (32, 2), (35, 2)] 12 (by kernel_rfl) (by kernel_rfl) (by kernel_rfl) (by kernel_rfl) (by kernel_rfl) ⟨⟨_, hW⟩, rfl⟩ ?_
        simp only [pickR, List.toList_toArray, List.flatMap_cons, List.flatMap_nil, List.drop_succ_cons, List.drop_zero, List.take_succ_cons, List.take_zero, List.cons_append, List.nil_append, List.append_nil]
        repeat go_big_quiet_step (fail)
        refine wpQuiet_nil ?_
        refine one_g 28 _ 11 (by kernel_rfl) rfl (by kernel_rfl) (by kernel_rfl) ?_
        try dsimp only
        have hbE : Below w9.heap.size w9 (w9.alloc (.cells #[] 2)) := by go_grown
        have oE : (w9.alloc (.cells #[] 2)).ownsRow w9.heap.size 2 1 (.slice (some ⟨w9.heap.size, 0, none⟩) 0 0) 0 [] := World.ownsRow_lit w9 #[] 0 (Nat.le_refl _) (by decide) rfl
        have hXs := hW.size
        have hsE : w9.heap.size ≤ (w9.alloc (.cells #[] 2)).heap.size := hbE.size
        replace hW := hW.trans (hbE.mono hW.size)
        go_wp2
        refine ThenGo.to ⟨⟨⟨_, hW⟩, rfl⟩, ?_⟩
        generalize w9.alloc (.cells #[] 2) = wE at hbE oE hW hsE ⊢
        clear hbE
        refine one_g 31 _ 10 (by kernel_rfl) rfl (by kernel_rfl) (by kernel_rfl) ?_
        try dsimp only
        refine wpList_append_ints _ rfl _ _ rfl w9.heap.size _ [] rfl oE ca2 vl1 cc2 rfl (hB.r2.below hW) nB2 (by omega) (by simp) hsE ?_
        intro a' c' wF oF hbF
        simp only [List.nil_append] at oF ⊢
        have hsF : w9.heap.size ≤ wF.heap.size := Nat.le_trans hsE hbF.size
        replace hW := hW.trans (hbF.mono hXs)
        clear hbF oE
        go_wp2
        refine ThenGo.to ⟨⟨⟨_, hW⟩, rfl⟩, ?_⟩
        try simp only [Act.put, List.getElem_toArray, List.getElem_cons_succ, List.getElem_cons_zero, List.setIfInBounds_toArray, List.set_cons_zero, List.set_cons_succ]
        refine one_g 34 _ 9 (by kernel_rfl) rfl (by kernel_rfl) (by kernel_rfl) ?_
        try dsimp only
        refine wpList_append_ints _ rfl _ _ rfl w9.heap.size _ vl1 rfl oF da2 vl2 dc2 rfl (hC.r2.below hW) nC2 (by omega) (by omega) hsF ?_
        intro a'' c'' wG oG hbG
        rw [G5.out] at oG ⊢
        have hRG := Row.own oG
        replace hW := hW.trans (hbG.mono hXs)
        clear hbG oF oG hsF hsE
        go_wp2
        refine ThenGo.to ⟨⟨⟨_, hW⟩, rfl⟩, ?_⟩
        try simp only [Act.put, List.getElem_toArray, List.getElem_cons_succ, List.getElem_cons_zero, List.setIfInBounds_toArray, List.set_cons_zero, List.set_cons_succ]
        refine call_at 37 (some 159) 24 #[.slice a'' vls.length c'', .slice aa2 vls.length ac2] 8 (by kernel_rfl) (by kernel_rfl) (by kernel_rfl) (by kernel_rfl) (by kernel_rfl) ?_
        refine (lwNums_true a'' aa2 c'' ac2 vls wG hRG (hA.r2.below hW) (by omega)).mono ?_
        rintro e w9 ⟨rfl, m, rfl⟩
        replace hW := below_drewN hW m
        refine ⟨_, rfl, ⟨⟨_, hW⟩, rfl⟩, ?_⟩
        simp only [Act.put, List.setIfInBounds_toArray, List.set_cons_zero, List.set_cons_succ]
        clear hRG hXs
        generalize wG.drewN m = w9 at hW ⊢
        refine seg_range [(38, 4)] 4 (by kernel_rfl) (by kernel_rfl) (by kernel_rfl) (by kernel_rfl) (by kernel_rfl) ⟨⟨_, hW⟩, rfl⟩ ?_
        simp only [pickR, List.toList_toArray, List.flatMap_cons, List.flatMap_nil, List.drop_succ_cons, List.drop_zero, List.take_succ_cons, List.take_zero, List.cons_append, List.nil_append, List.append_nil]
        repeat go_big_quiet_step (fail)
        refine wpQuiet_nil ?_
        refine call_at 42 (some 164) 20 #[.slice aa3 its.length ac3] 3 (by kernel_rfl) (by kernel_rfl) (by kernel_rfl) (by kernel_rfl) (by kernel_rfl) ?_
        refine (hq20 _ (hA.r3.below hW)).mono ?_
        rintro e w9 ⟨rfl, hb9⟩
        replace hW := hW.trans (hb9.mono hW.size)
        clear hb9
        refine ⟨_, rfl, ⟨⟨_, hW⟩, rfl⟩, ?_⟩
        simp only [Act.put, List.setIfInBounds_toArray, List.set_cons_zero, List.set_cons_succ]
        refine seg_range [(43, 3)] 0 (by kernel_rfl) (by kernel_rfl) (by kernel_rfl) (by kernel_rfl) (by kernel_rfl) ⟨⟨_, hW⟩, rfl⟩ ?_
        simp only [pickR, List.toList_toArray, List.flatMap_cons, List.flatMap_nil, List.drop_succ_cons, List.drop_zero, List.take_succ_cons, List.take_zero, List.cons_append, List.nil_append, List.append_nil]
        repeat go_big_quiet_step (fail)
        refine wpQuiet_nil ?_
        refine text_end (by kernel_rfl) ?_
        replace hb := hb.trans (hW.mono hb.size)
        clear hW hnn x0 x1 x2 y0 y1 y2 y3 z1 z2 z3
        go_wp2
        go_ret
        exact ⟨rfl, hb⟩
      · have hdn : (dc != 0) = true := by simpa using hdc
        have hcc : (dc == dc) = true := by simp
        have hf5 := fieldAN0
        go_wp2_with fail
        clear a0
        have hW : Below V.heap.size V V.drew := (Below.refl _ _).drew
        have hnn : Nonempty (Lat V) := ⟨⟨V, Below.refl _ _⟩⟩
        have a0 := Ba.lat 0 _ rfl
        refine text_begin (S := fun w' => ∃ u : Lat V, w' = u.val) (by kernel_rfl) ?_
        refine seg_range [(0, 2), (4, 2)] 4 (by kernel_rfl) (by kernel_rfl) (by kernel_rfl) (by kernel_rfl) (by kernel_rfl) ⟨⟨_, hW⟩, rfl⟩ ?_
        simp only [pickR, List.toList_toArray, List.flatMap_cons, List.flatMap_nil, List.drop_succ_cons, List.drop_zero, List.take_succ_cons, List.take_zero, List.cons_append, List.nil_append, List.append_nil]
        repeat go_big_quiet_step (fail)
        refine wpQuiet_nil ?_
        refine call_at 2 (some 101) 22 #[.slice b1 xs1.length k1, .slice va ps.length vc] 3 (by kernel_rfl) (by kernel_rfl) (by kernel_rfl) (by kernel_rfl) (by kernel_rfl) ?_
        refine (hspA _ (hx1.below hW) (hT1.below hW)).mono ?_
        rintro e w9 ⟨q1, r1, q2, r2, q3, r3, rfl, o9, hb9⟩
        replace hW := hW.trans (hb9.mono hW.size)
        clear o9
        clear hb9
        refine ⟨_, rfl, ⟨⟨_, hW⟩, rfl⟩, ?_⟩
        simp only [Act.put, List.setIfInBounds_toArray, List.set_cons_zero, List.set_cons_succ]
        refine seg_range [(3, 1), (6, 2)] 0 (by kernel_rfl) (by kernel_rfl) (by kernel_rfl) (by kernel_rfl) (by kernel_rfl) ⟨⟨_, hW⟩, rfl⟩ ?_
        simp only [pickR, List.toList_toArray, List.flatMap_cons, List.flatMap_nil, List.drop_succ_cons, List.drop_zero, List.take_succ_cons, List.take_zero, List.cons_append, List.nil_append, List.append_nil]
        repeat go_big_quiet_step (fail)
        refine wpQuiet_nil ?_
        refine text_end (by kernel_rfl) ?_
        replace hb := hb.trans (hW.mono hb.size)
        clear hW hnn a0
        go_wp2
        go_ret
        exact ⟨rfl, hb⟩
    · have k0d : (d == 0) = false := by simpa using hd0
      clear hd0
      go_wp2_with fail
      refine text_begin (S := fun w' => ∃ u : Lat W, w' = u.val) (by kernel_rfl) ?_
      refine seg_range [(0, 2), (4, 2)] 55 (by kernel_rfl) (by kernel_rfl) (by kernel_rfl) (by kernel_rfl) (by kernel_rfl) ⟨⟨_, hW⟩, rfl⟩ ?_
      simp only [pickR, List.toList_toArray, List.flatMap_cons, List.flatMap_nil, List.drop_succ_cons, List.drop_zero, List.take_succ_cons, List.take_zero, List.cons_append, List.nil_append, List.append_nil]
      repeat go_big_quiet_step (fail)
      refine wpQuiet_nil ?_
      refine call_at 2 (some 39) 17 #[.slice b2 xs2.length k2, .int .i64 key] 54 (by kernel_rfl) (by kernel_rfl) (by kernel_rfl) (by kernel_rfl) (by kernel_rfl) ?_
      refine (hq17 _ (hx2.below hW)).mono ?_
      rintro e w9 ⟨rfl, hb9⟩
      replace hW := hW.trans (hb9.mono hW.size)
      clear hb9
      refine ⟨_, rfl, ⟨⟨_, hW⟩, rfl⟩, ?_⟩
      simp only [Act.put, List.setIfInBounds_toArray, List.set_cons_zero, List.set_cons_succ]
      refine seg_range [(3, 1)] 53 (by kernel_rfl) (by kernel_rfl) (by kernel_rfl) (by kernel_rfl) (by kernel_rfl) ⟨⟨_, hW⟩, rfl⟩ ?_
      simp only [pickR, List.toList_toArray, List.flatMap_cons, List.flatMap_nil, List.drop_succ_cons, List.drop_zero, List.take_succ_cons, List.take_zero, List.cons_append, List.nil_append, List.append_nil]
      repeat go_big_quiet_step (fail)
      refine wpQuiet_nil ?_
      refine call_at 6 (some 43) 18 #[.slice b2 xs2.length k2, .int .i64 key] 52 (by kernel_rfl) (by kernel_rfl) (by kernel_rfl) (by kernel_rfl) (by kernel_rfl) ?_
      refine (hq18 _ (hx2.below hW)).mono ?_
      rintro e w9 ⟨rfl, hb9⟩
      replace hW := hW.trans (hb9.mono hW.size)
      clear hb9
      refine ⟨_, rfl, ⟨⟨_, hW⟩, rfl⟩, ?_⟩
      simp only [Act.put, List.setIfInBounds_toArray, List.set_cons_zero, List.set_cons_succ]
      refine seg_range [(7, 5), (14, 2)] 45 (by kernel_rfl) (by kernel_rfl) (by kernel_rfl) (by kernel_rfl) (by kernel_rfl) ⟨⟨_, hW⟩, rfl⟩ ?_
      simp only [pickR, List.toList_toArray, List.flatMap_cons, List.flatMap_nil, List.drop_succ_cons, List.drop_zero, List.take_succ_cons, List.take_zero, List.cons_append, List.nil_append, List.append_nil]
      repeat go_big_quiet_step (fail)
      refine wpQuiet_nil ?_
      refine call_at 12 (some 49) 17 #[.slice b2 xs2.length k2, .int .i64 key] 44 (by kernel_rfl) (by kernel_rfl) (by kernel_rfl) (by kernel_rfl) (by kernel_rfl) ?_
      refine (hq17 _ (hx2.below hW)).mono ?_
      rintro e w9 ⟨rfl, hb9⟩
      replace hW := hW.trans (hb9.mono hW.size)
      clear hb9
      refine ⟨_, rfl, ⟨⟨_, hW⟩, rfl⟩, ?_⟩
      simp only [Act.put, List.setIfInBounds_toArray, List.set_cons_zero, List.set_cons_succ]
      refine seg_range [(13, 1)] 43 (by kernel_rfl) (by kernel_rfl) (by kernel_rfl) (by kernel_rfl) (by kernel_rfl) ⟨⟨_, hW⟩, rfl⟩ ?_
      simp only [pickR, List.toList_toArray, List.flatMap_cons, List.flatMap_nil, List.drop_succ_cons, List.drop_zero, List.take_succ_cons, List.take_zero, List.cons_append, List.nil_append, List.append_nil]
      repeat go_big_quiet_step (fail)
      refine wpQuiet_nil ?_
      refine call_at 16 (some 53) 18 #[.slice b2 xs2.length k2, .int .i64 key] 42 (by kernel_rfl) (by kernel_rfl) (by kernel_rfl) (by kernel_rfl) (by kernel_rfl) ?_
      refine (hq18 _ (hx2.below hW)).mono ?_
      rintro e w9 ⟨rfl, hb9⟩
      replace hW := hW.trans (hb9.mono hW.size)
      clear hb9
      refine ⟨_, rfl, ⟨⟨_, hW⟩, rfl⟩, ?_⟩
      simp only [Act.put, List.setIfInBounds_toArray, List.set_cons_zero, List.set_cons_succ]
      refine seg_range [(17, 8)] 34 (by kernel_rfl) (by kernel_rfl) (by kernel_rfl) (by kernel_rfl) (by kernel_rfl) ⟨⟨_, hW⟩, rfl⟩ ?_
      simp only [pickR, List.toList_toArray, List.flatMap_cons, List.flatMap_nil, List.drop_succ_cons, List.drop_zero, List.take_succ_cons, List.take_zero, List.cons_append, List.nil_append, List.append_nil]
      repeat go_big_quiet_step (fail)
      refine wpQuiet_nil ?_
      refine call_at 25 (some 62) 19 #[.slice b0 xs.length k0, .agg #[.int .i64 i, .int .i64 s, .int .i64 q, .slice ta zs.length tc]] 33 (by kernel_rfl) (by kernel_rfl) (by kernel_rfl) (by kernel_rfl) (by kernel_rfl) ?_
      refine (hsp _ (hx.below hW) (Lies.below ht hW)).mono ?_
      rintro e w9 ⟨rb25, rc25, rfl, o9, hb9⟩
      replace hW := hW.trans (hb9.mono hW.size)
      clear o9
      clear hb9
      refine ⟨_, rfl, ⟨⟨_, hW⟩, rfl⟩, ?_⟩
      simp only [Act.put, List.setIfInBounds_toArray, List.set_cons_zero, List.set_cons_succ]
      refine seg_range [(26, 10)] 23 (by kernel_rfl) (by kernel_rfl) (by kernel_rfl) (by kernel_rfl) (by kernel_rfl) ⟨⟨_, hW⟩, rfl⟩ ?_
      simp only [pickR, List.toList_toArray, List.flatMap_cons, List.flatMap_nil, List.drop_succ_cons, List.drop_zero, List.take_succ_cons, List.take_zero, List.cons_append, List.nil_append, List.append_nil]
      repeat go_big_quiet_step (fail)
      refine wpQuiet_nil ?_
      refine skip_at 36 (some 73) 22 (by kernel_rfl) (by kernel_rfl) (by kernel_rfl) (by kernel_rfl) (by kernel_rfl) ⟨⟨_, hW⟩, rfl⟩ ?_
      simp only [Act.put, List.setIfInBounds_toArray, List.set_cons_zero, List.set_cons_succ]
      refine seg_range [(37, 6)] 16 (by kernel_rfl) (by kernel_rfl) (by kernel_rfl) (by kernel_rfl) (by kernel_rfl) ⟨⟨_, hW⟩, rfl⟩ ?_
      simp only [pickR, List.toList_toArray, List.flatMap_cons, List.flatMap_nil, List.drop_succ_cons, List.drop_zero, List.take_succ_cons, List.take_zero, List.cons_append, List.nil_append, List.append_nil]
      repeat go_big_quiet_step (fail)
      refine wpQuiet_nil ?_
      refine skip_at 43 (some 80) 15 (by kernel_rfl) (by kernel_rfl) (by kernel_rfl) (by kernel_rfl) (by kernel_rfl) ⟨⟨_, hW⟩, rfl⟩ ?_
      simp only [Act.put, List.setIfInBounds_toArray, List.set_cons_zero, List.set_cons_succ]
      refine seg_range [(44, 1)] 14 (by kernel_rfl) (by kernel_rfl) (by kernel_rfl) (by kernel_rfl) (by kernel_rfl) ⟨⟨_, hW⟩, rfl⟩ ?_
      simp only [pickR, List.toList_toArray, List.flatMap_cons, List.flatMap_nil, List.drop_succ_cons, List.drop_zero, List.take_succ_cons, List.take_zero, List.cons_append, List.nil_append, List.append_nil]
      repeat go_big_quiet_step (fail)
      refine wpQuiet_nil ?_
      refine skip_at 45 (some 82) 13 (by kernel_rfl) (by kernel_rfl) (by kernel_rfl) (by kernel_rfl) (by kernel_rfl) ⟨⟨_, hW⟩, rfl⟩ ?_
      simp only [Act.put, List.setIfInBounds_toArray, List.set_cons_zero, List.set_cons_succ]
      refine seg_range [(46, 7)] 6 (by kernel_rfl) (by kernel_rfl) (by kernel_rfl) (by kernel_rfl) (by kernel_rfl) ⟨⟨_, hW⟩, rfl⟩ ?_
      simp only [pickR, List.toList_toArray, List.flatMap_cons, List.flatMap_nil, List.drop_succ_cons, List.drop_zero, List.take_succ_cons, List.take_zero, List.cons_append, List.nil_append, List.append_nil]
      repeat go_big_quiet_step (fail)
      refine wpQuiet_nil ?_
      refine skip_at 53 (some 90) 5 (by kernel_rfl) (by kernel_rfl) (by kernel_rfl) (by kernel_rfl) (by kernel_rfl) ⟨⟨_, hW⟩, rfl⟩ ?_
      simp only [Act.put, List.setIfInBounds_toArray, List.set_cons_zero, List.set_cons_succ]
      refine seg_range [(54, 5)] 0 (by kernel_rfl) (by kernel_rfl) (by kernel_rfl) (by kernel_rfl) (by kernel_rfl) ⟨⟨_, hW⟩, rfl⟩ ?_
      simp only [pickR, List.toList_toArray, List.flatMap_cons, List.flatMap_nil, List.drop_succ_cons, List.drop_zero, List.take_succ_cons, List.take_zero, List.cons_append, List.nil_append, List.append_nil]
      repeat go_big_quiet_step (fail)
      refine wpQuiet_nil ?_
      refine text_end (by kernel_rfl) ?_
      replace Ba := Ba.below hW
      replace hx1 := hx1.below hW
      replace hT1 := hT1.below hW
      replace hA := hA.below hW
      replace hb := hb.trans (hW.mono hb.size)
      clear hW hnn e0 e1 e2 u0 u1 u2 u3 n1 n2 n3 n4 hq17 hq18 hsp hx2 hx ht he Be Bt
      obtain ⟨V, hVe⟩ : ∃ V, V = w9 := ⟨_, rfl⟩
      subst hVe
      have a0 := Ba.cell 0 _ rfl
      by_cases hdc : dc = 0
      · have hdn : (dc != 0) = false := by simp [hdc]
        have hR := HR.out
        obtain ⟨gv, rfl, hvc⟩ := hR.some
        clear hR HR hspA
        have hlw := lwAt_any a cap bs 3 ((ps.length : Int) + 1) V (h.below hb) hu hle (by omega) (by omega) (by omega)
        rw [show ((3 : Nat) : Int) = 3 from rfl] at hlw
        go_wp2_with fail
        clear a0
        refine hlw.mono ?_
        rintro e w6 ⟨r, rfl, hr0, hr1, hb6⟩
        obtain ⟨kk, rfl⟩ := Int.eq_ofNat_of_zero_le hr0
        have hkk : kk ≤ ps.length := by omega
        have hkv : kk ≤ vc := by omega
        replace Ba := Ba.below hb6
        replace hx1 := hx1.below hb6
        replace hT1 := hT1.below hb6
        replace hA := hA.below hb6
        replace hb := hb.trans (hb6.mono hb.size)
        clear hb6 hlw hr0 hr1
        have hlT : kk ≤ (ps.map TxnP.d).length := by simpa using hkk
        have hT2 := hT1.take kk hlT
        have hT3 := hT1.drop kk hlT hvc (vc - kk)
        have hsT : ((ps.map TxnP.d).take kk).length + sumA ((ps.map TxnP.d).take kk) ≤ 1048576 := by
          have := sumA_take_le (ps.map TxnP.d) kk
          have h2 : ((ps.map TxnP.d).take kk).length ≤ (ps.map TxnP.d).length := by rw [List.length_take]; exact Nat.min_le_right _ _
          omega
        have hsD : ((ps.map TxnP.d).drop kk).length + sumA ((ps.map TxnP.d).drop kk) ≤ 1048576 := by
          have h1 : sumA ((ps.map TxnP.d).drop kk) ≤ sumA (ps.map TxnP.d) := by
            have e : sumA (ps.map TxnP.d) = sumA ((ps.map TxnP.d).take kk) + sumA ((ps.map TxnP.d).drop kk) := by
              conv => lhs; rw [← List.take_append_drop kk (ps.map TxnP.d)]
              simp only [sumA, List.map_append, List.sum_append]
            omega
          have h2 : ((ps.map TxnP.d).drop kk).length ≤ (ps.map TxnP.d).length := by simp
          omega
        obtain ⟨g1, g2, g3, g4, g5, g6⟩ := HCUT.out kk hdc
        have hl1 := ea_le xs1 ((ps.map TxnP.d).take kk)
        have hl2 := ea_le (eaI xs1 ((ps.map TxnP.d).take kk)) ((ps.map TxnP.d).drop kk)
        have hiA := fun w h ht => implExecAll_any b1 k1 xs1 (.slice (some ⟨gv, 0, none⟩) kk vc) ((ps.map TxnP.d).take kk) w h hN1 ht (by omega) hsT
        have hiB := fun aa cc w h hN ht => implExecAll_any aa cc (eaI xs1 ((ps.map TxnP.d).take kk)) (.slice (restAt gv kk vc) (ps.length - kk) (vc - kk)) ((ps.map TxnP.d).drop kk) w h hN ht (by omega) hsD
        rw [g1] at hiA
        rw [g2] at hiB
        clear HCUT hsT hsD hsA g1 g2 hT1
        generalize hd1 : (ps.map TxnP.d).take kk = D1 at *
        generalize hd2 : (ps.map TxnP.d).drop kk = D2 at *
        clear hd1 hd2
        generalize eaCd xs1 D1 = cs1 at *
        generalize eaVl xs1 D1 = vl1 at *
        generalize eaI xs1 D1 = it1 at *
        generalize eaCd it1 D2 = cs2 at *
        generalize eaVl it1 D2 = vl2 at *
        rw [g3] at hiB hl2
        have G4 : Hid (cs1 ++ cs2 = cs) := g4
        have G5 : Hid (vl1 ++ vl2 = vls) := g5
        have G6 : Hid (itemsF its = 0) := g6
        clear g3 g4 g5 g6
        go_wp2_with fail
        refine (hiA _ hx1 hT2).mono ?_
        rintro e w7 ⟨ca1, cc1, ca2, cc2, ca3, cc3, rfl, oB, hb7⟩
        have hB := oB.row
        have nB1 := nice_own oB.o1.1
        have nB2 := nice_own oB.o2.1
        have nB3 := nice_own oB.o3.1
        clear oB hiA hT2
        have hbA : Below w7.heap.size w7 (w7.alloc (.cells #[.int .i64 0, .slice ca1 cs1.length cc1, .slice ca2 vl1.length cc2, .slice ca3 it1.length cc3] 38)) := by go_grown
        have Bb := Blk.new w7 38 #[.int .i64 0, .slice ca1 cs1.length cc1, .slice ca2 vl1.length cc2, .slice ca3 it1.length cc3]
        replace hb7 := hb7.trans (hbA.mono hb7.size)
        replace hB := hB.below hbA
        replace Ba := Ba.below hb7
        replace hT3 := hT3.below hb7
        replace hA := hA.below hb7
        replace hb := hb.trans (hb7.mono hb.size)
        clear hb7 hx1
        go_wp2_with fail
        generalize w7.alloc (.cells #[.int .i64 0, .slice ca1 cs1.length cc1, .slice ca2 vl1.length cc2, .slice ca3 it1.length cc3] 38) = W7 at hbA Bb hB Ba hT3 hA hb
        clear hbA
        refine region_vals [some 116, some 117, some 118, some 119, some 120, some 121, some 13] (fun vs w' => ∃ (da1 : Option Addr) (dc1 : Nat) (da2 : Option Addr) (dc2 : Nat) (da3 : Option Addr) (dc3 bx lo hi : Nat), vs = [.pointer (some ⟨w7.heap.size, 3, none⟩), .slice ca3 it1.length cc3, .slice (some ⟨gv, 0, none⟩) ps.length vc, .int .i64 kk, .slice (restAt gv kk vc) (ps.length - kk) (vc - kk), .agg #[.int .i64 0, .slice da1 cs2.length dc1, .slice da2 vl2.length dc2, .slice da3 its.length dc3], .pointer (some ⟨bx, 0, none⟩)] ∧ Blk w' bx 38 #[.int .i64 0, .slice da1 cs2.length dc1, .slice da2 vl2.length dc2, .slice da3 its.length dc3] ∧ OwnA lo hi w' (.slice da1 cs2.length dc1) (.slice da2 vl2.length dc2) (.slice da3 its.length dc3) cs2 vl2 its ∧ Below W7.heap.size W7 w') ?_ ?_
        · skip
          have hW : Below W7.heap.size W7 W7.drew := (Below.refl _ _).drew
          have hnn : Nonempty (Lat W7) := ⟨⟨W7, Below.refl _ _⟩⟩
          have p3 := Bb.lat 3 _ rfl
          refine text_begin (S := fun w' => ∃ u : Lat W7, w' = u.val) (by kernel_rfl) ?_
          refine seg_range [(0, 4)] 4 (by kernel_rfl) (by kernel_rfl) (by kernel_rfl) (by kernel_rfl) (by kernel_rfl) ⟨⟨_, hW⟩, rfl⟩ ?_
          simp only [pickR, List.toList_toArray, List.flatMap_cons, List.flatMap_nil, List.drop_succ_cons, List.drop_zero, List.take_succ_cons, List.take_zero, List.cons_append, List.nil_append, List.append_nil]
          repeat go_big_quiet_step (fail)
          refine wpQuiet_nil ?_
          clear p3
          have hsl := sl_lo gv kk ps.length vc hkk
          refine quiet_at 4 (some 120) (.slice (restAt gv kk vc) (ps.length - kk) (vc - kk)) 3 (by kernel_rfl) (by kernel_rfl) (by kernel_rfl) (by kernel_rfl) (by kernel_rfl) (fun u _ => ?_) ⟨⟨_, hW⟩, rfl⟩ ?_
          · show some (((Instr.sliceAt 33 (.slice (some ⟨gv, 0, none⟩) ps.length vc) (some (.int .i64 (kk : Int))) none none) >>= fun x => pure (Next.value x) : Sem Next).run Try.prog u) = _
            rw [Sem.run_bind, hsl u]
            rfl
          clear hsl
          simp only [Act.put, List.setIfInBounds_toArray, List.set_cons_zero, List.set_cons_succ]
          generalize W7.drew = wd at hW ⊢
          refine two_at 5 6 2 (by kernel_rfl) (by kernel_rfl) ?_ ?_
          · skip
            refine op_call 5 (some 121) 15 #[.slice ca3 it1.length cc3, .slice (restAt gv kk vc) (ps.length - kk) (vc - kk)] (by kernel_rfl) (by kernel_rfl) (by kernel_rfl) ?_
            refine (hiB ca3 cc3 _ (hB.r3.below hW) nB3 (hT3.below hW)).mono ?_
            rintro e w8 ⟨da1, dc1, da2, dc2, da3, dc3, rfl, oC, hb8⟩
            replace hW := hW.trans (hb8.mono hW.size)
            clear hb8
            refine ⟨_, rfl, ⟨⟨_, hW⟩, rfl⟩, ?_⟩
            simp only [Act.put, List.getElem_toArray, List.getElem_cons_succ, List.getElem_cons_zero, List.setIfInBounds_toArray, List.set_cons_zero, List.set_cons_succ]
            refine one_at 6 _ 1 (by kernel_rfl) rfl (by kernel_rfl) ?_
            have hbz : Below w8.heap.size w8 (w8.alloc (.cells #[.int .i64 0, .slice none 0 0, .slice none 0 0, .slice none 0 0] 38)) := by go_grown
            have Bz := Blk.new w8 38 #[.int .i64 0, .slice none 0 0, .slice none 0 0, .slice none 0 0]
            have hzz : W7.heap.size ≤ w8.heap.size := hW.size
            have hnb : w8.heap.size < wd.heap.size ∨ w8.heap.size ≤ w8.heap.size := Or.inr (Nat.le_refl _)
            replace hW := hW.trans (hbz.mono hW.size)
            replace oC := oC.below hbz
            go_wp2
            refine ThenGo.to ⟨⟨⟨_, hW⟩, rfl⟩, ?_⟩
            generalize w8.alloc (.cells #[.int .i64 0, .slice none 0 0, .slice none 0 0, .slice none 0 0] 38) = Z8 at hbz Bz hW oC ⊢
            clear hbz
            refine one_at 7 _ 0 (by kernel_rfl) rfl (by kernel_rfl) ?_
            have p0 := Bz.cell 0 _ rfl
            have f0 := Bz.frozen 0
            have p1 := Bz.cell 1 _ rfl
            have f1 := Bz.frozen 1
            have p2 := Bz.cell 2 _ rfl
            have f2 := Bz.frozen 2
            have p3 := Bz.cell 3 _ rfl
            have f3 := Bz.frozen 3
            go_wp2
            refine ThenGo.to ⟨⟨⟨_, ((((hW.setCell (p := ⟨w8.heap.size, 0, none⟩) hzz (.int .i64 0)).setCell (p := ⟨w8.heap.size, 1, none⟩) hzz (.slice da1 cs2.length dc1)).setCell (p := ⟨w8.heap.size, 2, none⟩) hzz (.slice da2 vl2.length dc2)).setCell (p := ⟨w8.heap.size, 3, none⟩) hzz (.slice da3 its.length dc3))⟩, rfl⟩, ?_⟩
            refine text_end (by kernel_rfl) ?_
            exact ⟨rfl, _, ⟨da1, dc1, da2, dc2, da3, dc3, w8.heap.size, _, _, rfl, ((((Bz.set 0 (.int .i64 0)).set 1 (.slice da1 cs2.length dc1)).set 2 (.slice da2 vl2.length dc2)).set 3 (.slice da3 its.length dc3)), ((((oC.set (j := 0) (u := .int .i64 0) hnb).set (j := 1) (u := .slice da1 cs2.length dc1) hnb).set (j := 2) (u := .slice da2 vl2.length dc2) hnb).set (j := 3) (u := .slice da3 its.length dc3) hnb), ((((hW.setCell (p := ⟨w8.heap.size, 0, none⟩) hzz (.int .i64 0)).setCell (p := ⟨w8.heap.size, 1, none⟩) hzz (.slice da1 cs2.length dc1)).setCell (p := ⟨w8.heap.size, 2, none⟩) hzz (.slice da2 vl2.length dc2)).setCell (p := ⟨w8.heap.size, 3, none⟩) hzz (.slice da3 its.length dc3))⟩, by kernel_rfl⟩
          · skip
            refine op_one 6 _ rfl ?_
            have hbz : Below wd.heap.size wd (wd.alloc (.cells #[.int .i64 0, .slice none 0 0, .slice none 0 0, .slice none 0 0] 38)) := by go_grown
            have Bz := Blk.new wd 38 #[.int .i64 0, .slice none 0 0, .slice none 0 0, .slice none 0 0]
            have hzz : W7.heap.size ≤ wd.heap.size := hW.size
            replace hW := hW.trans (hbz.mono hW.size)
            have hlo : wd.heap.size < (wd.alloc (.cells #[.int .i64 0, .slice none 0 0, .slice none 0 0, .slice none 0 0] 38)).heap.size := by simp
            go_wp2
            refine ThenGo.to ⟨⟨⟨_, hW⟩, rfl⟩, ?_⟩
            generalize wd.alloc (.cells #[.int .i64 0, .slice none 0 0, .slice none 0 0, .slice none 0 0] 38) = Z8 at hbz Bz hW hlo ⊢
            clear hbz
            refine call_at 5 (some 121) 15 #[.slice ca3 it1.length cc3, .slice (restAt gv kk vc) (ps.length - kk) (vc - kk)] 1 (by kernel_rfl) (by kernel_rfl) (by kernel_rfl) (by kernel_rfl) (by kernel_rfl) ?_
            refine (hiB ca3 cc3 _ (hB.r3.below hW) nB3 (hT3.below hW)).mono ?_
            rintro e w8 ⟨da1, dc1, da2, dc2, da3, dc3, rfl, oC, hb8⟩
            replace Bz := Bz.below hb8
            replace hW := hW.trans (hb8.mono hW.size)
            have hnb : wd.heap.size < Z8.heap.size ∨ w8.heap.size ≤ wd.heap.size := Or.inl hlo
            clear hb8
            refine ⟨_, rfl, ⟨⟨_, hW⟩, rfl⟩, ?_⟩
            simp only [Act.put, List.getElem_toArray, List.getElem_cons_succ, List.getElem_cons_zero, List.setIfInBounds_toArray, List.set_cons_zero, List.set_cons_succ]
            refine one_at 7 _ 0 (by kernel_rfl) rfl (by kernel_rfl) ?_
            have p0 := Bz.cell 0 _ rfl
            have f0 := Bz.frozen 0
            have p1 := Bz.cell 1 _ rfl
            have f1 := Bz.frozen 1
            have p2 := Bz.cell 2 _ rfl
            have f2 := Bz.frozen 2
            have p3 := Bz.cell 3 _ rfl
            have f3 := Bz.frozen 3
            go_wp2
            refine ThenGo.to ⟨⟨⟨_, ((((hW.setCell (p := ⟨wd.heap.size, 0, none⟩) hzz (.int .i64 0)).setCell (p := ⟨wd.heap.size, 1, none⟩) hzz (.slice da1 cs2.length dc1)).setCell (p := ⟨wd.heap.size, 2, none⟩) hzz (.slice da2 vl2.length dc2)).setCell (p := ⟨wd.heap.size, 3, none⟩) hzz (.slice da3 its.length dc3))⟩, rfl⟩, ?_⟩
            refine text_end (by kernel_rfl) ?_
            exact ⟨rfl, _, ⟨da1, dc1, da2, dc2, da3, dc3, wd.heap.size, _, _, rfl, ((((Bz.set 0 (.int .i64 0)).set 1 (.slice da1 cs2.length dc1)).set 2 (.slice da2 vl2.length dc2)).set 3 (.slice da3 its.length dc3)), ((((oC.set (j := 0) (u := .int .i64 0) hnb).set (j := 1) (u := .slice da1 cs2.length dc1) hnb).set (j := 2) (u := .slice da2 vl2.length dc2) hnb).set (j := 3) (u := .slice da3 its.length dc3) hnb), ((((hW.setCell (p := ⟨wd.heap.size, 0, none⟩) hzz (.int .i64 0)).setCell (p := ⟨wd.heap.size, 1, none⟩) hzz (.slice da1 cs2.length dc1)).setCell (p := ⟨wd.heap.size, 2, none⟩) hzz (.slice da2 vl2.length dc2)).setCell (p := ⟨wd.heap.size, 3, none⟩) hzz (.slice da3 its.length dc3))⟩, by kernel_rfl⟩
        rintro vs X ⟨da1, dc1, da2, dc2, da3, dc3, bx, lo, hi, rfl, Bc, oC, hW7⟩
        simp only [putAll, Act.put, List.setIfInBounds_toArray, List.set_cons_zero, List.set_cons_succ]
        have hC := oC.row
        have nC1 := nice_own oC.o1.1
        have nC2 := nice_own oC.o2.1
        replace Ba := Ba.below hW7
        replace Bb := Bb.below hW7
        replace hA := hA.below hW7
        replace hB := hB.below hW7
        replace hb := hb.trans (hW7.mono hb.size)
        clear hW7 oC hiB hT3 nB3
        have hq20 := fun w h => implItemsFault_any aa3 ac3 its w h (by omega)
        rw [G6.out] at hq20
        have hq21 := fun w h h' => implSameItems_any da3 aa3 dc3 ac3 its its w h h' (by omega) (by omega)
        rw [sameIs_refl] at hq21
        have hW : Below X.heap.size X X.drew := (Below.refl _ _).drew
        have hnn : Nonempty (Lat X) := ⟨⟨X, Below.refl _ _⟩⟩
        have x0 := Bb.lat 0 _ rfl
        have x1 := Bb.lat 1 _ rfl
        have x2 := Bb.lat 2 _ rfl
        have y0 := Bc.lat 0 _ rfl
        have y1 := Bc.lat 1 _ rfl
        have y2 := Bc.lat 2 _ rfl
        have y3 := Bc.lat 3 _ rfl
        have z1 := Ba.lat 1 _ rfl
        have z2 := Ba.lat 2 _ rfl
        have z3 := Ba.lat 3 _ rfl
        go_wp2_with fail
        refine text_begin (S := fun w' => ∃ u : Lat X, w' = u.val) (by kernel_rfl) ?_
        refine seg_range [(0, 13)] 33 (by kernel_rfl) (by kernel_rfl) (by kernel_rfl) (by kernel_rfl) (by kernel_rfl) ⟨⟨_, hW⟩, rfl⟩ ?_
        simp only [pickR, List.toList_toArray, List.flatMap_cons, List.flatMap_nil, List.drop_succ_cons, List.drop_zero, List.take_succ_cons, List.take_zero, List.cons_append, List.nil_append, List.append_nil]
        repeat go_big_quiet_step (fail)
        refine wpQuiet_nil ?_
        refine call_at 13 (some 135) 21 #[.slice da3 its.length dc3, .slice aa3 its.length ac3] 32 (by kernel_rfl) (by kernel_rfl) (by kernel_rfl) (by kernel_rfl) (by kernel_rfl) ?_
        refine (hq21 _ (hC.r3.below hW) (hA.r3.below hW)).mono ?_
        rintro e w9 ⟨rfl, hb9⟩
        replace hW := hW.trans (hb9.mono hW.size)
        clear hb9
        refine ⟨_, rfl, ⟨⟨_, hW⟩, rfl⟩, ?_⟩
        simp only [Act.put, List.setIfInBounds_toArray, List.set_cons_zero, List.set_cons_succ]
        refine seg_range [(14, 2), (17, 2), (20, 2), (23, 2)] 24 (by kernel_rfl) (by kernel_rfl) (by kernel_rfl) (by kernel_rfl) (by kernel_rfl) ⟨⟨_, hW⟩, rfl⟩ ?_
        simp only [pickR, List.toList_toArray, List.flatMap_cons, List.flatMap_nil, List.drop_succ_cons, List.drop_zero, List.take_succ_cons, List.take_zero, List.cons_append, List.nil_append, List.append_nil]
        repeat go_big_quiet_step (fail)
        refine wpQuiet_nil ?_
        refine one_g 16 _ 23 (by kernel_rfl) rfl (by kernel_rfl) (by kernel_rfl) ?_
        try dsimp only
        have hbE : Below w9.heap.size w9 (w9.alloc (.cells #[] 2)) := by go_grown
        have oE : (w9.alloc (.cells #[] 2)).ownsRow w9.heap.size 2 1 (.slice (some ⟨w9.heap.size, 0, none⟩) 0 0) 0 [] := World.ownsRow_lit w9 #[] 0 (Nat.le_refl _) (by decide) rfl
        have hXs := hW.size
        have hsE : w9.heap.size ≤ (w9.alloc (.cells #[] 2)).heap.size := hbE.size
        replace hW := hW.trans (hbE.mono hW.size)
        go_wp2
        refine ThenGo.to ⟨⟨⟨_, hW⟩, rfl⟩, ?_⟩
        generalize w9.alloc (.cells #[] 2) = wE at hbE oE hW hsE ⊢
        clear hbE
        refine one_g 19 _ 22 (by kernel_rfl) rfl (by kernel_rfl) (by kernel_rfl) ?_
        try dsimp only
        refine wpList_append_ints _ rfl _ _ rfl w9.heap.size _ [] rfl oE ca1 cs1 cc1 rfl (hB.r1.below hW) nB1 (by omega) (by simp) hsE ?_
        intro a' c' wF oF hbF
        simp only [List.nil_append] at oF ⊢
        have hsF : w9.heap.size ≤ wF.heap.size := Nat.le_trans hsE hbF.size
        replace hW := hW.trans (hbF.mono hXs)
        clear hbF oE
        go_wp2
        refine ThenGo.to ⟨⟨⟨_, hW⟩, rfl⟩, ?_⟩
        try simp only [Act.put, List.getElem_toArray, List.getElem_cons_succ, List.getElem_cons_zero, List.setIfInBounds_toArray, List.set_cons_zero, List.set_cons_succ]
        refine one_g 22 _ 21 (by kernel_rfl) rfl (by kernel_rfl) (by kernel_rfl) ?_
        try dsimp only
        refine wpList_append_ints _ rfl _ _ rfl w9.heap.size _ cs1 rfl oF da1 cs2 dc1 rfl (hC.r1.below hW) nC1 (by omega) (by omega) hsF ?_
        intro a'' c'' wG oG hbG
        rw [G4.out] at oG ⊢
        have hRG := Row.own oG
        replace hW := hW.trans (hbG.mono hXs)
        clear hbG oF oG hsF hsE
        go_wp2
        refine ThenGo.to ⟨⟨⟨_, hW⟩, rfl⟩, ?_⟩
        try simp only [Act.put, List.getElem_toArray, List.getElem_cons_succ, List.getElem_cons_zero, List.setIfInBounds_toArray, List.set_cons_zero, List.set_cons_succ]
        refine call_at 25 (some 147) 24 #[.slice a'' cs.length c'', .slice aa1 cs.length ac1] 20 (by kernel_rfl) (by kernel_rfl) (by kernel_rfl) (by kernel_rfl) (by kernel_rfl) ?_
        refine (lwNums_true a'' aa1 c'' ac1 cs wG hRG (hA.r1.below hW) (by omega)).mono ?_
        rintro e w9 ⟨rfl, m, rfl⟩
        replace hW := below_drewN hW m
        refine ⟨_, rfl, ⟨⟨_, hW⟩, rfl⟩, ?_⟩
        simp only [Act.put, List.setIfInBounds_toArray, List.set_cons_zero, List.set_cons_succ]
        clear hRG hXs
        generalize wG.drewN m = w9 at hW ⊢
        refine seg_range [(26, 2), (29, 2), (32, 2), (35, 2)] 12 (by kernel_rfl) (by kernel_rfl) (by kernel_rfl) (by kernel_rfl) (by kernel_rfl) ⟨⟨_, hW⟩, rfl⟩ ?_
        simp only [pickR, List.toList_toArray, List.flatMap_cons, List.flatMap_nil, List.drop_succ_cons, List.drop_zero, List.take_succ_cons, List.take_zero, List.cons_append, List.nil_append, List.append_nil]
        repeat go_big_quiet_step (fail)
        refine wpQuiet_nil ?_
        refine one_g 28 _ 11 (by kernel_rfl) rfl (by kernel_rfl) (by kernel_rfl) ?_
        try dsimp only
        have hbE : Below w9.heap.size w9 (w9.alloc (.cells #[] 2)) := by go_grown
        have oE : (w9.alloc (.cells #[] 2)).ownsRow w9.heap.size 2 1 (.slice (some ⟨w9.heap.size, 0, none⟩) 0 0) 0 [] := World.ownsRow_lit w9 #[] 0 (Nat.le_refl _) (by decide) rfl
        have hXs := hW.size
        have hsE : w9.heap.size ≤ (w9.alloc (.cells #[] 2)).heap.size := hbE.size
        replace hW := hW.trans (hbE.mono hW.size)
        go_wp2
        refine ThenGo.to ⟨⟨⟨_, hW⟩, rfl⟩, ?_⟩
        generalize w9.alloc (.cells #[] 2) = wE at hbE oE hW hsE ⊢
        clear hbE
        refine one_g 31 _ 10 (by kernel_rfl) rfl (by kernel_rfl) (by kernel_rfl) ?_
        try dsimp only
        refine wpList_append_ints _ rfl _ _ rfl w9.heap.size _ [] rfl oE ca2 vl1 cc2 rfl (hB.r2.below hW) nB2 (by omega) (by simp) hsE ?_
        intro a' c' wF oF hbF
        simp only [List.nil_append] at oF ⊢
        have hsF : w9.heap.size ≤ wF.heap.size := Nat.le_trans hsE hbF.size
        replace hW := hW.trans (hbF.mono hXs)
        clear hbF oE
        go_wp2
        refine ThenGo.to ⟨⟨⟨_, hW⟩, rfl⟩, ?_⟩
        try simp only [Act.put, List.getElem_toArray, List.getElem_cons_succ, List.getElem_cons_zero, List.setIfInBounds_toArray, List.set_cons_zero, List.set_cons_succ]
        refine one_g 34 _ 9 (by kernel_rfl) rfl (by kernel_rfl) (by kernel_rfl) ?_
        try dsimp only
        refine wpList_append_ints _ rfl _ _ rfl w9.heap.size _ vl1 rfl oF da2 vl2 dc2 rfl (hC.r2.below hW) nC2 (by omega) (by omega) hsF ?_
        intro a'' c'' wG oG hbG
        rw [G5.out] at oG ⊢
        have hRG := Row.own oG
        replace hW := hW.trans (hbG.mono hXs)
        clear hbG oF oG hsF hsE
        go_wp2
        refine ThenGo.to ⟨⟨⟨_, hW⟩, rfl⟩, ?_⟩
        try simp only [Act.put, List.getElem_toArray, List.getElem_cons_succ, List.getElem_cons_zero, List.setIfInBounds_toArray, List.set_cons_zero, List.set_cons_succ]
        refine call_at 37 (some 159) 24 #[.slice a'' vls.length c'', .slice aa2 vls.length ac2] 8 (by kernel_rfl) (by kernel_rfl) (by kernel_rfl) (by kernel_rfl) (by kernel_rfl) ?_
        refine (lwNums_true a'' aa2 c'' ac2 vls wG hRG (hA.r2.below hW) (by omega)).mono ?_
        rintro e w9 ⟨rfl, m, rfl⟩
        replace hW := below_drewN hW m
        refine ⟨_, rfl, ⟨⟨_, hW⟩, rfl⟩, ?_⟩
        simp only [Act.put, List.setIfInBounds_toArray, List.set_cons_zero, List.set_cons_succ]
        clear hRG hXs
        generalize wG.drewN m = w9 at hW ⊢
        refine seg_range [(38, 4)] 4 (by kernel_rfl) (by kernel_rfl) (by kernel_rfl) (by kernel_rfl) (by kernel_rfl) ⟨⟨_, hW⟩, rfl⟩ ?_
        simp only [pickR, List.toList_toArray, List.flatMap_cons, List.flatMap_nil, List.drop_succ_cons, List.drop_zero, List.take_succ_cons, List.take_zero, List.cons_append, List.nil_append, List.append_nil]
        repeat go_big_quiet_step (fail)
        refine wpQuiet_nil ?_
        refine call_at 42 (some 164) 20 #[.slice aa3 its.length ac3] 3 (by kernel_rfl) (by kernel_rfl) (by kernel_rfl) (by kernel_rfl) (by kernel_rfl) ?_
        refine (hq20 _ (hA.r3.below hW)).mono ?_
        rintro e w9 ⟨rfl, hb9⟩
        replace hW := hW.trans (hb9.mono hW.size)
        clear hb9
        refine ⟨_, rfl, ⟨⟨_, hW⟩, rfl⟩, ?_⟩
        simp only [Act.put, List.setIfInBounds_toArray, List.set_cons_zero, List.set_cons_succ]
        refine seg_range [(43, 3)] 0 (by kernel_rfl) (by kernel_rfl) (by kernel_rfl) (by kernel_rfl) (by kernel_rfl) ⟨⟨_, hW⟩, rfl⟩ ?_
        simp only [pickR, List.toList_toArray, List.flatMap_cons, List.flatMap_nil, List.drop_succ_cons, List.drop_zero, List.take_succ_cons, List.take_zero, List.cons_append, List.nil_append, List.append_nil]
        repeat go_big_quiet_step (fail)
        refine wpQuiet_nil ?_
        refine text_end (by kernel_rfl) ?_
        replace hb := hb.trans (hW.mono hb.size)
        clear hW hnn x0 x1 x2 y0 y1 y2 y3 z1 z2 z3
        go_wp2
        go_ret
        exact ⟨rfl, hb⟩
      · have hdn : (dc != 0) = true := by simpa using hdc
        have hcc : (dc == dc) = true := by simp
        have hf5 := fieldAN0
        go_wp2_with fail
        clear a0
        have hW : Below V.heap.size V V.drew := (Below.refl _ _).drew
        have hnn : Nonempty (Lat V) := ⟨⟨V, Below.refl _ _⟩⟩
        have a0 := Ba.lat 0 _ rfl
        refine text_begin (S := fun w' => ∃ u : Lat V, w' = u.val) (by kernel_rfl) ?_
        refine seg_range [(0, 2), (4, 2)] 4 (by kernel_rfl) (by kernel_rfl) (by kernel_rfl) (by kernel_rfl) (by kernel_rfl) ⟨⟨_, hW⟩, rfl⟩ ?_
        simp only [pickR, List.toList_toArray, List.flatMap_cons, List.flatMap_nil, List.drop_succ_cons, List.drop_zero, List.take_succ_cons, List.take_zero, List.cons_append, List.nil_append, List.append_nil]
        repeat go_big_quiet_step (fail)
        refine wpQuiet_nil ?_
        refine call_at 2 (some 101) 22 #[.slice b1 xs1.length k1, .slice va ps.length vc] 3 (by kernel_rfl) (by kernel_rfl) (by kernel_rfl) (by kernel_rfl) (by kernel_rfl) ?_
        refine (hspA _ (hx1.below hW) (hT1.below hW)).mono ?_
        rintro e w9 ⟨q1, r1, q2, r2, q3, r3, rfl, o9, hb9⟩
        replace hW := hW.trans (hb9.mono hW.size)
        clear o9
        clear hb9
        refine ⟨_, rfl, ⟨⟨_, hW⟩, rfl⟩, ?_⟩
        simp only [Act.put, List.setIfInBounds_toArray, List.set_cons_zero, List.set_cons_succ]
        refine seg_range [(3, 1), (6, 2)] 0 (by kernel_rfl) (by kernel_rfl) (by kernel_rfl) (by kernel_rfl) (by kernel_rfl) ⟨⟨_, hW⟩, rfl⟩ ?_
        simp only [pickR, List.toList_toArray, List.flatMap_cons, List.flatMap_nil, List.drop_succ_cons, List.drop_zero, List.take_succ_cons, List.take_zero, List.cons_append, List.nil_append, List.append_nil]
        repeat go_big_quiet_step (fail)
        refine wpQuiet_nil ?_
        refine text_end (by kernel_rfl) ?_
        replace hb := hb.trans (hW.mono hb.size)
        clear hW hnn a0
        go_wp2
        go_ret
        exact ⟨rfl, hb⟩
  · have hd : decide (1048576 < (bs.length : Int)) = true := decide_eq_true (by omega)
    go_enter Try.func3, Try.ntmps3
    go_wp2_with fail
    refine (lwBig_any a bs.length cap w hm).mono ?_
    rintro e w1 ⟨rfl, hw⟩
    subst hw
    rw [hd]
    go_wp2
    go_ret
    exact ⟨rfl, Below.refl _ _⟩

end Go.Proofs.Yteoghlebijfbaaa
