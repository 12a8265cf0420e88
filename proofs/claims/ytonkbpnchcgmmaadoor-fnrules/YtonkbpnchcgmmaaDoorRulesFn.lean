/- The law FnRules, walked: at every list of bytes it answers true, and it writes into nothing that was there. The one condition: the variable 'rules' holds the program's table. -/
import Derived.Test.YtonkbpnchcgmmaaDoorS5z
import Derived.Test.YtonkbpnchcgmmaaDoorDraw5b
import Derived.Test.YtonkbpnchcgmmaaDoorLawBig
import Derived.Test.YtonkbpnchcgmmaaDoorText
import Derived.Laws.StructEq
namespace Go.Proofs.YtonkbpnchcgmmaaDoor
open Go.RowKit
open Go.BigFrame
set_option linter.unusedVariables false
set_option linter.unusedSimpArgs false

theorem fieldN0 (c v : Int) (w : World) : (Instr.field 28 (.agg #[.int .i64 c, .int .i64 v]) 0).run Tryd.prog w = .ok (.int .i64 c) w := by kernel_rfl
theorem fieldN1 (c v : Int) (w : World) : (Instr.field 28 (.agg #[.int .i64 c, .int .i64 v]) 1).run Tryd.prog w = .ok (.int .i64 v) w := by kernel_rfl
theorem neqCh_run (c : Int) (d k : Bool) (v : Int) (w : World) : (binOp .neq 33 (.agg #[.int .i64 c, .bool d, .bool k, .int .i64 v]) (.agg #[.int .i64 c, .bool d, .bool k, .int .i64 v])).run Tryd.prog w = .ok (.bool false) w := by
  rw [run_neq_struct, run_equalIn_struct (P := Tryd.prog) w 9999 33 _ _ (by kernel_rfl) (by kernel_rfl)]
  have c1 : Tryd.prog.cellsOf 2 = 1 := by kernel_rfl
  have c2 : Tryd.prog.cellsOf 4 = 1 := by kernel_rfl
  simp [Program.fieldsOf, Tryd.underlying33, Op.eqFields, go_sem, Tryd.underlying2, Tryd.underlying4, c1, c2]

set_option maxRecDepth 100000 in
set_option maxHeartbeats 8000000 in
theorem rulesFn (a : Option Addr) (cap : Nat) (zs : List Int) (w : World) (hG : Rul w) (h : Row .u8 w a zs) (hu : ∀ i, 0 ≤ zs.getD i 0 ∧ zs.getD i 0 ≤ 255) (hm : zs.length ≤ 9223372036854775807) :
    Calls Tryd.prog 3 #[.slice a zs.length cap] w fun e w' => e = .returned (.bool true) ∧ Below w.heap.size w w' := by
  by_cases hle : zs.length ≤ 1048576
  case neg =>
    have hd : decide (1048576 < (zs.length : Int)) = true := decide_eq_true (by omega)
    go_enter Tryd.func3, Tryd.ntmps3
    go_wp2_with fail
    refine (lwBig_any a zs.length cap w hm).mono ?_
    rintro e w1 ⟨rfl, hw⟩
    replace hw := hw.symm
    subst hw
    rw [hd]
    go_wp2
    go_ret
    exact ⟨rfl, Below.refl _ _⟩
  case pos =>
    have hd : decide (1048576 < (zs.length : Int)) = false := decide_eq_false (by omega)
    go_enter Tryd.func3, Tryd.ntmps3
    go_wp2_with fail
    refine (lwBig_any a zs.length cap w hm).mono ?_
    rintro e w1 ⟨rfl, hw⟩
    replace hw := hw.symm
    subst hw
    rw [hd]
    go_wp2_with fail
    refine (drawProposalFor_any a cap zs _ h hu hle).mono ?_
    rintro e w2 ⟨b1, k1, ys1, x0, rfl, hy1, hR1, hb⟩
    clear hd
    -- p
    have him := implProp_any b1 k1 ys1 x0 w2 (hG.below hb) hR1 (by omega)
    have hs1 := fun w h => specProp_any b1 k1 ys1 x0 w h (by omega)
    have HP : Hid (pfC ys1 x0 = 0 → mayP ys1 (pfV ys1 x0) = true) := mayP_own
    have hp0 := fun w g h => implMayP_any b1 k1 ys1 0 w g h (by omega)
    have hp1 := fun w g h => implMayP_any b1 k1 ys1 1 w g h (by omega)
    have hpv := fun w g h => implMayP_any b1 k1 ys1 (pfV ys1 x0) w g h (by omega)
    have HP1 : Hid (mayP ys1 0 = true → mayP ys1 1 = false) := mayP_one
    generalize pfC ys1 x0 = PC at him hs1 HP
    generalize mayP ys1 (pfV ys1 x0) = PM at hpv HP
    generalize pfV ys1 x0 = PV at him hs1 hpv
    generalize mayP ys1 0 = M0 at hp0 HP1
    generalize mayP ys1 1 = M1 at hp1 HP1
    go_wp2_with fail
    refine him.mono ?_
    rintro e w3 ⟨rfl, hb1⟩
    replace hb := hb.trans (hb1.mono hb.size)
    replace hR1 := hR1.below hb1
    clear him hb1
    have hbA : Below w3.heap.size w3 (w3.alloc (.cells #[.int .i64 PC, .int .i64 PV] 28)) := by go_grown
    have Bp := Blk.new w3 28 #[.int .i64 PC, .int .i64 PV]
    replace hR1 := hR1.below hbA
    replace hb := hb.trans (hbA.mono hb.size)
    have hdr := drawChoiceFor_any a cap zs _ (h.below hb) hu hle
    go_wp2_with fail
    generalize w3.alloc (.cells #[.int .i64 PC, .int .i64 PV] 28) = W3 at *
    refine hdr.mono ?_
    rintro e w4 ⟨b2, k2, ys2, y0, y1, rfl, hy2, hR2, hb1⟩
    replace hb := hb.trans (hb1.mono hb.size)
    replace hR1 := hR1.below hb1
    replace Bp := Bp.below hb1
    clear hdr hb1 hbA
    -- c
    have him := implChoice_any b2 k2 ys2 y0 y1 w4 (hG.below hb) hR2 (by omega)
    have hs2 := fun w h => specChoice_any b2 k2 ys2 y0 y1 w h (by omega)
    have HC : Hid (chC ys2 y0 y1 = 0 → (0 ≤ cfV ys2 y0 y1 ∧ cfV ys2 y0 y1 ≤ 1) ∧ mayR ys2 (cfV ys2 y0 y1) = true ∧ (cfD ys2 y0 y1 = true → mayR ys2 (1 - cfV ys2 y0 y1) = false)) := fun e => ⟨cfV_in e, mayR_own e, mayR_one e⟩
    have hcv := fun w g h => implMayR_any b2 k2 ys2 (cfV ys2 y0 y1) w g h (by omega)
    have hcw := fun w g h => implMayR_any b2 k2 ys2 (1 - cfV ys2 y0 y1) w g h (by omega)
    generalize chC ys2 y0 y1 = CC at him hs2 HC
    generalize mayR ys2 (cfV ys2 y0 y1) = RM at hcv HC
    generalize mayR ys2 (1 - cfV ys2 y0 y1) = RN at hcw HC
    generalize cfV ys2 y0 y1 = CV at him hs2 hcv hcw HC
    generalize cfD ys2 y0 y1 = CD at him hs2 HC
    generalize cfK ys2 y0 y1 = CK at him hs2
    go_wp2_with fail
    refine him.mono ?_
    rintro e w5 ⟨rfl, hb1⟩
    replace hb := hb.trans (hb1.mono hb.size)
    replace hR1 := hR1.below hb1
    replace hR2 := hR2.below hb1
    replace Bp := Bp.below hb1
    clear him hb1
    have hbA : Below w5.heap.size w5 (w5.alloc (.cells #[.int .i64 CC, .bool CD, .bool CK, .int .i64 CV] 33)) := by go_grown
    have Bc := Blk.new w5 33 #[.int .i64 CC, .bool CD, .bool CK, .int .i64 CV]
    replace hR1 := hR1.below hbA
    replace hR2 := hR2.below hbA
    replace Bp := Bp.below hbA
    replace hb := hb.trans (hbA.mono hb.size)
    have hdr := drawMayPropose_any a cap zs _ (h.below hb) hu hle
    go_wp2_with fail
    generalize w5.alloc (.cells #[.int .i64 CC, .bool CD, .bool CK, .int .i64 CV] 33) = W5 at *
    refine hdr.mono ?_
    rintro e w6 ⟨b3, k3, ys3, z0, rfl, hy3, hR3, hb1⟩
    replace hb := hb.trans (hb1.mono hb.size)
    replace hR1 := hR1.below hb1
    replace hR2 := hR2.below hb1
    replace Bp := Bp.below hb1
    replace Bc := Bc.below hb1
    clear hdr hb1 hbA
    have hdr := drawMayReport_any a cap zs _ (h.below hb) hu hle
    go_wp2_with fail
    refine hdr.mono ?_
    rintro e W ⟨b4, k4, ys4, u0, rfl, hy4, hR4, hb1⟩
    replace hb := hb.trans (hb1.mono hb.size)
    replace hR1 := hR1.below hb1
    replace hR2 := hR2.below hb1
    replace hR3 := hR3.below hb1
    replace Bp := Bp.below hb1
    replace Bc := Bc.below hb1
    replace hG := hG.below hb
    clear hdr hb1
    have hi3 := fun w g h => implMayP_any b3 k3 ys3 z0 w g h (by omega)
    have hs3 := fun w h => specMayP_any b3 k3 ys3 z0 w h (by omega)
    have hi4 := fun w g h => implMayR_any b4 k4 ys4 u0 w g h (by omega)
    have hs4 := fun w h => specMayR_any b4 k4 ys4 u0 w h (by omega)
    generalize mayP ys3 z0 = E3 at hi3 hs3
    generalize mayR ys4 u0 = E4 at hi4 hs4
    have d0 := Bp.cell 0 (.int .i64 PC) rfl
    have d1 := Bp.cell 1 (.int .i64 PV) rfl
    have g0 := Bc.cell 0 (.int .i64 CC) rfl
    have g1 := Bc.cell 1 (.bool CD) rfl
    have g2 := Bc.cell 2 (.bool CK) rfl
    have g3 := Bc.cell 3 (.int .i64 CV) rfl
    clear h hu hm hle
    go_wp2_with fail
    have cd0 : ∀ u : Lat W, u.val.cell? ⟨w3.heap.size, 0, none⟩ = some (.int .i64 PC) := fun u => (u.isBelow.cell (p := ⟨w3.heap.size, 0, none⟩) Bp.lt).trans d0
    have cd1 : ∀ u : Lat W, u.val.cell? ⟨w3.heap.size, 1, none⟩ = some (.int .i64 PV) := fun u => (u.isBelow.cell (p := ⟨w3.heap.size, 1, none⟩) Bp.lt).trans d1
    have cg0 : ∀ u : Lat W, u.val.cell? ⟨w5.heap.size, 0, none⟩ = some (.int .i64 CC) := fun u => (u.isBelow.cell (p := ⟨w5.heap.size, 0, none⟩) Bc.lt).trans g0
    have cg1 : ∀ u : Lat W, u.val.cell? ⟨w5.heap.size, 1, none⟩ = some (.bool CD) := fun u => (u.isBelow.cell (p := ⟨w5.heap.size, 1, none⟩) Bc.lt).trans g1
    have cg2 : ∀ u : Lat W, u.val.cell? ⟨w5.heap.size, 2, none⟩ = some (.bool CK) := fun u => (u.isBelow.cell (p := ⟨w5.heap.size, 2, none⟩) Bc.lt).trans g2
    have cg3 : ∀ u : Lat W, u.val.cell? ⟨w5.heap.size, 3, none⟩ = some (.int .i64 CV) := fun u => (u.isBelow.cell (p := ⟨w5.heap.size, 3, none⟩) Bc.lt).trans g3
    clear d0 d1 g0 g1 g2 g3
    have hW : Below W.heap.size W W.drew := (Below.refl _ _).drew
    have hnn : Nonempty (Lat W) := ⟨⟨W, Below.refl _ _⟩⟩
    have hfl0 := fieldN0
    have hfl1 := fieldN1
    have hch := neqCh_run CC CD CK CV
    have hPP : (PC != PC) = false := by simp
    have hVV : (PV != PV) = false := by simp
    have h33 : (E3 != E3) = false := by simp
    have h44 : (E4 != E4) = false := by simp
    have HB : Hid (Below w.heap.size w W) := hb
    clear hb
    cases M0
    · refine text_begin (S := fun w' => ∃ u : Lat W, w' = u.val) (by kernel_rfl) ?_
      refine seg_range [(0, 4)] 46 (by kernel_rfl) (by kernel_rfl) (by kernel_rfl) (by kernel_rfl) (by kernel_rfl) ⟨⟨_, hW⟩, rfl⟩ ?_
      simp only [pickR, List.toList_toArray, List.flatMap_cons, List.flatMap_nil, List.drop_succ_cons, List.drop_zero, List.take_succ_cons, List.take_zero, List.cons_append, List.nil_append, List.append_nil]
      repeat go_big_quiet_step (fail)
      refine wpQuiet_nil ?_
      refine call_at 4 (some 48) 15 #[.slice b1 ys1.length k1, .int .i64 x0] 45 (by kernel_rfl) (by kernel_rfl) (by kernel_rfl) (by kernel_rfl) (by kernel_rfl) ?_
      refine (hs1 _ (hR1.below hW)).mono ?_
      rintro e w9 ⟨rfl, hb⟩
      replace hW := hW.trans (hb.mono hW.size)
      refine ⟨_, rfl, ⟨⟨_, hW⟩, rfl⟩, ?_⟩
      simp only [Act.put, List.setIfInBounds_toArray, List.set_cons_zero, List.set_cons_succ]
      refine seg_range [(5, 7)] 38 (by kernel_rfl) (by kernel_rfl) (by kernel_rfl) (by kernel_rfl) (by kernel_rfl) ⟨⟨_, hW⟩, rfl⟩ ?_
      simp only [pickR, List.toList_toArray, List.flatMap_cons, List.flatMap_nil, List.drop_succ_cons, List.drop_zero, List.take_succ_cons, List.take_zero, List.cons_append, List.nil_append, List.append_nil]
      repeat go_big_quiet_step (fail)
      refine wpQuiet_nil ?_
      refine call_at 12 (some 56) 15 #[.slice b1 ys1.length k1, .int .i64 x0] 37 (by kernel_rfl) (by kernel_rfl) (by kernel_rfl) (by kernel_rfl) (by kernel_rfl) ?_
      refine (hs1 _ (hR1.below hW)).mono ?_
      rintro e w9 ⟨rfl, hb⟩
      replace hW := hW.trans (hb.mono hW.size)
      refine ⟨_, rfl, ⟨⟨_, hW⟩, rfl⟩, ?_⟩
      simp only [Act.put, List.setIfInBounds_toArray, List.set_cons_zero, List.set_cons_succ]
      refine seg_range [(13, 8)] 29 (by kernel_rfl) (by kernel_rfl) (by kernel_rfl) (by kernel_rfl) (by kernel_rfl) ⟨⟨_, hW⟩, rfl⟩ ?_
      simp only [pickR, List.toList_toArray, List.flatMap_cons, List.flatMap_nil, List.drop_succ_cons, List.drop_zero, List.take_succ_cons, List.take_zero, List.cons_append, List.nil_append, List.append_nil]
      repeat go_big_quiet_step (fail)
      refine wpQuiet_nil ?_
      refine call_at 21 (some 65) 16 #[.slice b2 ys2.length k2, .int .i64 y0, .int .i64 y1] 28 (by kernel_rfl) (by kernel_rfl) (by kernel_rfl) (by kernel_rfl) (by kernel_rfl) ?_
      refine (hs2 _ (hR2.below hW)).mono ?_
      rintro e w9 ⟨rfl, hb⟩
      replace hW := hW.trans (hb.mono hW.size)
      refine ⟨_, rfl, ⟨⟨_, hW⟩, rfl⟩, ?_⟩
      simp only [Act.put, List.setIfInBounds_toArray, List.set_cons_zero, List.set_cons_succ]
      refine seg_range [(22, 5), (28, 2)] 21 (by kernel_rfl) (by kernel_rfl) (by kernel_rfl) (by kernel_rfl) (by kernel_rfl) ⟨⟨_, hW⟩, rfl⟩ ?_
      simp only [pickR, List.toList_toArray, List.flatMap_cons, List.flatMap_nil, List.drop_succ_cons, List.drop_zero, List.take_succ_cons, List.take_zero, List.cons_append, List.nil_append, List.append_nil]
      repeat go_big_quiet_step (fail)
      refine wpQuiet_nil ?_
      refine call_at 27 (some 71) 17 #[.slice b3 ys3.length k3, .int .i64 z0] 20 (by kernel_rfl) (by kernel_rfl) (by kernel_rfl) (by kernel_rfl) (by kernel_rfl) ?_
      refine (hi3 _ (hG.below hW) (hR3.below hW)).mono ?_
      rintro e w9 ⟨rfl, hb⟩
      replace hW := hW.trans (hb.mono hW.size)
      refine ⟨_, rfl, ⟨⟨_, hW⟩, rfl⟩, ?_⟩
      simp only [Act.put, List.setIfInBounds_toArray, List.set_cons_zero, List.set_cons_succ]
      refine call_at 30 (some 74) 18 #[.slice b3 ys3.length k3, .int .i64 z0] 19 (by kernel_rfl) (by kernel_rfl) (by kernel_rfl) (by kernel_rfl) (by kernel_rfl) ?_
      refine (hs3 _ (hR3.below hW)).mono ?_
      rintro e w9 ⟨rfl, hb⟩
      replace hW := hW.trans (hb.mono hW.size)
      refine ⟨_, rfl, ⟨⟨_, hW⟩, rfl⟩, ?_⟩
      simp only [Act.put, List.setIfInBounds_toArray, List.set_cons_zero, List.set_cons_succ]
      refine seg_range [(31, 5), (37, 2)] 12 (by kernel_rfl) (by kernel_rfl) (by kernel_rfl) (by kernel_rfl) (by kernel_rfl) ⟨⟨_, hW⟩, rfl⟩ ?_
      simp only [pickR, List.toList_toArray, List.flatMap_cons, List.flatMap_nil, List.drop_succ_cons, List.drop_zero, List.take_succ_cons, List.take_zero, List.cons_append, List.nil_append, List.append_nil]
      repeat go_big_quiet_step (fail)
      refine wpQuiet_nil ?_
      refine call_at 36 (some 80) 19 #[.slice b4 ys4.length k4, .int .i64 u0] 11 (by kernel_rfl) (by kernel_rfl) (by kernel_rfl) (by kernel_rfl) (by kernel_rfl) ?_
      refine (hi4 _ (hG.below hW) (hR4.below hW)).mono ?_
      rintro e w9 ⟨rfl, hb⟩
      replace hW := hW.trans (hb.mono hW.size)
      refine ⟨_, rfl, ⟨⟨_, hW⟩, rfl⟩, ?_⟩
      simp only [Act.put, List.setIfInBounds_toArray, List.set_cons_zero, List.set_cons_succ]
      refine call_at 39 (some 83) 20 #[.slice b4 ys4.length k4, .int .i64 u0] 10 (by kernel_rfl) (by kernel_rfl) (by kernel_rfl) (by kernel_rfl) (by kernel_rfl) ?_
      refine (hs4 _ (hR4.below hW)).mono ?_
      rintro e w9 ⟨rfl, hb⟩
      replace hW := hW.trans (hb.mono hW.size)
      refine ⟨_, rfl, ⟨⟨_, hW⟩, rfl⟩, ?_⟩
      simp only [Act.put, List.setIfInBounds_toArray, List.set_cons_zero, List.set_cons_succ]
      refine seg_range [(40, 4)] 6 (by kernel_rfl) (by kernel_rfl) (by kernel_rfl) (by kernel_rfl) (by kernel_rfl) ⟨⟨_, hW⟩, rfl⟩ ?_
      simp only [pickR, List.toList_toArray, List.flatMap_cons, List.flatMap_nil, List.drop_succ_cons, List.drop_zero, List.take_succ_cons, List.take_zero, List.cons_append, List.nil_append, List.append_nil]
      repeat go_big_quiet_step (fail)
      refine wpQuiet_nil ?_
      refine call_at 44 (some 88) 17 #[.slice b1 ys1.length k1, .int .i64 0] 5 (by kernel_rfl) (by kernel_rfl) (by kernel_rfl) (by kernel_rfl) (by kernel_rfl) ?_
      refine (hp0 _ (hG.below hW) (hR1.below hW)).mono ?_
      rintro e w9 ⟨rfl, hb⟩
      replace hW := hW.trans (hb.mono hW.size)
      refine ⟨_, rfl, ⟨⟨_, hW⟩, rfl⟩, ?_⟩
      simp only [Act.put, List.setIfInBounds_toArray, List.set_cons_zero, List.set_cons_succ]
      refine seg_range [(45, 2)] 3 (by kernel_rfl) (by kernel_rfl) (by kernel_rfl) (by kernel_rfl) (by kernel_rfl) ⟨⟨_, hW⟩, rfl⟩ ?_
      simp only [pickR, List.toList_toArray, List.flatMap_cons, List.flatMap_nil, List.drop_succ_cons, List.drop_zero, List.take_succ_cons, List.take_zero, List.cons_append, List.nil_append, List.append_nil]
      repeat go_big_quiet_step (fail)
      refine wpQuiet_nil ?_
      refine skip_at 47 (some 91) 2 (by kernel_rfl) (by kernel_rfl) (by kernel_rfl) (by kernel_rfl) (by kernel_rfl) ⟨⟨_, hW⟩, rfl⟩ ?_
      simp only [Act.put, List.setIfInBounds_toArray, List.set_cons_zero, List.set_cons_succ]
      refine seg_range [(48, 2)] 0 (by kernel_rfl) (by kernel_rfl) (by kernel_rfl) (by kernel_rfl) (by kernel_rfl) ⟨⟨_, hW⟩, rfl⟩ ?_
      simp only [pickR, List.toList_toArray, List.flatMap_cons, List.flatMap_nil, List.drop_succ_cons, List.drop_zero, List.take_succ_cons, List.take_zero, List.cons_append, List.nil_append, List.append_nil]
      repeat go_big_quiet_step (fail)
      refine wpQuiet_nil ?_
      refine text_end (by kernel_rfl) ?_
      have hb := HB.out.trans (hW.mono HB.out.size)
      replace Bp := Bp.below hW
      replace Bc := Bc.below hW
      replace hR1 := hR1.below hW
      replace hR2 := hR2.below hW
      replace hG := hG.below hW
      clear hW cd0 cd1 cg0 cg1 cg2 cg3 hnn hfl0 hfl1 hch hPP hVV h33 h44 HB hi3 hs3 hi4 hs4 hs1 hs2 hp0 hp1 hR3 hR4
      by_cases hp : PC = 0
      · have hpm := HP.out hp
        have hp' : (PC == 0) = true := by simp [hp]
        clear HP hp HP1
        have d0 := Bp.cell 0 (.int .i64 PC) rfl
        have d1 := Bp.cell 1 (.int .i64 PV) rfl
        have g0 := Bc.cell 0 (.int .i64 CC) rfl
        have g1 := Bc.cell 1 (.bool CD) rfl
        have g3 := Bc.cell 3 (.int .i64 CV) rfl
        go_wp2_with fail
        refine (hpv _ hG hR1).mono ?_
        rintro e v9 ⟨rfl, hb9⟩
        replace hb := hb.trans (hb9.mono hb.size)
        replace Bp := Bp.below hb9
        replace Bc := Bc.below hb9
        replace hR2 := hR2.below hb9
        replace hG := hG.below hb9
        clear hb9 hpv
        clear d0 d1 g0 g1 g3
        rw [hpm]
        by_cases hc : CC = 0
        · obtain ⟨hci, hcm, hcn⟩ := HC.out hc
          have hc' : (CC == 0) = true := by simp [hc]
          have hc2 : (CC != 0) = false := by simp [hc]
          clear HC hc
          have d0 := Bp.cell 0 (.int .i64 PC) rfl
          have d1 := Bp.cell 1 (.int .i64 PV) rfl
          have g0 := Bc.cell 0 (.int .i64 CC) rfl
          have g1 := Bc.cell 1 (.bool CD) rfl
          have g3 := Bc.cell 3 (.int .i64 CV) rfl
          go_wp2_with fail
          refine (hcv _ hG hR2).mono ?_
          rintro e v9 ⟨rfl, hb9⟩
          replace hb := hb.trans (hb9.mono hb.size)
          replace Bp := Bp.below hb9
          replace Bc := Bc.below hb9
          replace hR2 := hR2.below hb9
          replace hG := hG.below hb9
          clear hb9 hcv
          clear d0 d1 g0 g1 g3
          rw [hcm]
          cases hD : CD
          · rw [hD] at Bc
            have g0 := Bc.cell 0 (.int .i64 CC) rfl
            have g1 := Bc.cell 1 (.bool false) rfl
            clear hcn hcw
            go_wp2
            go_ret
            exact ⟨by simp, hb⟩
          · have hn := hcn hD
            rw [hD] at Bc
            clear hcn
            have g0 := Bc.cell 0 (.int .i64 CC) rfl
            have g1 := Bc.cell 1 (.bool true) rfl
            have g3 := Bc.cell 3 (.int .i64 CV) rfl
            go_wp2_with fail
            refine (hcw _ hG hR2).mono ?_
            rintro e v9 ⟨rfl, hb9⟩
            replace hb := hb.trans (hb9.mono hb.size)
            rw [hn]
            clear hcw hb9 Bp Bc hR1 hR2 hG g0 g1 g3
            go_wp2
            go_ret
            exact ⟨by simp, hb⟩
        · have hc' : (CC == 0) = false := by simpa using hc
          have hc2 : (CC != 0) = true := by simpa using hc
          clear HC hc hcv hcw
          have d0 := Bp.cell 0 (.int .i64 PC) rfl
          have d1 := Bp.cell 1 (.int .i64 PV) rfl
          have g0 := Bc.cell 0 (.int .i64 CC) rfl
          have g1 := Bc.cell 1 (.bool CD) rfl
          have g3 := Bc.cell 3 (.int .i64 CV) rfl
          go_wp2
          go_ret
          exact ⟨by simp, hb⟩
      · have hp' : (PC == 0) = false := by simpa using hp
        clear HP hp hpv HP1
        by_cases hc : CC = 0
        · obtain ⟨hci, hcm, hcn⟩ := HC.out hc
          have hc' : (CC == 0) = true := by simp [hc]
          have hc2 : (CC != 0) = false := by simp [hc]
          clear HC hc
          have d0 := Bp.cell 0 (.int .i64 PC) rfl
          have d1 := Bp.cell 1 (.int .i64 PV) rfl
          have g0 := Bc.cell 0 (.int .i64 CC) rfl
          have g1 := Bc.cell 1 (.bool CD) rfl
          have g3 := Bc.cell 3 (.int .i64 CV) rfl
          go_wp2_with fail
          refine (hcv _ hG hR2).mono ?_
          rintro e v9 ⟨rfl, hb9⟩
          replace hb := hb.trans (hb9.mono hb.size)
          replace Bp := Bp.below hb9
          replace Bc := Bc.below hb9
          replace hR2 := hR2.below hb9
          replace hG := hG.below hb9
          clear hb9 hcv
          clear d0 d1 g0 g1 g3
          rw [hcm]
          cases hD : CD
          · rw [hD] at Bc
            have g0 := Bc.cell 0 (.int .i64 CC) rfl
            have g1 := Bc.cell 1 (.bool false) rfl
            clear hcn hcw
            go_wp2
            go_ret
            exact ⟨by simp, hb⟩
          · have hn := hcn hD
            rw [hD] at Bc
            clear hcn
            have g0 := Bc.cell 0 (.int .i64 CC) rfl
            have g1 := Bc.cell 1 (.bool true) rfl
            have g3 := Bc.cell 3 (.int .i64 CV) rfl
            go_wp2_with fail
            refine (hcw _ hG hR2).mono ?_
            rintro e v9 ⟨rfl, hb9⟩
            replace hb := hb.trans (hb9.mono hb.size)
            rw [hn]
            clear hcw hb9 Bp Bc hR1 hR2 hG g0 g1 g3
            go_wp2
            go_ret
            exact ⟨by simp, hb⟩
        · have hc' : (CC == 0) = false := by simpa using hc
          have hc2 : (CC != 0) = true := by simpa using hc
          clear HC hc hcv hcw
          have d0 := Bp.cell 0 (.int .i64 PC) rfl
          have d1 := Bp.cell 1 (.int .i64 PV) rfl
          have g0 := Bc.cell 0 (.int .i64 CC) rfl
          have g1 := Bc.cell 1 (.bool CD) rfl
          have g3 := Bc.cell 3 (.int .i64 CV) rfl
          go_wp2
          go_ret
          exact ⟨by simp, hb⟩
    · have hM1 := HP1.out rfl
      rw [hM1] at hp1
      refine text_begin (S := fun w' => ∃ u : Lat W, w' = u.val) (by kernel_rfl) ?_
      refine seg_range [(0, 4)] 46 (by kernel_rfl) (by kernel_rfl) (by kernel_rfl) (by kernel_rfl) (by kernel_rfl) ⟨⟨_, hW⟩, rfl⟩ ?_
      simp only [pickR, List.toList_toArray, List.flatMap_cons, List.flatMap_nil, List.drop_succ_cons, List.drop_zero, List.take_succ_cons, List.take_zero, List.cons_append, List.nil_append, List.append_nil]
      repeat go_big_quiet_step (fail)
      refine wpQuiet_nil ?_
      refine call_at 4 (some 48) 15 #[.slice b1 ys1.length k1, .int .i64 x0] 45 (by kernel_rfl) (by kernel_rfl) (by kernel_rfl) (by kernel_rfl) (by kernel_rfl) ?_
      refine (hs1 _ (hR1.below hW)).mono ?_
      rintro e w9 ⟨rfl, hb⟩
      replace hW := hW.trans (hb.mono hW.size)
      refine ⟨_, rfl, ⟨⟨_, hW⟩, rfl⟩, ?_⟩
      simp only [Act.put, List.setIfInBounds_toArray, List.set_cons_zero, List.set_cons_succ]
      refine seg_range [(5, 7)] 38 (by kernel_rfl) (by kernel_rfl) (by kernel_rfl) (by kernel_rfl) (by kernel_rfl) ⟨⟨_, hW⟩, rfl⟩ ?_
      simp only [pickR, List.toList_toArray, List.flatMap_cons, List.flatMap_nil, List.drop_succ_cons, List.drop_zero, List.take_succ_cons, List.take_zero, List.cons_append, List.nil_append, List.append_nil]
      repeat go_big_quiet_step (fail)
      refine wpQuiet_nil ?_
      refine call_at 12 (some 56) 15 #[.slice b1 ys1.length k1, .int .i64 x0] 37 (by kernel_rfl) (by kernel_rfl) (by kernel_rfl) (by kernel_rfl) (by kernel_rfl) ?_
      refine (hs1 _ (hR1.below hW)).mono ?_
      rintro e w9 ⟨rfl, hb⟩
      replace hW := hW.trans (hb.mono hW.size)
      refine ⟨_, rfl, ⟨⟨_, hW⟩, rfl⟩, ?_⟩
      simp only [Act.put, List.setIfInBounds_toArray, List.set_cons_zero, List.set_cons_succ]
      refine seg_range [(13, 8)] 29 (by kernel_rfl) (by kernel_rfl) (by kernel_rfl) (by kernel_rfl) (by kernel_rfl) ⟨⟨_, hW⟩, rfl⟩ ?_
      simp only [pickR, List.toList_toArray, List.flatMap_cons, List.flatMap_nil, List.drop_succ_cons, List.drop_zero, List.take_succ_cons, List.take_zero, List.cons_append, List.nil_append, List.append_nil]
      repeat go_big_quiet_step (fail)
      refine wpQuiet_nil ?_
      refine call_at 21 (some 65) 16 #[.slice b2 ys2.length k2, .int .i64 y0, .int .i64 y1] 28 (by kernel_rfl) (by kernel_rfl) (by kernel_rfl) (by kernel_rfl) (by kernel_rfl) ?_
      refine (hs2 _ (hR2.below hW)).mono ?_
      rintro e w9 ⟨rfl, hb⟩
      replace hW := hW.trans (hb.mono hW.size)
      refine ⟨_, rfl, ⟨⟨_, hW⟩, rfl⟩, ?_⟩
      simp only [Act.put, List.setIfInBounds_toArray, List.set_cons_zero, List.set_cons_succ]
      refine seg_range [(22, 5), (28, 2)] 21 (by kernel_rfl) (by kernel_rfl) (by kernel_rfl) (by kernel_rfl) (by kernel_rfl) ⟨⟨_, hW⟩, rfl⟩ ?_
      simp only [pickR, List.toList_toArray, List.flatMap_cons, List.flatMap_nil, List.drop_succ_cons, List.drop_zero, List.take_succ_cons, List.take_zero, List.cons_append, List.nil_append, List.append_nil]
      repeat go_big_quiet_step (fail)
      refine wpQuiet_nil ?_
      refine call_at 27 (some 71) 17 #[.slice b3 ys3.length k3, .int .i64 z0] 20 (by kernel_rfl) (by kernel_rfl) (by kernel_rfl) (by kernel_rfl) (by kernel_rfl) ?_
      refine (hi3 _ (hG.below hW) (hR3.below hW)).mono ?_
      rintro e w9 ⟨rfl, hb⟩
      replace hW := hW.trans (hb.mono hW.size)
      refine ⟨_, rfl, ⟨⟨_, hW⟩, rfl⟩, ?_⟩
      simp only [Act.put, List.setIfInBounds_toArray, List.set_cons_zero, List.set_cons_succ]
      refine call_at 30 (some 74) 18 #[.slice b3 ys3.length k3, .int .i64 z0] 19 (by kernel_rfl) (by kernel_rfl) (by kernel_rfl) (by kernel_rfl) (by kernel_rfl) ?_
      refine (hs3 _ (hR3.below hW)).mono ?_
      rintro e w9 ⟨rfl, hb⟩
      replace hW := hW.trans (hb.mono hW.size)
      refine ⟨_, rfl, ⟨⟨_, hW⟩, rfl⟩, ?_⟩
      simp only [Act.put, List.setIfInBounds_toArray, List.set_cons_zero, List.set_cons_succ]
      refine seg_range [(31, 5), (37, 2)] 12 (by kernel_rfl) (by kernel_rfl) (by kernel_rfl) (by kernel_rfl) (by kernel_rfl) ⟨⟨_, hW⟩, rfl⟩ ?_
      simp only [pickR, List.toList_toArray, List.flatMap_cons, List.flatMap_nil, List.drop_succ_cons, List.drop_zero, List.take_succ_cons, List.take_zero, List.cons_append, List.nil_append, List.append_nil]
      repeat go_big_quiet_step (fail)
      refine wpQuiet_nil ?_
      refine call_at 36 (some 80) 19 #[.slice b4 ys4.length k4, .int .i64 u0] 11 (by kernel_rfl) (by kernel_rfl) (by kernel_rfl) (by kernel_rfl) (by kernel_rfl) ?_
      refine (hi4 _ (hG.below hW) (hR4.below hW)).mono ?_
      rintro e w9 ⟨rfl, hb⟩
      replace hW := hW.trans (hb.mono hW.size)
      refine ⟨_, rfl, ⟨⟨_, hW⟩, rfl⟩, ?_⟩
      simp only [Act.put, List.setIfInBounds_toArray, List.set_cons_zero, List.set_cons_succ]
      refine call_at 39 (some 83) 20 #[.slice b4 ys4.length k4, .int .i64 u0] 10 (by kernel_rfl) (by kernel_rfl) (by kernel_rfl) (by kernel_rfl) (by kernel_rfl) ?_
      refine (hs4 _ (hR4.below hW)).mono ?_
      rintro e w9 ⟨rfl, hb⟩
      replace hW := hW.trans (hb.mono hW.size)
      refine ⟨_, rfl, ⟨⟨_, hW⟩, rfl⟩, ?_⟩
      simp only [Act.put, List.setIfInBounds_toArray, List.set_cons_zero, List.set_cons_succ]
      refine seg_range [(40, 4)] 6 (by kernel_rfl) (by kernel_rfl) (by kernel_rfl) (by kernel_rfl) (by kernel_rfl) ⟨⟨_, hW⟩, rfl⟩ ?_
      simp only [pickR, List.toList_toArray, List.flatMap_cons, List.flatMap_nil, List.drop_succ_cons, List.drop_zero, List.take_succ_cons, List.take_zero, List.cons_append, List.nil_append, List.append_nil]
      repeat go_big_quiet_step (fail)
      refine wpQuiet_nil ?_
      refine call_at 44 (some 88) 17 #[.slice b1 ys1.length k1, .int .i64 0] 5 (by kernel_rfl) (by kernel_rfl) (by kernel_rfl) (by kernel_rfl) (by kernel_rfl) ?_
      refine (hp0 _ (hG.below hW) (hR1.below hW)).mono ?_
      rintro e w9 ⟨rfl, hb⟩
      replace hW := hW.trans (hb.mono hW.size)
      refine ⟨_, rfl, ⟨⟨_, hW⟩, rfl⟩, ?_⟩
      simp only [Act.put, List.setIfInBounds_toArray, List.set_cons_zero, List.set_cons_succ]
      refine seg_range [(45, 2)] 3 (by kernel_rfl) (by kernel_rfl) (by kernel_rfl) (by kernel_rfl) (by kernel_rfl) ⟨⟨_, hW⟩, rfl⟩ ?_
      simp only [pickR, List.toList_toArray, List.flatMap_cons, List.flatMap_nil, List.drop_succ_cons, List.drop_zero, List.take_succ_cons, List.take_zero, List.cons_append, List.nil_append, List.append_nil]
      repeat go_big_quiet_step (fail)
      refine wpQuiet_nil ?_
      refine call_at 47 (some 91) 17 #[.slice b1 ys1.length k1, .int .i64 1] 2 (by kernel_rfl) (by kernel_rfl) (by kernel_rfl) (by kernel_rfl) (by kernel_rfl) ?_
      refine (hp1 _ (hG.below hW) (hR1.below hW)).mono ?_
      rintro e w9 ⟨rfl, hb⟩
      replace hW := hW.trans (hb.mono hW.size)
      refine ⟨_, rfl, ⟨⟨_, hW⟩, rfl⟩, ?_⟩
      simp only [Act.put, List.setIfInBounds_toArray, List.set_cons_zero, List.set_cons_succ]
      refine seg_range [(48, 2)] 0 (by kernel_rfl) (by kernel_rfl) (by kernel_rfl) (by kernel_rfl) (by kernel_rfl) ⟨⟨_, hW⟩, rfl⟩ ?_
      simp only [pickR, List.toList_toArray, List.flatMap_cons, List.flatMap_nil, List.drop_succ_cons, List.drop_zero, List.take_succ_cons, List.take_zero, List.cons_append, List.nil_append, List.append_nil]
      repeat go_big_quiet_step (fail)
      refine wpQuiet_nil ?_
      refine text_end (by kernel_rfl) ?_
      have hb := HB.out.trans (hW.mono HB.out.size)
      replace Bp := Bp.below hW
      replace Bc := Bc.below hW
      replace hR1 := hR1.below hW
      replace hR2 := hR2.below hW
      replace hG := hG.below hW
      clear hW cd0 cd1 cg0 cg1 cg2 cg3 hnn hfl0 hfl1 hch hPP hVV h33 h44 HB hi3 hs3 hi4 hs4 hs1 hs2 hp0 hp1 hR3 hR4
      by_cases hp : PC = 0
      · have hpm := HP.out hp
        have hp' : (PC == 0) = true := by simp [hp]
        clear HP hp HP1
        have d0 := Bp.cell 0 (.int .i64 PC) rfl
        have d1 := Bp.cell 1 (.int .i64 PV) rfl
        have g0 := Bc.cell 0 (.int .i64 CC) rfl
        have g1 := Bc.cell 1 (.bool CD) rfl
        have g3 := Bc.cell 3 (.int .i64 CV) rfl
        go_wp2_with fail
        refine (hpv _ hG hR1).mono ?_
        rintro e v9 ⟨rfl, hb9⟩
        replace hb := hb.trans (hb9.mono hb.size)
        replace Bp := Bp.below hb9
        replace Bc := Bc.below hb9
        replace hR2 := hR2.below hb9
        replace hG := hG.below hb9
        clear hb9 hpv
        clear d0 d1 g0 g1 g3
        rw [hpm]
        by_cases hc : CC = 0
        · obtain ⟨hci, hcm, hcn⟩ := HC.out hc
          have hc' : (CC == 0) = true := by simp [hc]
          have hc2 : (CC != 0) = false := by simp [hc]
          clear HC hc
          have d0 := Bp.cell 0 (.int .i64 PC) rfl
          have d1 := Bp.cell 1 (.int .i64 PV) rfl
          have g0 := Bc.cell 0 (.int .i64 CC) rfl
          have g1 := Bc.cell 1 (.bool CD) rfl
          have g3 := Bc.cell 3 (.int .i64 CV) rfl
          go_wp2_with fail
          refine (hcv _ hG hR2).mono ?_
          rintro e v9 ⟨rfl, hb9⟩
          replace hb := hb.trans (hb9.mono hb.size)
          replace Bp := Bp.below hb9
          replace Bc := Bc.below hb9
          replace hR2 := hR2.below hb9
          replace hG := hG.below hb9
          clear hb9 hcv
          clear d0 d1 g0 g1 g3
          rw [hcm]
          cases hD : CD
          · rw [hD] at Bc
            have g0 := Bc.cell 0 (.int .i64 CC) rfl
            have g1 := Bc.cell 1 (.bool false) rfl
            clear hcn hcw
            go_wp2
            go_ret
            exact ⟨by simp, hb⟩
          · have hn := hcn hD
            rw [hD] at Bc
            clear hcn
            have g0 := Bc.cell 0 (.int .i64 CC) rfl
            have g1 := Bc.cell 1 (.bool true) rfl
            have g3 := Bc.cell 3 (.int .i64 CV) rfl
            go_wp2_with fail
            refine (hcw _ hG hR2).mono ?_
            rintro e v9 ⟨rfl, hb9⟩
            replace hb := hb.trans (hb9.mono hb.size)
            rw [hn]
            clear hcw hb9 Bp Bc hR1 hR2 hG g0 g1 g3
            go_wp2
            go_ret
            exact ⟨by simp, hb⟩
        · have hc' : (CC == 0) = false := by simpa using hc
          have hc2 : (CC != 0) = true := by simpa using hc
          clear HC hc hcv hcw
          have d0 := Bp.cell 0 (.int .i64 PC) rfl
          have d1 := Bp.cell 1 (.int .i64 PV) rfl
          have g0 := Bc.cell 0 (.int .i64 CC) rfl
          have g1 := Bc.cell 1 (.bool CD) rfl
          have g3 := Bc.cell 3 (.int .i64 CV) rfl
          go_wp2
          go_ret
          exact ⟨by simp, hb⟩
      · have hp' : (PC == 0) = false := by simpa using hp
        clear HP hp hpv HP1
        by_cases hc : CC = 0
        · obtain ⟨hci, hcm, hcn⟩ := HC.out hc
          have hc' : (CC == 0) = true := by simp [hc]
          have hc2 : (CC != 0) = false := by simp [hc]
          clear HC hc
          have d0 := Bp.cell 0 (.int .i64 PC) rfl
          have d1 := Bp.cell 1 (.int .i64 PV) rfl
          have g0 := Bc.cell 0 (.int .i64 CC) rfl
          have g1 := Bc.cell 1 (.bool CD) rfl
          have g3 := Bc.cell 3 (.int .i64 CV) rfl
          go_wp2_with fail
          refine (hcv _ hG hR2).mono ?_
          rintro e v9 ⟨rfl, hb9⟩
          replace hb := hb.trans (hb9.mono hb.size)
          replace Bp := Bp.below hb9
          replace Bc := Bc.below hb9
          replace hR2 := hR2.below hb9
          replace hG := hG.below hb9
          clear hb9 hcv
          clear d0 d1 g0 g1 g3
          rw [hcm]
          cases hD : CD
          · rw [hD] at Bc
            have g0 := Bc.cell 0 (.int .i64 CC) rfl
            have g1 := Bc.cell 1 (.bool false) rfl
            clear hcn hcw
            go_wp2
            go_ret
            exact ⟨by simp, hb⟩
          · have hn := hcn hD
            rw [hD] at Bc
            clear hcn
            have g0 := Bc.cell 0 (.int .i64 CC) rfl
            have g1 := Bc.cell 1 (.bool true) rfl
            have g3 := Bc.cell 3 (.int .i64 CV) rfl
            go_wp2_with fail
            refine (hcw _ hG hR2).mono ?_
            rintro e v9 ⟨rfl, hb9⟩
            replace hb := hb.trans (hb9.mono hb.size)
            rw [hn]
            clear hcw hb9 Bp Bc hR1 hR2 hG g0 g1 g3
            go_wp2
            go_ret
            exact ⟨by simp, hb⟩
        · have hc' : (CC == 0) = false := by simpa using hc
          have hc2 : (CC != 0) = true := by simpa using hc
          clear HC hc hcv hcw
          have d0 := Bp.cell 0 (.int .i64 PC) rfl
          have d1 := Bp.cell 1 (.int .i64 PV) rfl
          have g0 := Bc.cell 0 (.int .i64 CC) rfl
          have g1 := Bc.cell 1 (.bool CD) rfl
          have g3 := Bc.cell 3 (.int .i64 CV) rfl
          go_wp2
          go_ret
          exact ⟨by simp, hb⟩

end Go.Proofs.YtonkbpnchcgmmaaDoor
