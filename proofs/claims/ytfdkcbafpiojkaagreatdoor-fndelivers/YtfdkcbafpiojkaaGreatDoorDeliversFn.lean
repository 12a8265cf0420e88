/- The law FnDelivers, walked: at every list of bytes it answers true, and it writes into nothing that was there. The condition: errors.errorType starts as the program's text lays it. -/
import Derived.Test.YtfdkcbafpiojkaaGreatDoorSGBC
import Derived.Test.YtfdkcbafpiojkaaGreatDoorSGBB
import Derived.Test.YtfdkcbafpiojkaaGreatDoorSGBS
import Derived.Test.YtfdkcbafpiojkaaGreatDoorSGBT
namespace Go.Proofs.YtfdkcbafpiojkaaGreatDoor
open Go.RowKit
open Go.BigFrame
set_option linter.unusedVariables false
set_option maxRecDepth 100000
set_option linter.unusedSimpArgs false

theorem txns_n9 {ps qs : List TxnQ} (h : ps.map TxnQ.e = qs.map TxnQ.e) : qs.length + nmL TxnQ.n qs = ps.length + nmL TxnQ.n ps := (txq_n h).symm

set_option maxRecDepth 100000 in
set_option maxHeartbeats 16000000 in
theorem deliversFn (a : Option Addr) (cap : Nat) (zs : List Int) (w : World) (hg : ErrT w) (h : Row .u8 w a zs) (hu : ∀ i, 0 ≤ zs.getD i 0 ∧ zs.getD i 0 ≤ 255) (hm : zs.length ≤ 9223372036854775807) :
    Calls Tryz.prog 7 #[.slice a zs.length cap] w fun e w' => e = .returned (.bool true) ∧ Below w.heap.size w w' := by
  by_cases hle : zs.length ≤ 1048576
  case neg =>
    have hd : decide (1048576 < (zs.length : Int)) = true := decide_eq_true (by omega)
    go_enter Tryz.func7, Tryz.ntmps7
    go_wp2_with fail
    refine (lwBig_any a zs.length cap w hm).mono ?_
    rintro e w1 ⟨rfl, hw⟩
    subst hw
    rw [hd]
    go_wp2
    go_ret
    exact ⟨rfl, Below.refl _ _⟩
  have b0 : Below w.heap.size w w := Below.refl _ _
  have hd : decide (1048576 < (zs.length : Int)) = false := decide_eq_false (by omega)
  go_enter Tryz.func7, Tryz.ntmps7
  go_wp2_with fail
  refine (lwBig_any a zs.length cap w hm).mono ?_
  rintro e w1 ⟨rfl, hw⟩
  replace hw := hw.symm
  subst hw
  rw [hd]
  go_wp2_with fail
  refine (drawDeliver_any a cap zs w h hu hle).mono ?_
  rintro e w2 ⟨R, vf, fs, rfl, hnR, oR, oF, hnF, hb⟩
  replace hg := hg.below hb
  replace b0 := b0.trans (hb.mono b0.size)
  clear hb
  obtain ⟨rv0, rd, rv1, rb, rv2, rt, rv3, ru, rv4, rn⟩ := R
  obtain ⟨rs0, rk0, rfl⟩ : ∃ a c, rv0 = .slice a rd.length c := oR.1.shape
  obtain ⟨rs1, rk1, rfl⟩ : ∃ a c, rv1 = .slice a rb.length c := oR.2.1.shape
  obtain ⟨rs2, rk2, rfl⟩ : ∃ a c, rv2 = .slice a rt.length c := oR.2.2.1.shape
  obtain ⟨rs3, rk3, rfl⟩ : ∃ a c, rv3 = .slice a ru.length c := oR.2.2.2.1.shape
  obtain ⟨rs4, rk4, rfl⟩ : ∃ a c, rv4 = .slice a rn.length c := oR.2.2.2.2.shape
  obtain ⟨fa, fk, rfl⟩ := oF.shape
  have hlR : RepQ.n (⟨.slice rs0 rd.length rk0, rd, .slice rs1 rb.length rk1, rb, .slice rs2 rt.length rk2, rt, .slice rs3 ru.length rk3, ru, .slice rs4 rn.length rk4, rn⟩ : RepQ) ≤ 1048576 := by omega
  have hlF : fs.length + nmL TxnQ.n fs ≤ 1048576 := by omega
  clear h hu hle hd hm
  have BR := Blk.new w2 32 #[.slice rs0 rd.length rk0, .slice rs1 rb.length rk1, .slice rs2 rt.length rk2, .slice rs3 ru.length rk3, .slice rs4 rn.length rk4]
  have hb : Below w2.heap.size w2 (w2.alloc (.cells #[.slice rs0 rd.length rk0, .slice rs1 rb.length rk1, .slice rs2 rt.length rk2, .slice rs3 ru.length rk3, .slice rs4 rn.length rk4] 32)) := by go_grown
  replace oR := repB oR hb
  replace oF := oF.below hb
  replace hg := hg.below hb
  replace b0 := b0.trans (hb.mono b0.size)
  clear hb
  have p0 := BR.cell 0 _ rfl
  have p1 := BR.cell 1 _ rfl
  have p2 := BR.cell 2 _ rfl
  have p3 := BR.cell 3 _ rfl
  have p4 := BR.cell 4 _ rfl
  go_wp2_with fail
  clear p0 p1 p2 p3 p4
  generalize w2.alloc (.cells #[.slice rs0 rd.length rk0, .slice rs1 rb.length rk1, .slice rs2 rt.length rk2, .slice rs3 ru.length rk3, .slice rs4 rn.length rk4] 32) = X1 at *
  have hDL := fun w hg h hT => implDeliver_any (⟨.slice rs0 rd.length rk0, rd, .slice rs1 rb.length rk1, rb, .slice rs2 rt.length rk2, rt, .slice rs3 ru.length rk3, ru, .slice rs4 rn.length rk4, rn⟩ : RepQ) (.slice fa fs.length fk) fs w hg h hT hlR hlF
  have hSD := fun w h hT => specDeliver_any (⟨.slice rs0 rd.length rk0, rd, .slice rs1 rb.length rk1, rb, .slice rs2 rt.length rk2, rt, .slice rs3 ru.length rk3, ru, .slice rs4 rn.length rk4, rn⟩ : RepQ) (.slice fa fs.length fk) fs w h hT hlR hlF
  have HPL : Hid (dlC (RepQ.e (⟨.slice rs0 rd.length rk0, rd, .slice rs1 rb.length rk1, rb, .slice rs2 rt.length rk2, rt, .slice rs3 ru.length rk3, ru, .slice rs4 rn.length rk4, rn⟩ : RepQ)) (fs.map TxnQ.e) = 0 → dlE (RepQ.e (⟨.slice rs0 rd.length rk0, rd, .slice rs1 rb.length rk1, rb, .slice rs2 rt.length rk2, rt, .slice rs3 ru.length rk3, ru, .slice rs4 rn.length rk4, rn⟩ : RepQ)) (fs.map TxnQ.e) = mkR (rd.map TxnQ.e ++ fs.map TxnQ.e) (plK (rt.map TxnQ.e) (fs.map TxnQ.e)) ∧ repF (mkR (rd.map TxnQ.e ++ fs.map TxnQ.e) (plK (rt.map TxnQ.e) (fs.map TxnQ.e))) = 0 ∧ eaI rb (fs.map TxnQ.e) = allI [] (rd.map TxnQ.e ++ fs.map TxnQ.e) ∧ dlA (RepQ.e (⟨.slice rs0 rd.length rk0, rd, .slice rs1 rb.length rk1, rb, .slice rs2 rt.length rk2, rt, .slice rs3 ru.length rk3, ru, .slice rs4 rn.length rk4, rn⟩ : RepQ)) (fs.map TxnQ.e) = plB (rt.map TxnQ.e) (fs.map TxnQ.e) ∧ (plA (rt.map TxnQ.e) (fs.map TxnQ.e) = [] → (mkR (rd.map TxnQ.e ++ fs.map TxnQ.e) (plK (rt.map TxnQ.e) (fs.map TxnQ.e))).now = rn)) := fun h0 => ⟨if_pos h0, del_right h0, del_base h0, if_pos h0, del_now h0⟩
  dsimp only at hDL hSD
  generalize dlA (RepQ.e (⟨.slice rs0 rd.length rk0, rd, .slice rs1 rb.length rk1, rb, .slice rs2 rt.length rk2, rt, .slice rs3 ru.length rk3, ru, .slice rs4 rn.length rk4, rn⟩ : RepQ)) (fs.map TxnQ.e) = DA at *
  generalize dlE (RepQ.e (⟨.slice rs0 rd.length rk0, rd, .slice rs1 rb.length rk1, rb, .slice rs2 rt.length rk2, rt, .slice rs3 ru.length rk3, ru, .slice rs4 rn.length rk4, rn⟩ : RepQ)) (fs.map TxnQ.e) = DE at *
  generalize dlC (RepQ.e (⟨.slice rs0 rd.length rk0, rd, .slice rs1 rb.length rk1, rb, .slice rs2 rt.length rk2, rt, .slice rs3 ru.length rk3, ru, .slice rs4 rn.length rk4, rn⟩ : RepQ)) (fs.map TxnQ.e) = DC at *
  refine (hDL X1 hg oR oF).mono ?_
  rintro e w3 ⟨D, rfl, eD, oD, _, _, hb⟩
  clear hDL
  replace oR := repB oR hb
  replace BR := BR.below hb
  replace oF := oF.below hb
  replace hg := hg.below hb
  replace b0 := b0.trans (hb.mono b0.size)
  clear hb
  obtain ⟨dv0, dd, dv1, db, dv2, dt, dv3, du, dv4, dn⟩ := D
  obtain ⟨ds0, dk0, rfl⟩ : ∃ a c, dv0 = .slice a dd.length c := oD.1.shape
  obtain ⟨ds1, dk1, rfl⟩ : ∃ a c, dv1 = .slice a db.length c := oD.2.1.shape
  obtain ⟨ds2, dk2, rfl⟩ : ∃ a c, dv2 = .slice a dt.length c := oD.2.2.1.shape
  obtain ⟨ds3, dk3, rfl⟩ : ∃ a c, dv3 = .slice a du.length c := oD.2.2.2.1.shape
  obtain ⟨ds4, dk4, rfl⟩ : ∃ a c, dv4 = .slice a dn.length c := oD.2.2.2.2.shape
  have BD := Blk.new w3 34 #[.int .i64 DC, .int .i64 DA, .int .i64 0, .slice ds0 dd.length dk0, .slice ds1 db.length dk1, .slice ds2 dt.length dk2, .slice ds3 du.length dk3, .slice ds4 dn.length dk4]
  have hb : Below w3.heap.size w3 (w3.alloc (.cells #[.int .i64 DC, .int .i64 DA, .int .i64 0, .slice ds0 dd.length dk0, .slice ds1 db.length dk1, .slice ds2 dt.length dk2, .slice ds3 du.length dk3, .slice ds4 dn.length dk4] 34)) := by go_grown
  replace oR := repB oR hb
  replace oD := repB oD hb
  replace BR := BR.below hb
  replace oF := oF.below hb
  replace hg := hg.below hb
  replace b0 := b0.trans (hb.mono b0.size)
  clear hb
  by_cases hD : DC = 0
  · have HE : Hid _ := HPL.out hD
    subst hD
    have c0 := BD.cell 0 _ rfl
    have d1 := BR.cell 1 _ rfl
    clear HPL
    go_wp2_with fail
    generalize w3.alloc (.cells #[.int .i64 0, .int .i64 DA, .int .i64 0, .slice ds0 dd.length dk0, .slice ds1 db.length dk1, .slice ds2 dt.length dk2, .slice ds3 du.length dk3, .slice ds4 dn.length dk4] 34) = X at *
    obtain ⟨hE0, hE1, hE2, hE3, hE4⟩ := HE.out
    have hDm : RepQ.e (⟨.slice ds0 dd.length dk0, dd, .slice ds1 db.length dk1, db, .slice ds2 dt.length dk2, dt, .slice ds3 du.length dk3, du, .slice ds4 dn.length dk4, dn⟩ : RepQ) = mkR (rd.map TxnQ.e ++ fs.map TxnQ.e) (plK (rt.map TxnQ.e) (fs.map TxnQ.e)) := eD.trans hE0
    have hDF : repF (RepQ.e (⟨.slice ds0 dd.length dk0, dd, .slice ds1 db.length dk1, db, .slice ds2 dt.length dk2, dt, .slice ds3 du.length dk3, du, .slice ds4 dn.length dk4, dn⟩ : RepQ)) = 0 := by rw [hDm]; exact hE1
    have hlD0 := rep_small hDF
    have hlD : RepQ.n (⟨.slice ds0 dd.length dk0, dd, .slice ds1 db.length dk1, db, .slice ds2 dt.length dk2, dt, .slice ds3 du.length dk3, du, .slice ds4 dn.length dk4, dn⟩ : RepQ) ≤ 1048576 := by omega
    have hDB : db = eaI rb (fs.map TxnQ.e) := (congrArg RepE.base hDm).trans hE2.symm
    have hDD : dd.map TxnQ.e = rd.map TxnQ.e ++ fs.map TxnQ.e := congrArg RepE.done hDm
    have hDT : dt.map TxnQ.e = plK (rt.map TxnQ.e) (fs.map TxnQ.e) := congrArg RepE.tent hDm
    have HDN : Hid (plA (rt.map TxnQ.e) (fs.map TxnQ.e) = [] → dn = rn) := fun h => (congrArg RepE.now hDm).trans (hE4 h)
    have hRO := fun w hg h => iRF (⟨.slice ds0 dd.length dk0, dd, .slice ds1 db.length dk1, db, .slice ds2 dt.length dk2, dt, .slice ds3 du.length dk3, du, .slice ds4 dn.length dk4, dn⟩ : RepQ) w hg h hlD
    rw [hDF] at hRO
    have hlR' := hlR
    have hlD' := hlD
    dsimp only [RepQ.n] at hlR' hlD'
    have hdl : dd.length = rd.length + fs.length := by simpa using congrArg List.length hDD
    have e75 : ((dd.length : Int) == (rd.length : Int) + (fs.length : Int)) = true := by rw [hdl]; simp
    have hPX : ∀ w, txnK.Own w (.slice rs0 rd.length rk0) rd → txnK.Own w (.slice ds0 dd.length dk0) dd → Calls Tryz.prog 43 #[.slice rs0 rd.length rk0, .slice ds0 dd.length dk0] w fun e w' => e = .returned (.bool true) ∧ Below w.heap.size w w' := fun w h1 h2 => by
      have := implIsPrefix_any _ _ rd dd w h1.at h2 (by omega) (by omega)
      rw [show preT (rd.map TxnQ.e) (dd.map TxnQ.e) = true by rw [hDD]; simp [preT, sameTs_refl8]] at this
      exact this
    have hEA := fun w (h1 : itemK.Own w (.slice rs1 rb.length rk1) rb) (h2 : txnK.Own w (.slice fa fs.length fk) fs) => implExecAll_any rs1 rk1 rb (.slice fa fs.length fk) (fs.map TxnQ.e) w (itemK_at9 h1.at) (h1.niceV _ _ _ rfl) (txnsAt_of' h2.at) (by omega) (by rw [List.length_map, sumA_of']; omega)
    have hlea := ea_le rb (fs.map TxnQ.e)
    rw [← hDB] at hEA hlea
    have hPO := fun w (h1 : txnK.Own w (.slice rs2 rt.length rk2) rt) (h2 : txnK.Own w (.slice fa fs.length fk) fs) => implPlanOf_any (.slice rs2 rt.length rk2) (.slice fa fs.length fk) rt fs w h1.at h2.at h1.capOk h2.capOk (by omega) (by omega)
    rw [← hE3] at hPO
    have HED : Hid (RepQ.e (⟨.slice ds0 dd.length dk0, dd, .slice ds1 db.length dk1, db, .slice ds2 dt.length dk2, dt, .slice ds3 du.length dk3, du, .slice ds4 dn.length dk4, dn⟩ : RepQ) = DE) := eD
    have HDT : Hid (dt.map TxnQ.e = plK (rt.map TxnQ.e) (fs.map TxnQ.e)) := hDT
    dsimp only at hRO
    generalize eaC rb (fs.map TxnQ.e) = EC at *
    generalize eaCd rb (fs.map TxnQ.e) = L1 at *
    generalize eaVl rb (fs.map TxnQ.e) = L2 at *
    clear hE0 hE1 hE2 hE3 hE4 hDm hDF hDB hDD hDT eD HE hdl
    refine (hEA X oR.2.1 oF).mono ?_
    rintro e w5 ⟨a1, c1, a2, c2, a3, c3, rfl, oA, hb⟩
    clear hEA c0 d1
    have oE : itemK.Own w5 (.slice a3 db.length c3) db := ⟨by rw [itemK_row]; exact (own_zero oA.o3.1).1, fun _ _ => trivial⟩
    clear oA
    replace oR := repB oR hb
    replace oD := repB oD hb
    replace oF := oF.below hb
    replace BR := BR.below hb
    replace BD := BD.below hb
    replace hg := hg.below hb
    replace b0 := b0.trans (hb.mono b0.size)
    clear hb
    have BE := Blk.new w5 75 #[.int .i64 EC, .slice a1 L1.length c1, .slice a2 L2.length c2, .slice a3 db.length c3]
    have hb : Below w5.heap.size w5 (w5.alloc (.cells #[.int .i64 EC, .slice a1 L1.length c1, .slice a2 L2.length c2, .slice a3 db.length c3] 75)) := by go_grown
    replace oR := repB oR hb
    replace oD := repB oD hb
    replace oF := oF.below hb
    replace BR := BR.below hb
    replace BD := BD.below hb
    replace hg := hg.below hb
    replace b0 := b0.trans (hb.mono b0.size)
    replace oE := oE.below hb
    clear hb
    have hSB := fun w h h' => iSI (.slice ds1 db.length dk1) (.slice a3 db.length c3) db db w h h' (by omega) (by omega)
    rw [sameIs_refl db] at hSB
    have d2 := BR.cell 2 _ rfl
    go_wp2_with fail
    generalize w5.alloc (.cells #[.int .i64 EC, .slice a1 L1.length c1, .slice a2 L2.length c2, .slice a3 db.length c3] 75) = X5 at *
    clear d2
    refine (hPO X5 oR.2.2.1 oF).mono ?_
    rintro e w6 ⟨vg, vk, qg, qk, rfl, eg, ek, oG, oK, _, _, hb⟩
    clear hPO
    replace oR := repB oR hb
    replace oD := repB oD hb
    replace oF := oF.below hb
    replace BR := BR.below hb
    replace BD := BD.below hb
    replace hg := hg.below hb
    replace b0 := b0.trans (hb.mono b0.size)
    replace oE := oE.below hb
    replace BE := BE.below hb
    clear hb
    obtain ⟨ga, gk, rfl⟩ := oG.shape
    obtain ⟨ka, kk, rfl⟩ := oK.shape
    have hkd : dt.map TxnQ.e = qk.map TxnQ.e := HDT.out.trans ek.symm
    have hkn := txns_n9 hkd
    have hST : ∀ w, txnK.Own w (.slice ds2 dt.length dk2) dt → txnK.Own w (.slice ka qk.length kk) qk → Calls Tryz.prog 42 #[.slice ds2 dt.length dk2, .slice ka qk.length kk] w fun e w' => e = .returned (.bool true) ∧ Below w.heap.size w w' := fun w h1 h2 => by
      have := implSameTxns_any _ _ (dt.map TxnQ.e) (qk.map TxnQ.e) w (txnsAt_of' h1.at) (txnsAt_of' h2.at) (by rw [List.length_map, sumA_of']; omega) (by rw [List.length_map, sumA_of']; omega)
      rw [hkd, sameTs_refl8] at this
      exact this
    have HGN : Hid (qg = [] → dn = rn) := fun h => HDN.out (by rw [← eg, h]; rfl)
    clear HDN HDT hkd hkn eg ek oG
    generalize bthF (rt.map TxnQ.e) (fs.map TxnQ.e) = PC at *
    generalize plN (rt.map TxnQ.e) (fs.map TxnQ.e) = PN at *
    have BP := Blk.new w6 78 #[.int .i64 PC, .int .i64 PN, .int .i64 DA, .slice ga qg.length gk, .slice ka qk.length kk]
    have hb : Below w6.heap.size w6 (w6.alloc (.cells #[.int .i64 PC, .int .i64 PN, .int .i64 DA, .slice ga qg.length gk, .slice ka qk.length kk] 78)) := by go_grown
    replace oR := repB oR hb
    replace oD := repB oD hb
    replace oF := oF.below hb
    replace BR := BR.below hb
    replace BD := BD.below hb
    replace hg := hg.below hb
    replace b0 := b0.trans (hb.mono b0.size)
    replace oE := oE.below hb
    replace BE := BE.below hb
    replace oK := oK.below hb
    clear hb
    go_wp2_with fail
    generalize w6.alloc (.cells #[.int .i64 PC, .int .i64 PN, .int .i64 DA, .slice ga qg.length gk, .slice ka qk.length kk] 78) = X6 at *
    have e82 : (DA == DA) = true := by simp
    have l0 := BD.lat 0 _ rfl
    have l1 := BD.lat 1 _ rfl
    have l2 := BD.lat 2 _ rfl
    have l3 := BD.lat 3 _ rfl
    have l4 := BD.lat 4 _ rfl
    have l5 := BD.lat 5 _ rfl
    have l6 := BD.lat 6 _ rfl
    have l7 := BD.lat 7 _ rfl
    have m0 := BR.lat 0 _ rfl
    have m1 := BR.lat 1 _ rfl
    have m2 := BR.lat 2 _ rfl
    have m3 := BR.lat 3 _ rfl
    have m4 := BR.lat 4 _ rfl
    have n0 := BE.lat 0 _ rfl
    have n1 := BE.lat 1 _ rfl
    have n2 := BE.lat 2 _ rfl
    have n3 := BE.lat 3 _ rfl
    have o0 := BP.lat 0 _ rfl
    have o1 := BP.lat 1 _ rfl
    have o2 := BP.lat 2 _ rfl
    have o3 := BP.lat 3 _ rfl
    have o4 := BP.lat 4 _ rfl
    simp only [List.append_eq, List.cons_append, List.nil_append]
    by_cases hB : DA > 0
    · have e87 : decide (DA > 0) = true := decide_eq_true hB
      clear HGN
      have hW : Below X6.heap.size X6 X6.drew := (Below.refl _ _).drew
      have hnn : Nonempty (Lat X6) := ⟨⟨X6, Below.refl _ _⟩⟩
      refine text_begin (S := fun w' => ∃ u : Lat X6, w' = u.val) (by kernel_rfl) ?_
      refine seg_range [(0, 2)] 75 (by kernel_rfl) (by kernel_rfl) (by kernel_rfl) (by kernel_rfl) (by kernel_rfl) ⟨⟨_, hW⟩, rfl⟩ ?_
      simp only [pickR, List.toList_toArray, List.flatMap_cons, List.flatMap_nil, List.drop_succ_cons, List.drop_zero, List.take_succ_cons, List.take_zero, List.cons_append, List.nil_append, List.append_nil]
      repeat go_big_quiet_step (fail)
      refine wpQuiet_nil ?_
      refine call_at 2 (some 38) 33 #[.agg #[.slice ds0 dd.length dk0, .slice ds1 db.length dk1, .slice ds2 dt.length dk2, .slice ds3 du.length dk3, .slice ds4 dn.length dk4]] 74 (by kernel_rfl) (by kernel_rfl) (by kernel_rfl) (by kernel_rfl) (by kernel_rfl) ?_
      refine (hRO _ (hg.below hW) (repB oD hW)).mono ?_
      rintro e w9 ⟨rfl, hb9⟩
      replace hW := hW.trans (hb9.mono hW.size)
      clear hb9
      refine ⟨_, rfl, ⟨⟨_, hW⟩, rfl⟩, ?_⟩
      simp only [Act.put, List.setIfInBounds_toArray, List.set_cons_zero, List.set_cons_succ]
      refine seg_range [(3, 7)] 67 (by kernel_rfl) (by kernel_rfl) (by kernel_rfl) (by kernel_rfl) (by kernel_rfl) ⟨⟨_, hW⟩, rfl⟩ ?_
      simp only [pickR, List.toList_toArray, List.flatMap_cons, List.flatMap_nil, List.drop_succ_cons, List.drop_zero, List.take_succ_cons, List.take_zero, List.cons_append, List.nil_append, List.append_nil]
      repeat go_big_quiet_step (fail)
      refine wpQuiet_nil ?_
      refine call_at 10 (some 46) 34 #[.slice ds1 db.length dk1, .slice a3 db.length c3] 66 (by kernel_rfl) (by kernel_rfl) (by kernel_rfl) (by kernel_rfl) (by kernel_rfl) ?_
      refine (hSB _ (repB oD hW).2.1 (oE.below hW)).mono ?_
      rintro e w9 ⟨rfl, hb9⟩
      replace hW := hW.trans (hb9.mono hW.size)
      clear hb9
      refine ⟨_, rfl, ⟨⟨_, hW⟩, rfl⟩, ?_⟩
      simp only [Act.put, List.setIfInBounds_toArray, List.set_cons_zero, List.set_cons_succ]
      refine seg_range [(11, 7)] 59 (by kernel_rfl) (by kernel_rfl) (by kernel_rfl) (by kernel_rfl) (by kernel_rfl) ⟨⟨_, hW⟩, rfl⟩ ?_
      simp only [pickR, List.toList_toArray, List.flatMap_cons, List.flatMap_nil, List.drop_succ_cons, List.drop_zero, List.take_succ_cons, List.take_zero, List.cons_append, List.nil_append, List.append_nil]
      repeat go_big_quiet_step (fail)
      refine wpQuiet_nil ?_
      refine call_at 18 (some 54) 42 #[.slice ds2 dt.length dk2, .slice ka qk.length kk] 58 (by kernel_rfl) (by kernel_rfl) (by kernel_rfl) (by kernel_rfl) (by kernel_rfl) ?_
      refine (hST _ (repB oD hW).2.2.1 (oK.below hW)).mono ?_
      rintro e w9 ⟨rfl, hb9⟩
      replace hW := hW.trans (hb9.mono hW.size)
      clear hb9
      refine ⟨_, rfl, ⟨⟨_, hW⟩, rfl⟩, ?_⟩
      simp only [Act.put, List.setIfInBounds_toArray, List.set_cons_zero, List.set_cons_succ]
      refine seg_range [(19, 7)] 51 (by kernel_rfl) (by kernel_rfl) (by kernel_rfl) (by kernel_rfl) (by kernel_rfl) ⟨⟨_, hW⟩, rfl⟩ ?_
      simp only [pickR, List.toList_toArray, List.flatMap_cons, List.flatMap_nil, List.drop_succ_cons, List.drop_zero, List.take_succ_cons, List.take_zero, List.cons_append, List.nil_append, List.append_nil]
      repeat go_big_quiet_step (fail)
      refine wpQuiet_nil ?_
      refine call_at 26 (some 62) 43 #[.slice rs0 rd.length rk0, .slice ds0 dd.length dk0] 50 (by kernel_rfl) (by kernel_rfl) (by kernel_rfl) (by kernel_rfl) (by kernel_rfl) ?_
      refine (hPX _ (repB oR hW).1 (repB oD hW).1).mono ?_
      rintro e w9 ⟨rfl, hb9⟩
      replace hW := hW.trans (hb9.mono hW.size)
      clear hb9
      refine ⟨_, rfl, ⟨⟨_, hW⟩, rfl⟩, ?_⟩
      simp only [Act.put, List.setIfInBounds_toArray, List.set_cons_zero, List.set_cons_succ]
      refine seg_range [(27, 5), (33, 2), (36, 1)] 42 (by kernel_rfl) (by kernel_rfl) (by kernel_rfl) (by kernel_rfl) (by kernel_rfl) ⟨⟨_, hW⟩, rfl⟩ ?_
      simp only [pickR, List.toList_toArray, List.flatMap_cons, List.flatMap_nil, List.drop_succ_cons, List.drop_zero, List.take_succ_cons, List.take_zero, List.cons_append, List.nil_append, List.append_nil]
      repeat go_big_quiet_step (fail)
      refine wpQuiet_nil ?_
      refine quiet_at 32 (some 68) (.int .i64 dd.length) 41 (by kernel_rfl) (by kernel_rfl) (by kernel_rfl) (by kernel_rfl) (by kernel_rfl) (fun u _ => by kernel_rfl) ⟨⟨_, hW⟩, rfl⟩ ?_
      simp only [Act.put, List.setIfInBounds_toArray, List.set_cons_zero, List.set_cons_succ]
      refine quiet_at 35 (some 71) (.int .i64 rd.length) 40 (by kernel_rfl) (by kernel_rfl) (by kernel_rfl) (by kernel_rfl) (by kernel_rfl) (fun u _ => by kernel_rfl) ⟨⟨_, hW⟩, rfl⟩ ?_
      simp only [Act.put, List.setIfInBounds_toArray, List.set_cons_zero, List.set_cons_succ]
      refine quiet_at 37 (some 73) (.int .i64 fs.length) 39 (by kernel_rfl) (by kernel_rfl) (by kernel_rfl) (by kernel_rfl) (by kernel_rfl) (fun u _ => by kernel_rfl) ⟨⟨_, hW⟩, rfl⟩ ?_
      simp only [Act.put, List.setIfInBounds_toArray, List.set_cons_zero, List.set_cons_succ]
      refine seg_range [(38, 17)] 22 (by kernel_rfl) (by kernel_rfl) (by kernel_rfl) (by kernel_rfl) (by kernel_rfl) ⟨⟨_, hW⟩, rfl⟩ ?_
      simp only [pickR, List.toList_toArray, List.flatMap_cons, List.flatMap_nil, List.drop_succ_cons, List.drop_zero, List.take_succ_cons, List.take_zero, List.cons_append, List.nil_append, List.append_nil]
      repeat go_big_quiet_step (fail)
      refine wpQuiet_nil ?_
      refine skip_at 55 (some 91) 21 (by kernel_rfl) (by kernel_rfl) (by kernel_rfl) (by kernel_rfl) (by kernel_rfl) ⟨⟨_, hW⟩, rfl⟩ ?_
      simp only [Act.put, List.setIfInBounds_toArray, List.set_cons_zero, List.set_cons_succ]
      refine seg_range [(56, 8)] 13 (by kernel_rfl) (by kernel_rfl) (by kernel_rfl) (by kernel_rfl) (by kernel_rfl) ⟨⟨_, hW⟩, rfl⟩ ?_
      simp only [pickR, List.toList_toArray, List.flatMap_cons, List.flatMap_nil, List.drop_succ_cons, List.drop_zero, List.take_succ_cons, List.take_zero, List.cons_append, List.nil_append, List.append_nil]
      repeat go_big_quiet_step (fail)
      refine wpQuiet_nil ?_
      refine skip_at 64 (some 100) 12 (by kernel_rfl) (by kernel_rfl) (by kernel_rfl) (by kernel_rfl) (by kernel_rfl) ⟨⟨_, hW⟩, rfl⟩ ?_
      simp only [Act.put, List.setIfInBounds_toArray, List.set_cons_zero, List.set_cons_succ]
      refine seg_range [(65, 7)] 5 (by kernel_rfl) (by kernel_rfl) (by kernel_rfl) (by kernel_rfl) (by kernel_rfl) ⟨⟨_, hW⟩, rfl⟩ ?_
      simp only [pickR, List.toList_toArray, List.flatMap_cons, List.flatMap_nil, List.drop_succ_cons, List.drop_zero, List.take_succ_cons, List.take_zero, List.cons_append, List.nil_append, List.append_nil]
      repeat go_big_quiet_step (fail)
      refine wpQuiet_nil ?_
      refine call_at 72 (some 108) 25 #[.agg #[.slice rs0 rd.length rk0, .slice rs1 rb.length rk1, .slice rs2 rt.length rk2, .slice rs3 ru.length rk3, .slice rs4 rn.length rk4], .slice fa fs.length fk] 4 (by kernel_rfl) (by kernel_rfl) (by kernel_rfl) (by kernel_rfl) (by kernel_rfl) ?_
      refine (hSD _ (repB oR hW) (oF.below hW)).mono ?_
      rintro e w9 ⟨Q7, rfl, e7, o7, _, _, hb9⟩
      replace hW := hW.trans (hb9.mono hW.size)
      obtain ⟨yv0, yd, yv1, yb, yv2, yt, yv3, yu, yv4, yn⟩ := Q7
      obtain ⟨ys0, yk0, rfl⟩ : ∃ a c, yv0 = .slice a yd.length c := o7.1.shape
      obtain ⟨ys1, yk1, rfl⟩ : ∃ a c, yv1 = .slice a yb.length c := o7.2.1.shape
      obtain ⟨ys2, yk2, rfl⟩ : ∃ a c, yv2 = .slice a yt.length c := o7.2.2.1.shape
      obtain ⟨ys3, yk3, rfl⟩ : ∃ a c, yv3 = .slice a yu.length c := o7.2.2.2.1.shape
      obtain ⟨ys4, yk4, rfl⟩ : ∃ a c, yv4 = .slice a yn.length c := o7.2.2.2.2.shape
      clear hb9
      refine ⟨_, rfl, ⟨⟨_, hW⟩, rfl⟩, ?_⟩
      simp only [Act.put, List.setIfInBounds_toArray, List.set_cons_zero, List.set_cons_succ]
      refine quiet_at 73 (some 109) (.agg #[.slice ys0 yd.length yk0, .slice ys1 yb.length yk1, .slice ys2 yt.length yk2, .slice ys3 yu.length yk3, .slice ys4 yn.length yk4]) 3 (by kernel_rfl) (by kernel_rfl) (by kernel_rfl) (by kernel_rfl) (by kernel_rfl) (fun u _ => by kernel_rfl) ⟨⟨_, hW⟩, rfl⟩ ?_
      simp only [Act.put, List.setIfInBounds_toArray, List.set_cons_zero, List.set_cons_succ]
      refine call_at 74 (some 110) 38 #[.agg #[.slice ds0 dd.length dk0, .slice ds1 db.length dk1, .slice ds2 dt.length dk2, .slice ds3 du.length dk3, .slice ds4 dn.length dk4], .agg #[.slice ys0 yd.length yk0, .slice ys1 yb.length yk1, .slice ys2 yt.length yk2, .slice ys3 yu.length yk3, .slice ys4 yn.length yk4]] 2 (by kernel_rfl) (by kernel_rfl) (by kernel_rfl) (by kernel_rfl) (by kernel_rfl) ?_
      refine (iSR (⟨.slice ds0 dd.length dk0, dd, .slice ds1 db.length dk1, db, .slice ds2 dt.length dk2, dt, .slice ds3 du.length dk3, du, .slice ds4 dn.length dk4, dn⟩ : RepQ) (⟨.slice ys0 yd.length yk0, yd, .slice ys1 yb.length yk1, yb, .slice ys2 yt.length yk2, yt, .slice ys3 yu.length yk3, yu, .slice ys4 yn.length yk4, yn⟩ : RepQ) _ (repB oD hW) o7 (HED.out.trans e7.symm) hlD (rep_n9 (HED.out.trans e7.symm) hlD)).mono ?_
      rintro e w9 ⟨rfl, hb9⟩
      replace hW := hW.trans (hb9.mono hW.size)
      clear o7 e7
      clear hb9
      refine ⟨_, rfl, ⟨⟨_, hW⟩, rfl⟩, ?_⟩
      simp only [Act.put, List.setIfInBounds_toArray, List.set_cons_zero, List.set_cons_succ]
      refine seg_range [(75, 2)] 0 (by kernel_rfl) (by kernel_rfl) (by kernel_rfl) (by kernel_rfl) (by kernel_rfl) ⟨⟨_, hW⟩, rfl⟩ ?_
      simp only [pickR, List.toList_toArray, List.flatMap_cons, List.flatMap_nil, List.drop_succ_cons, List.drop_zero, List.take_succ_cons, List.take_zero, List.cons_append, List.nil_append, List.append_nil]
      repeat go_big_quiet_step (fail)
      refine wpQuiet_nil ?_
      refine text_end (by kernel_rfl) ?_
      replace b0 := b0.trans (hW.mono b0.size)
      go_wp2
      go_ret
      exact ⟨rfl, b0⟩
    · by_cases hG : 0 < qg.length
      · have e87 : decide (DA > 0) = false := decide_eq_false hB
        have e92 : decide ((qg.length : Int) > 0) = true := decide_eq_true (by omega)
        clear HGN
        have hW : Below X6.heap.size X6 X6.drew := (Below.refl _ _).drew
        have hnn : Nonempty (Lat X6) := ⟨⟨X6, Below.refl _ _⟩⟩
        refine text_begin (S := fun w' => ∃ u : Lat X6, w' = u.val) (by kernel_rfl) ?_
        refine seg_range [(0, 2)] 75 (by kernel_rfl) (by kernel_rfl) (by kernel_rfl) (by kernel_rfl) (by kernel_rfl) ⟨⟨_, hW⟩, rfl⟩ ?_
        simp only [pickR, List.toList_toArray, List.flatMap_cons, List.flatMap_nil, List.drop_succ_cons, List.drop_zero, List.take_succ_cons, List.take_zero, List.cons_append, List.nil_append, List.append_nil]
        repeat go_big_quiet_step (fail)
        refine wpQuiet_nil ?_
        refine call_at 2 (some 38) 33 #[.agg #[.slice ds0 dd.length dk0, .slice ds1 db.length dk1, .slice ds2 dt.length dk2, .slice ds3 du.length dk3, .slice ds4 dn.length dk4]] 74 (by kernel_rfl) (by kernel_rfl) (by kernel_rfl) (by kernel_rfl) (by kernel_rfl) ?_
        refine (hRO _ (hg.below hW) (repB oD hW)).mono ?_
        rintro e w9 ⟨rfl, hb9⟩
        replace hW := hW.trans (hb9.mono hW.size)
        clear hb9
        refine ⟨_, rfl, ⟨⟨_, hW⟩, rfl⟩, ?_⟩
        simp only [Act.put, List.setIfInBounds_toArray, List.set_cons_zero, List.set_cons_succ]
        refine seg_range [(3, 7)] 67 (by kernel_rfl) (by kernel_rfl) (by kernel_rfl) (by kernel_rfl) (by kernel_rfl) ⟨⟨_, hW⟩, rfl⟩ ?_
        simp only [pickR, List.toList_toArray, List.flatMap_cons, List.flatMap_nil, List.drop_succ_cons, List.drop_zero, List.take_succ_cons, List.take_zero, List.cons_append, List.nil_append, List.append_nil]
        repeat go_big_quiet_step (fail)
        refine wpQuiet_nil ?_
        refine call_at 10 (some 46) 34 #[.slice ds1 db.length dk1, .slice a3 db.length c3] 66 (by kernel_rfl) (by kernel_rfl) (by kernel_rfl) (by kernel_rfl) (by kernel_rfl) ?_
        refine (hSB _ (repB oD hW).2.1 (oE.below hW)).mono ?_
        rintro e w9 ⟨rfl, hb9⟩
        replace hW := hW.trans (hb9.mono hW.size)
        clear hb9
        refine ⟨_, rfl, ⟨⟨_, hW⟩, rfl⟩, ?_⟩
        simp only [Act.put, List.setIfInBounds_toArray, List.set_cons_zero, List.set_cons_succ]
        refine seg_range [(11, 7)] 59 (by kernel_rfl) (by kernel_rfl) (by kernel_rfl) (by kernel_rfl) (by kernel_rfl) ⟨⟨_, hW⟩, rfl⟩ ?_
        simp only [pickR, List.toList_toArray, List.flatMap_cons, List.flatMap_nil, List.drop_succ_cons, List.drop_zero, List.take_succ_cons, List.take_zero, List.cons_append, List.nil_append, List.append_nil]
        repeat go_big_quiet_step (fail)
        refine wpQuiet_nil ?_
        refine call_at 18 (some 54) 42 #[.slice ds2 dt.length dk2, .slice ka qk.length kk] 58 (by kernel_rfl) (by kernel_rfl) (by kernel_rfl) (by kernel_rfl) (by kernel_rfl) ?_
        refine (hST _ (repB oD hW).2.2.1 (oK.below hW)).mono ?_
        rintro e w9 ⟨rfl, hb9⟩
        replace hW := hW.trans (hb9.mono hW.size)
        clear hb9
        refine ⟨_, rfl, ⟨⟨_, hW⟩, rfl⟩, ?_⟩
        simp only [Act.put, List.setIfInBounds_toArray, List.set_cons_zero, List.set_cons_succ]
        refine seg_range [(19, 7)] 51 (by kernel_rfl) (by kernel_rfl) (by kernel_rfl) (by kernel_rfl) (by kernel_rfl) ⟨⟨_, hW⟩, rfl⟩ ?_
        simp only [pickR, List.toList_toArray, List.flatMap_cons, List.flatMap_nil, List.drop_succ_cons, List.drop_zero, List.take_succ_cons, List.take_zero, List.cons_append, List.nil_append, List.append_nil]
        repeat go_big_quiet_step (fail)
        refine wpQuiet_nil ?_
        refine call_at 26 (some 62) 43 #[.slice rs0 rd.length rk0, .slice ds0 dd.length dk0] 50 (by kernel_rfl) (by kernel_rfl) (by kernel_rfl) (by kernel_rfl) (by kernel_rfl) ?_
        refine (hPX _ (repB oR hW).1 (repB oD hW).1).mono ?_
        rintro e w9 ⟨rfl, hb9⟩
        replace hW := hW.trans (hb9.mono hW.size)
        clear hb9
        refine ⟨_, rfl, ⟨⟨_, hW⟩, rfl⟩, ?_⟩
        simp only [Act.put, List.setIfInBounds_toArray, List.set_cons_zero, List.set_cons_succ]
        refine seg_range [(27, 5), (33, 2), (36, 1)] 42 (by kernel_rfl) (by kernel_rfl) (by kernel_rfl) (by kernel_rfl) (by kernel_rfl) ⟨⟨_, hW⟩, rfl⟩ ?_
        simp only [pickR, List.toList_toArray, List.flatMap_cons, List.flatMap_nil, List.drop_succ_cons, List.drop_zero, List.take_succ_cons, List.take_zero, List.cons_append, List.nil_append, List.append_nil]
        repeat go_big_quiet_step (fail)
        refine wpQuiet_nil ?_
        refine quiet_at 32 (some 68) (.int .i64 dd.length) 41 (by kernel_rfl) (by kernel_rfl) (by kernel_rfl) (by kernel_rfl) (by kernel_rfl) (fun u _ => by kernel_rfl) ⟨⟨_, hW⟩, rfl⟩ ?_
        simp only [Act.put, List.setIfInBounds_toArray, List.set_cons_zero, List.set_cons_succ]
        refine quiet_at 35 (some 71) (.int .i64 rd.length) 40 (by kernel_rfl) (by kernel_rfl) (by kernel_rfl) (by kernel_rfl) (by kernel_rfl) (fun u _ => by kernel_rfl) ⟨⟨_, hW⟩, rfl⟩ ?_
        simp only [Act.put, List.setIfInBounds_toArray, List.set_cons_zero, List.set_cons_succ]
        refine quiet_at 37 (some 73) (.int .i64 fs.length) 39 (by kernel_rfl) (by kernel_rfl) (by kernel_rfl) (by kernel_rfl) (by kernel_rfl) (fun u _ => by kernel_rfl) ⟨⟨_, hW⟩, rfl⟩ ?_
        simp only [Act.put, List.setIfInBounds_toArray, List.set_cons_zero, List.set_cons_succ]
        refine seg_range [(38, 17)] 22 (by kernel_rfl) (by kernel_rfl) (by kernel_rfl) (by kernel_rfl) (by kernel_rfl) ⟨⟨_, hW⟩, rfl⟩ ?_
        simp only [pickR, List.toList_toArray, List.flatMap_cons, List.flatMap_nil, List.drop_succ_cons, List.drop_zero, List.take_succ_cons, List.take_zero, List.cons_append, List.nil_append, List.append_nil]
        repeat go_big_quiet_step (fail)
        refine wpQuiet_nil ?_
        refine quiet_at 55 (some 91) (.int .i64 qg.length) 21 (by kernel_rfl) (by kernel_rfl) (by kernel_rfl) (by kernel_rfl) (by kernel_rfl) (fun u _ => by kernel_rfl) ⟨⟨_, hW⟩, rfl⟩ ?_
        simp only [Act.put, List.setIfInBounds_toArray, List.set_cons_zero, List.set_cons_succ]
        refine seg_range [(56, 8)] 13 (by kernel_rfl) (by kernel_rfl) (by kernel_rfl) (by kernel_rfl) (by kernel_rfl) ⟨⟨_, hW⟩, rfl⟩ ?_
        simp only [pickR, List.toList_toArray, List.flatMap_cons, List.flatMap_nil, List.drop_succ_cons, List.drop_zero, List.take_succ_cons, List.take_zero, List.cons_append, List.nil_append, List.append_nil]
        repeat go_big_quiet_step (fail)
        refine wpQuiet_nil ?_
        refine skip_at 64 (some 100) 12 (by kernel_rfl) (by kernel_rfl) (by kernel_rfl) (by kernel_rfl) (by kernel_rfl) ⟨⟨_, hW⟩, rfl⟩ ?_
        simp only [Act.put, List.setIfInBounds_toArray, List.set_cons_zero, List.set_cons_succ]
        refine seg_range [(65, 7)] 5 (by kernel_rfl) (by kernel_rfl) (by kernel_rfl) (by kernel_rfl) (by kernel_rfl) ⟨⟨_, hW⟩, rfl⟩ ?_
        simp only [pickR, List.toList_toArray, List.flatMap_cons, List.flatMap_nil, List.drop_succ_cons, List.drop_zero, List.take_succ_cons, List.take_zero, List.cons_append, List.nil_append, List.append_nil]
        repeat go_big_quiet_step (fail)
        refine wpQuiet_nil ?_
        refine call_at 72 (some 108) 25 #[.agg #[.slice rs0 rd.length rk0, .slice rs1 rb.length rk1, .slice rs2 rt.length rk2, .slice rs3 ru.length rk3, .slice rs4 rn.length rk4], .slice fa fs.length fk] 4 (by kernel_rfl) (by kernel_rfl) (by kernel_rfl) (by kernel_rfl) (by kernel_rfl) ?_
        refine (hSD _ (repB oR hW) (oF.below hW)).mono ?_
        rintro e w9 ⟨Q7, rfl, e7, o7, _, _, hb9⟩
        replace hW := hW.trans (hb9.mono hW.size)
        obtain ⟨yv0, yd, yv1, yb, yv2, yt, yv3, yu, yv4, yn⟩ := Q7
        obtain ⟨ys0, yk0, rfl⟩ : ∃ a c, yv0 = .slice a yd.length c := o7.1.shape
        obtain ⟨ys1, yk1, rfl⟩ : ∃ a c, yv1 = .slice a yb.length c := o7.2.1.shape
        obtain ⟨ys2, yk2, rfl⟩ : ∃ a c, yv2 = .slice a yt.length c := o7.2.2.1.shape
        obtain ⟨ys3, yk3, rfl⟩ : ∃ a c, yv3 = .slice a yu.length c := o7.2.2.2.1.shape
        obtain ⟨ys4, yk4, rfl⟩ : ∃ a c, yv4 = .slice a yn.length c := o7.2.2.2.2.shape
        clear hb9
        refine ⟨_, rfl, ⟨⟨_, hW⟩, rfl⟩, ?_⟩
        simp only [Act.put, List.setIfInBounds_toArray, List.set_cons_zero, List.set_cons_succ]
        refine quiet_at 73 (some 109) (.agg #[.slice ys0 yd.length yk0, .slice ys1 yb.length yk1, .slice ys2 yt.length yk2, .slice ys3 yu.length yk3, .slice ys4 yn.length yk4]) 3 (by kernel_rfl) (by kernel_rfl) (by kernel_rfl) (by kernel_rfl) (by kernel_rfl) (fun u _ => by kernel_rfl) ⟨⟨_, hW⟩, rfl⟩ ?_
        simp only [Act.put, List.setIfInBounds_toArray, List.set_cons_zero, List.set_cons_succ]
        refine call_at 74 (some 110) 38 #[.agg #[.slice ds0 dd.length dk0, .slice ds1 db.length dk1, .slice ds2 dt.length dk2, .slice ds3 du.length dk3, .slice ds4 dn.length dk4], .agg #[.slice ys0 yd.length yk0, .slice ys1 yb.length yk1, .slice ys2 yt.length yk2, .slice ys3 yu.length yk3, .slice ys4 yn.length yk4]] 2 (by kernel_rfl) (by kernel_rfl) (by kernel_rfl) (by kernel_rfl) (by kernel_rfl) ?_
        refine (iSR (⟨.slice ds0 dd.length dk0, dd, .slice ds1 db.length dk1, db, .slice ds2 dt.length dk2, dt, .slice ds3 du.length dk3, du, .slice ds4 dn.length dk4, dn⟩ : RepQ) (⟨.slice ys0 yd.length yk0, yd, .slice ys1 yb.length yk1, yb, .slice ys2 yt.length yk2, yt, .slice ys3 yu.length yk3, yu, .slice ys4 yn.length yk4, yn⟩ : RepQ) _ (repB oD hW) o7 (HED.out.trans e7.symm) hlD (rep_n9 (HED.out.trans e7.symm) hlD)).mono ?_
        rintro e w9 ⟨rfl, hb9⟩
        replace hW := hW.trans (hb9.mono hW.size)
        clear o7 e7
        clear hb9
        refine ⟨_, rfl, ⟨⟨_, hW⟩, rfl⟩, ?_⟩
        simp only [Act.put, List.setIfInBounds_toArray, List.set_cons_zero, List.set_cons_succ]
        refine seg_range [(75, 2)] 0 (by kernel_rfl) (by kernel_rfl) (by kernel_rfl) (by kernel_rfl) (by kernel_rfl) ⟨⟨_, hW⟩, rfl⟩ ?_
        simp only [pickR, List.toList_toArray, List.flatMap_cons, List.flatMap_nil, List.drop_succ_cons, List.drop_zero, List.take_succ_cons, List.take_zero, List.cons_append, List.nil_append, List.append_nil]
        repeat go_big_quiet_step (fail)
        refine wpQuiet_nil ?_
        refine text_end (by kernel_rfl) ?_
        replace b0 := b0.trans (hW.mono b0.size)
        go_wp2
        go_ret
        exact ⟨rfl, b0⟩
      · have e87 : decide (DA > 0) = false := decide_eq_false hB
        have e92 : decide ((qg.length : Int) > 0) = false := decide_eq_false (by omega)
        have hdn : dn = rn := HGN.out (List.length_eq_zero_iff.1 (by omega))
        have hSN := fun w h h' => iSI (.slice ds4 dn.length dk4) (.slice rs4 rn.length rk4) dn rn w h h' (by omega) (by omega)
        rw [show sameIs dn rn = true by rw [hdn]; exact sameIs_refl rn] at hSN
        clear HGN hdn
        have hW : Below X6.heap.size X6 X6.drew := (Below.refl _ _).drew
        have hnn : Nonempty (Lat X6) := ⟨⟨X6, Below.refl _ _⟩⟩
        refine text_begin (S := fun w' => ∃ u : Lat X6, w' = u.val) (by kernel_rfl) ?_
        refine seg_range [(0, 2)] 75 (by kernel_rfl) (by kernel_rfl) (by kernel_rfl) (by kernel_rfl) (by kernel_rfl) ⟨⟨_, hW⟩, rfl⟩ ?_
        simp only [pickR, List.toList_toArray, List.flatMap_cons, List.flatMap_nil, List.drop_succ_cons, List.drop_zero, List.take_succ_cons, List.take_zero, List.cons_append, List.nil_append, List.append_nil]
        repeat go_big_quiet_step (fail)
        refine wpQuiet_nil ?_
        refine call_at 2 (some 38) 33 #[.agg #[.slice ds0 dd.length dk0, .slice ds1 db.length dk1, .slice ds2 dt.length dk2, .slice ds3 du.length dk3, .slice ds4 dn.length dk4]] 74 (by kernel_rfl) (by kernel_rfl) (by kernel_rfl) (by kernel_rfl) (by kernel_rfl) ?_
        refine (hRO _ (hg.below hW) (repB oD hW)).mono ?_
        rintro e w9 ⟨rfl, hb9⟩
        replace hW := hW.trans (hb9.mono hW.size)
        clear hb9
        refine ⟨_, rfl, ⟨⟨_, hW⟩, rfl⟩, ?_⟩
        simp only [Act.put, List.setIfInBounds_toArray, List.set_cons_zero, List.set_cons_succ]
        refine seg_range [(3, 7)] 67 (by kernel_rfl) (by kernel_rfl) (by kernel_rfl) (by kernel_rfl) (by kernel_rfl) ⟨⟨_, hW⟩, rfl⟩ ?_
        simp only [pickR, List.toList_toArray, List.flatMap_cons, List.flatMap_nil, List.drop_succ_cons, List.drop_zero, List.take_succ_cons, List.take_zero, List.cons_append, List.nil_append, List.append_nil]
        repeat go_big_quiet_step (fail)
        refine wpQuiet_nil ?_
        refine call_at 10 (some 46) 34 #[.slice ds1 db.length dk1, .slice a3 db.length c3] 66 (by kernel_rfl) (by kernel_rfl) (by kernel_rfl) (by kernel_rfl) (by kernel_rfl) ?_
        refine (hSB _ (repB oD hW).2.1 (oE.below hW)).mono ?_
        rintro e w9 ⟨rfl, hb9⟩
        replace hW := hW.trans (hb9.mono hW.size)
        clear hb9
        refine ⟨_, rfl, ⟨⟨_, hW⟩, rfl⟩, ?_⟩
        simp only [Act.put, List.setIfInBounds_toArray, List.set_cons_zero, List.set_cons_succ]
        refine seg_range [(11, 7)] 59 (by kernel_rfl) (by kernel_rfl) (by kernel_rfl) (by kernel_rfl) (by kernel_rfl) ⟨⟨_, hW⟩, rfl⟩ ?_
        simp only [pickR, List.toList_toArray, List.flatMap_cons, List.flatMap_nil, List.drop_succ_cons, List.drop_zero, List.take_succ_cons, List.take_zero, List.cons_append, List.nil_append, List.append_nil]
        repeat go_big_quiet_step (fail)
        refine wpQuiet_nil ?_
        refine call_at 18 (some 54) 42 #[.slice ds2 dt.length dk2, .slice ka qk.length kk] 58 (by kernel_rfl) (by kernel_rfl) (by kernel_rfl) (by kernel_rfl) (by kernel_rfl) ?_
        refine (hST _ (repB oD hW).2.2.1 (oK.below hW)).mono ?_
        rintro e w9 ⟨rfl, hb9⟩
        replace hW := hW.trans (hb9.mono hW.size)
        clear hb9
        refine ⟨_, rfl, ⟨⟨_, hW⟩, rfl⟩, ?_⟩
        simp only [Act.put, List.setIfInBounds_toArray, List.set_cons_zero, List.set_cons_succ]
        refine seg_range [(19, 7)] 51 (by kernel_rfl) (by kernel_rfl) (by kernel_rfl) (by kernel_rfl) (by kernel_rfl) ⟨⟨_, hW⟩, rfl⟩ ?_
        simp only [pickR, List.toList_toArray, List.flatMap_cons, List.flatMap_nil, List.drop_succ_cons, List.drop_zero, List.take_succ_cons, List.take_zero, List.cons_append, List.nil_append, List.append_nil]
        repeat go_big_quiet_step (fail)
        refine wpQuiet_nil ?_
        refine call_at 26 (some 62) 43 #[.slice rs0 rd.length rk0, .slice ds0 dd.length dk0] 50 (by kernel_rfl) (by kernel_rfl) (by kernel_rfl) (by kernel_rfl) (by kernel_rfl) ?_
        refine (hPX _ (repB oR hW).1 (repB oD hW).1).mono ?_
        rintro e w9 ⟨rfl, hb9⟩
        replace hW := hW.trans (hb9.mono hW.size)
        clear hb9
        refine ⟨_, rfl, ⟨⟨_, hW⟩, rfl⟩, ?_⟩
        simp only [Act.put, List.setIfInBounds_toArray, List.set_cons_zero, List.set_cons_succ]
        refine seg_range [(27, 5), (33, 2), (36, 1)] 42 (by kernel_rfl) (by kernel_rfl) (by kernel_rfl) (by kernel_rfl) (by kernel_rfl) ⟨⟨_, hW⟩, rfl⟩ ?_
        simp only [pickR, List.toList_toArray, List.flatMap_cons, List.flatMap_nil, List.drop_succ_cons, List.drop_zero, List.take_succ_cons, List.take_zero, List.cons_append, List.nil_append, List.append_nil]
        repeat go_big_quiet_step (fail)
        refine wpQuiet_nil ?_
        refine quiet_at 32 (some 68) (.int .i64 dd.length) 41 (by kernel_rfl) (by kernel_rfl) (by kernel_rfl) (by kernel_rfl) (by kernel_rfl) (fun u _ => by kernel_rfl) ⟨⟨_, hW⟩, rfl⟩ ?_
        simp only [Act.put, List.setIfInBounds_toArray, List.set_cons_zero, List.set_cons_succ]
        refine quiet_at 35 (some 71) (.int .i64 rd.length) 40 (by kernel_rfl) (by kernel_rfl) (by kernel_rfl) (by kernel_rfl) (by kernel_rfl) (fun u _ => by kernel_rfl) ⟨⟨_, hW⟩, rfl⟩ ?_
        simp only [Act.put, List.setIfInBounds_toArray, List.set_cons_zero, List.set_cons_succ]
        refine quiet_at 37 (some 73) (.int .i64 fs.length) 39 (by kernel_rfl) (by kernel_rfl) (by kernel_rfl) (by kernel_rfl) (by kernel_rfl) (fun u _ => by kernel_rfl) ⟨⟨_, hW⟩, rfl⟩ ?_
        simp only [Act.put, List.setIfInBounds_toArray, List.set_cons_zero, List.set_cons_succ]
        refine seg_range [(38, 17)] 22 (by kernel_rfl) (by kernel_rfl) (by kernel_rfl) (by kernel_rfl) (by kernel_rfl) ⟨⟨_, hW⟩, rfl⟩ ?_
        simp only [pickR, List.toList_toArray, List.flatMap_cons, List.flatMap_nil, List.drop_succ_cons, List.drop_zero, List.take_succ_cons, List.take_zero, List.cons_append, List.nil_append, List.append_nil]
        repeat go_big_quiet_step (fail)
        refine wpQuiet_nil ?_
        refine quiet_at 55 (some 91) (.int .i64 qg.length) 21 (by kernel_rfl) (by kernel_rfl) (by kernel_rfl) (by kernel_rfl) (by kernel_rfl) (fun u _ => by kernel_rfl) ⟨⟨_, hW⟩, rfl⟩ ?_
        simp only [Act.put, List.setIfInBounds_toArray, List.set_cons_zero, List.set_cons_succ]
        refine seg_range [(56, 8)] 13 (by kernel_rfl) (by kernel_rfl) (by kernel_rfl) (by kernel_rfl) (by kernel_rfl) ⟨⟨_, hW⟩, rfl⟩ ?_
        simp only [pickR, List.toList_toArray, List.flatMap_cons, List.flatMap_nil, List.drop_succ_cons, List.drop_zero, List.take_succ_cons, List.take_zero, List.cons_append, List.nil_append, List.append_nil]
        repeat go_big_quiet_step (fail)
        refine wpQuiet_nil ?_
        refine call_at 64 (some 100) 34 #[.slice ds4 dn.length dk4, .slice rs4 rn.length rk4] 12 (by kernel_rfl) (by kernel_rfl) (by kernel_rfl) (by kernel_rfl) (by kernel_rfl) ?_
        refine (hSN _ (repB oD hW).2.2.2.2 (repB oR hW).2.2.2.2).mono ?_
        rintro e w9 ⟨rfl, hb9⟩
        replace hW := hW.trans (hb9.mono hW.size)
        clear hb9
        refine ⟨_, rfl, ⟨⟨_, hW⟩, rfl⟩, ?_⟩
        simp only [Act.put, List.setIfInBounds_toArray, List.set_cons_zero, List.set_cons_succ]
        refine seg_range [(65, 7)] 5 (by kernel_rfl) (by kernel_rfl) (by kernel_rfl) (by kernel_rfl) (by kernel_rfl) ⟨⟨_, hW⟩, rfl⟩ ?_
        simp only [pickR, List.toList_toArray, List.flatMap_cons, List.flatMap_nil, List.drop_succ_cons, List.drop_zero, List.take_succ_cons, List.take_zero, List.cons_append, List.nil_append, List.append_nil]
        repeat go_big_quiet_step (fail)
        refine wpQuiet_nil ?_
        refine call_at 72 (some 108) 25 #[.agg #[.slice rs0 rd.length rk0, .slice rs1 rb.length rk1, .slice rs2 rt.length rk2, .slice rs3 ru.length rk3, .slice rs4 rn.length rk4], .slice fa fs.length fk] 4 (by kernel_rfl) (by kernel_rfl) (by kernel_rfl) (by kernel_rfl) (by kernel_rfl) ?_
        refine (hSD _ (repB oR hW) (oF.below hW)).mono ?_
        rintro e w9 ⟨Q7, rfl, e7, o7, _, _, hb9⟩
        replace hW := hW.trans (hb9.mono hW.size)
        obtain ⟨yv0, yd, yv1, yb, yv2, yt, yv3, yu, yv4, yn⟩ := Q7
        obtain ⟨ys0, yk0, rfl⟩ : ∃ a c, yv0 = .slice a yd.length c := o7.1.shape
        obtain ⟨ys1, yk1, rfl⟩ : ∃ a c, yv1 = .slice a yb.length c := o7.2.1.shape
        obtain ⟨ys2, yk2, rfl⟩ : ∃ a c, yv2 = .slice a yt.length c := o7.2.2.1.shape
        obtain ⟨ys3, yk3, rfl⟩ : ∃ a c, yv3 = .slice a yu.length c := o7.2.2.2.1.shape
        obtain ⟨ys4, yk4, rfl⟩ : ∃ a c, yv4 = .slice a yn.length c := o7.2.2.2.2.shape
        clear hb9
        refine ⟨_, rfl, ⟨⟨_, hW⟩, rfl⟩, ?_⟩
        simp only [Act.put, List.setIfInBounds_toArray, List.set_cons_zero, List.set_cons_succ]
        refine quiet_at 73 (some 109) (.agg #[.slice ys0 yd.length yk0, .slice ys1 yb.length yk1, .slice ys2 yt.length yk2, .slice ys3 yu.length yk3, .slice ys4 yn.length yk4]) 3 (by kernel_rfl) (by kernel_rfl) (by kernel_rfl) (by kernel_rfl) (by kernel_rfl) (fun u _ => by kernel_rfl) ⟨⟨_, hW⟩, rfl⟩ ?_
        simp only [Act.put, List.setIfInBounds_toArray, List.set_cons_zero, List.set_cons_succ]
        refine call_at 74 (some 110) 38 #[.agg #[.slice ds0 dd.length dk0, .slice ds1 db.length dk1, .slice ds2 dt.length dk2, .slice ds3 du.length dk3, .slice ds4 dn.length dk4], .agg #[.slice ys0 yd.length yk0, .slice ys1 yb.length yk1, .slice ys2 yt.length yk2, .slice ys3 yu.length yk3, .slice ys4 yn.length yk4]] 2 (by kernel_rfl) (by kernel_rfl) (by kernel_rfl) (by kernel_rfl) (by kernel_rfl) ?_
        refine (iSR (⟨.slice ds0 dd.length dk0, dd, .slice ds1 db.length dk1, db, .slice ds2 dt.length dk2, dt, .slice ds3 du.length dk3, du, .slice ds4 dn.length dk4, dn⟩ : RepQ) (⟨.slice ys0 yd.length yk0, yd, .slice ys1 yb.length yk1, yb, .slice ys2 yt.length yk2, yt, .slice ys3 yu.length yk3, yu, .slice ys4 yn.length yk4, yn⟩ : RepQ) _ (repB oD hW) o7 (HED.out.trans e7.symm) hlD (rep_n9 (HED.out.trans e7.symm) hlD)).mono ?_
        rintro e w9 ⟨rfl, hb9⟩
        replace hW := hW.trans (hb9.mono hW.size)
        clear o7 e7
        clear hb9
        refine ⟨_, rfl, ⟨⟨_, hW⟩, rfl⟩, ?_⟩
        simp only [Act.put, List.setIfInBounds_toArray, List.set_cons_zero, List.set_cons_succ]
        refine seg_range [(75, 2)] 0 (by kernel_rfl) (by kernel_rfl) (by kernel_rfl) (by kernel_rfl) (by kernel_rfl) ⟨⟨_, hW⟩, rfl⟩ ?_
        simp only [pickR, List.toList_toArray, List.flatMap_cons, List.flatMap_nil, List.drop_succ_cons, List.drop_zero, List.take_succ_cons, List.take_zero, List.cons_append, List.nil_append, List.append_nil]
        repeat go_big_quiet_step (fail)
        refine wpQuiet_nil ?_
        refine text_end (by kernel_rfl) ?_
        replace b0 := b0.trans (hW.mono b0.size)
        go_wp2
        go_ret
        exact ⟨rfl, b0⟩
  · have hD' : (DC != 0) = true := by simpa using hD
    have e1 : (DC == DC) = true := by simp
    clear HPL eD
    have c0 := BD.cell 0 _ rfl
    go_wp2_with fail
    generalize w3.alloc (.cells #[.int .i64 DC, .int .i64 DA, .int .i64 0, .slice ds0 dd.length dk0, .slice ds1 db.length dk1, .slice ds2 dt.length dk2, .slice ds3 du.length dk3, .slice ds4 dn.length dk4] 34) = X at *
    clear c0
    have l0 := BD.lat 0 _ rfl
    have l1 := BD.lat 1 _ rfl
    have l2 := BD.lat 2 _ rfl
    have l3 := BD.lat 3 _ rfl
    have l4 := BD.lat 4 _ rfl
    have l5 := BD.lat 5 _ rfl
    have l6 := BD.lat 6 _ rfl
    have l7 := BD.lat 7 _ rfl
    have m0 := BR.lat 0 _ rfl
    have m1 := BR.lat 1 _ rfl
    have m2 := BR.lat 2 _ rfl
    have m3 := BR.lat 3 _ rfl
    have m4 := BR.lat 4 _ rfl
    have hW : Below X.heap.size X X.drew := (Below.refl _ _).drew
    have hnn : Nonempty (Lat X) := ⟨⟨X, Below.refl _ _⟩⟩
    refine text_begin (S := fun w' => ∃ u : Lat X, w' = u.val) (by kernel_rfl) ?_
    refine seg_range [(0, 2), (4, 2)] 4 (by kernel_rfl) (by kernel_rfl) (by kernel_rfl) (by kernel_rfl) (by kernel_rfl) ⟨⟨_, hW⟩, rfl⟩ ?_
    simp only [pickR, List.toList_toArray, List.flatMap_cons, List.flatMap_nil, List.drop_succ_cons, List.drop_zero, List.take_succ_cons, List.take_zero, List.cons_append, List.nil_append, List.append_nil]
    repeat go_big_quiet_step (fail)
    refine wpQuiet_nil ?_
    refine call_at 2 (some 23) 25 #[.agg #[.slice rs0 rd.length rk0, .slice rs1 rb.length rk1, .slice rs2 rt.length rk2, .slice rs3 ru.length rk3, .slice rs4 rn.length rk4], .slice fa fs.length fk] 3 (by kernel_rfl) (by kernel_rfl) (by kernel_rfl) (by kernel_rfl) (by kernel_rfl) ?_
    refine (hSD _ (repB oR hW) (oF.below hW)).mono ?_
    rintro e w9 ⟨Q7, rfl, e7, o7, _, _, hb9⟩
    replace hW := hW.trans (hb9.mono hW.size)
    obtain ⟨yv0, yd, yv1, yb, yv2, yt, yv3, yu, yv4, yn⟩ := Q7
    obtain ⟨ys0, yk0, rfl⟩ : ∃ a c, yv0 = .slice a yd.length c := o7.1.shape
    obtain ⟨ys1, yk1, rfl⟩ : ∃ a c, yv1 = .slice a yb.length c := o7.2.1.shape
    obtain ⟨ys2, yk2, rfl⟩ : ∃ a c, yv2 = .slice a yt.length c := o7.2.2.1.shape
    obtain ⟨ys3, yk3, rfl⟩ : ∃ a c, yv3 = .slice a yu.length c := o7.2.2.2.1.shape
    obtain ⟨ys4, yk4, rfl⟩ : ∃ a c, yv4 = .slice a yn.length c := o7.2.2.2.2.shape
    clear o7 e7
    clear hb9
    refine ⟨_, rfl, ⟨⟨_, hW⟩, rfl⟩, ?_⟩
    simp only [Act.put, List.setIfInBounds_toArray, List.set_cons_zero, List.set_cons_succ]
    refine quiet_at 3 (some 24) (.int .i64 DC) 2 (by kernel_rfl) (by kernel_rfl) (by kernel_rfl) (by kernel_rfl) (by kernel_rfl) (fun u _ => by kernel_rfl) ⟨⟨_, hW⟩, rfl⟩ ?_
    simp only [Act.put, List.setIfInBounds_toArray, List.set_cons_zero, List.set_cons_succ]
    refine seg_range [(6, 2)] 0 (by kernel_rfl) (by kernel_rfl) (by kernel_rfl) (by kernel_rfl) (by kernel_rfl) ⟨⟨_, hW⟩, rfl⟩ ?_
    simp only [pickR, List.toList_toArray, List.flatMap_cons, List.flatMap_nil, List.drop_succ_cons, List.drop_zero, List.take_succ_cons, List.take_zero, List.cons_append, List.nil_append, List.append_nil]
    repeat go_big_quiet_step (fail)
    refine wpQuiet_nil ?_
    refine text_end (by kernel_rfl) ?_
    replace b0 := b0.trans (hW.mono b0.size)
    go_wp2
    go_ret
    exact ⟨rfl, b0⟩

end Go.Proofs.YtfdkcbafpiojkaaGreatDoor
