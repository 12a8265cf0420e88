/- The law FnReplies, walked: at every list of bytes it answers true, and it writes into nothing that was there. The condition: errors.errorType starts as the program's text lays it. -/
import Derived.Test.YtfdkcbafpiojkaaGreatDoorSGBB
import Derived.Test.YtfdkcbafpiojkaaGreatDoorSGBW
namespace Go.Proofs.YtfdkcbafpiojkaaGreatDoor
open Go.RowKit
open Go.BigFrame
set_option linter.unusedVariables false
set_option maxRecDepth 100000
set_option linter.unusedSimpArgs false

theorem eqRR_g (x y : Operand) (xs ys : Array Value) (w : World) : (eqGuard .neq 83 x y (.agg xs) (.agg ys)).run Tryz.prog w = .ok () w := run_eqGuard_agg w .neq 83 x y xs ys (by kernel_rfl)
theorem neqRR_bin (c a v : Int) (w : World) : (binOp .neq 83 (.agg #[.int .i64 c, .int .i64 a, .int .i64 v]) (.agg #[.int .i64 c, .int .i64 a, .int .i64 v])).run Tryz.prog w = .ok (.bool false) w := by
  rw [run_neq_struct, run_equalIn_struct (P := Tryz.prog) w 9999 83 _ _ (by kernel_rfl) (by kernel_rfl)]
  have c1 : Tryz.prog.cellsOf 2 = 1 := by kernel_rfl
  simp [Program.fieldsOf, Tryz.underlying83, Op.eqFields, go_sem, Tryz.underlying2, c1]
theorem neqRR_run (x y : Operand) (c a v : Int) (w : World) : (eqGuard .neq 83 x y (.agg #[.int .i64 c, .int .i64 a, .int .i64 v]) (.agg #[.int .i64 c, .int .i64 a, .int .i64 v]) >>= fun _ => binOp .neq 83 (.agg #[.int .i64 c, .int .i64 a, .int .i64 v]) (.agg #[.int .i64 c, .int .i64 a, .int .i64 v])).run Tryz.prog w = .ok (.bool false) w := by
  rw [Sem.run_bind, eqRR_g x y _ _ w]
  exact neqRR_bin c a v w
theorem sz_rr3 : (Tryz.prog.info? 83).map (·.size) = some 3 := by kernel_rfl
theorem cellB9 {w w' : World} {b o : Nat} {v : Value} (h : w.cell? ⟨b, o, none⟩ = some v) (hb : Below w.heap.size w w') : w'.cell? ⟨b, o, none⟩ = some v := (hb.cell (p := ⟨b, o, none⟩) (World.block_lt_of_cell? w ⟨b, o, none⟩ h)).trans h

set_option maxRecDepth 100000 in
set_option maxHeartbeats 16000000 in
theorem repliesFn (a : Option Addr) (cap : Nat) (zs : List Int) (w : World) (hg : ErrT w) (h : Row .u8 w a zs) (hu : ∀ i, 0 ≤ zs.getD i 0 ∧ zs.getD i 0 ≤ 255) (hm : zs.length ≤ 9223372036854775807) :
    Calls Tryz.prog 8 #[.slice a zs.length cap] w fun e w' => e = .returned (.bool true) ∧ Below w.heap.size w w' := by
  by_cases hle : zs.length ≤ 1048576
  case neg =>
    have hd : decide (1048576 < (zs.length : Int)) = true := decide_eq_true (by omega)
    go_enter Tryz.func8, Tryz.ntmps8
    go_wp2_with fail
    refine (lwBig_any a zs.length cap w hm).mono ?_
    rintro e w1 ⟨rfl, hw⟩
    subst hw
    rw [hd]
    go_wp2
    go_ret
    exact ⟨rfl, Below.refl _ _⟩
  have b0 : Below w.heap.size w w := Below.refl _ _
  have hd : decide (1048576 < (zs.length : Int)) = false := decide_eq_false (by omega)
  go_enter Tryz.func8, Tryz.ntmps8
  go_wp2_with fail
  refine (lwBig_any a zs.length cap w hm).mono ?_
  rintro e w1 ⟨rfl, hw⟩
  replace hw := hw.symm
  subst hw
  rw [hd]
  go_wp2_with fail
  refine (drawTentOf_any a cap zs w h hu hle).mono ?_
  rintro e w2 ⟨R, y0, rfl, hnR, oR, hb⟩
  replace hg := hg.below hb
  replace b0 := b0.trans (hb.mono b0.size)
  clear hb
  obtain ⟨rv0, rd, rv1, rb, rv2, rt, rv3, ru, rv4, rn⟩ := R
  obtain ⟨rs0, rk0, rfl⟩ : ∃ a c, rv0 = .slice a rd.length c := oR.1.shape
  obtain ⟨rs1, rk1, rfl⟩ : ∃ a c, rv1 = .slice a rb.length c := oR.2.1.shape
  obtain ⟨rs2, rk2, rfl⟩ : ∃ a c, rv2 = .slice a rt.length c := oR.2.2.1.shape
  obtain ⟨rs3, rk3, rfl⟩ : ∃ a c, rv3 = .slice a ru.length c := oR.2.2.2.1.shape
  obtain ⟨rs4, rk4, rfl⟩ : ∃ a c, rv4 = .slice a rn.length c := oR.2.2.2.2.shape
  have hlR : RepQ.n (⟨.slice rs0 rd.length rk0, rd, .slice rs1 rb.length rk1, rb, .slice rs2 rt.length rk2, rt, .slice rs3 ru.length rk3, ru, .slice rs4 rn.length rk4, rn⟩ : RepQ) ≤ 1048576 := by omega
  have BR := Blk.new w2 32 #[.slice rs0 rd.length rk0, .slice rs1 rb.length rk1, .slice rs2 rt.length rk2, .slice rs3 ru.length rk3, .slice rs4 rn.length rk4]
  have hb : Below w2.heap.size w2 (w2.alloc (.cells #[.slice rs0 rd.length rk0, .slice rs1 rb.length rk1, .slice rs2 rt.length rk2, .slice rs3 ru.length rk3, .slice rs4 rn.length rk4] 32)) := by go_grown
  replace oR := repB oR hb
  replace hg := hg.below hb
  replace b0 := b0.trans (hb.mono b0.size)
  clear hb
  have p0 := BR.cell 0 _ rfl
  have p1 := BR.cell 1 _ rfl
  have p2 := BR.cell 2 _ rfl
  have p3 := BR.cell 3 _ rfl
  have p4 := BR.cell 4 _ rfl
  go_wp2_with fail
  clear p0 p1 p2 p3 p4
  generalize w2.alloc (.cells #[.slice rs0 rd.length rk0, .slice rs1 rb.length rk1, .slice rs2 rt.length rk2, .slice rs3 ru.length rk3, .slice rs4 rn.length rk4] 32) = X1 at *
  have hTT := fun w hg h => iTO (⟨.slice rs0 rd.length rk0, rd, .slice rs1 rb.length rk1, rb, .slice rs2 rt.length rk2, rt, .slice rs3 ru.length rk3, ru, .slice rs4 rn.length rk4, rn⟩ : RepQ) y0 w hg h hlR
  have hST := fun w h => specTentOf_any (⟨.slice rs0 rd.length rk0, rd, .slice rs1 rb.length rk1, rb, .slice rs2 rt.length rk2, rt, .slice rs3 ru.length rk3, ru, .slice rs4 rn.length rk4, rn⟩ : RepQ) y0 w h hlR
  dsimp only at hTT hST
  generalize (tenR (RepQ.e (⟨.slice rs0 rd.length rk0, rd, .slice rs1 rb.length rk1, rb, .slice rs2 rt.length rk2, rt, .slice rs3 ru.length rk3, ru, .slice rs4 rn.length rk4, rn⟩ : RepQ)) y0).1 = t0 at *
  generalize (tenR (RepQ.e (⟨.slice rs0 rd.length rk0, rd, .slice rs1 rb.length rk1, rb, .slice rs2 rt.length rk2, rt, .slice rs3 ru.length rk3, ru, .slice rs4 rn.length rk4, rn⟩ : RepQ)) y0).2.1 = t1 at *
  generalize (tenR (RepQ.e (⟨.slice rs0 rd.length rk0, rd, .slice rs1 rb.length rk1, rb, .slice rs2 rt.length rk2, rt, .slice rs3 ru.length rk3, ru, .slice rs4 rn.length rk4, rn⟩ : RepQ)) y0).2.2 = t2 at *
  refine (hTT X1 hg oR).mono ?_
  rintro e w3 ⟨rfl, hb⟩
  clear hTT
  replace oR := repB oR hb
  replace BR := BR.below hb
  replace hg := hg.below hb
  replace b0 := b0.trans (hb.mono b0.size)
  clear hb
  have BT := Blk.new w3 83 #[.int .i64 t0, .int .i64 t1, .int .i64 t2]
  have hb : Below w3.heap.size w3 (w3.alloc (.cells #[.int .i64 t0, .int .i64 t1, .int .i64 t2] 83)) := by go_grown
  replace oR := repB oR hb
  replace BR := BR.below hb
  replace hg := hg.below hb
  replace b0 := b0.trans (hb.mono b0.size)
  clear hb
  go_wp2_with fail
  generalize w3.alloc (.cells #[.int .i64 t0, .int .i64 t1, .int .i64 t2] 83) = X2 at *
  refine (drawFinalOf_any a cap zs X2 (h.below b0) hu hle).mono ?_
  rintro e w4 ⟨XX, y1, y2, rfl, hnX, oX, hb⟩
  replace oR := repB oR hb
  replace BR := BR.below hb
  replace BT := BT.below hb
  replace hg := hg.below hb
  replace b0 := b0.trans (hb.mono b0.size)
  clear hb
  obtain ⟨xv0, xd, xv1, xb, xv2, xt, xv3, xu, xv4, xn⟩ := XX
  obtain ⟨xs0, xk0, rfl⟩ : ∃ a c, xv0 = .slice a xd.length c := oX.1.shape
  obtain ⟨xs1, xk1, rfl⟩ : ∃ a c, xv1 = .slice a xb.length c := oX.2.1.shape
  obtain ⟨xs2, xk2, rfl⟩ : ∃ a c, xv2 = .slice a xt.length c := oX.2.2.1.shape
  obtain ⟨xs3, xk3, rfl⟩ : ∃ a c, xv3 = .slice a xu.length c := oX.2.2.2.1.shape
  obtain ⟨xs4, xk4, rfl⟩ : ∃ a c, xv4 = .slice a xn.length c := oX.2.2.2.2.shape
  have hlX : RepQ.n (⟨.slice xs0 xd.length xk0, xd, .slice xs1 xb.length xk1, xb, .slice xs2 xt.length xk2, xt, .slice xs3 xu.length xk3, xu, .slice xs4 xn.length xk4, xn⟩ : RepQ) ≤ 1048576 := by omega
  clear h hu hle hd hm
  have BX := Blk.new w4 32 #[.slice xs0 xd.length xk0, .slice xs1 xb.length xk1, .slice xs2 xt.length xk2, .slice xs3 xu.length xk3, .slice xs4 xn.length xk4]
  have hb : Below w4.heap.size w4 (w4.alloc (.cells #[.slice xs0 xd.length xk0, .slice xs1 xb.length xk1, .slice xs2 xt.length xk2, .slice xs3 xu.length xk3, .slice xs4 xn.length xk4] 32)) := by go_grown
  replace oR := repB oR hb
  replace oX := repB oX hb
  replace BR := BR.below hb
  replace BT := BT.below hb
  replace hg := hg.below hb
  replace b0 := b0.trans (hb.mono b0.size)
  clear hb
  have p0 := BX.cell 0 _ rfl
  have p1 := BX.cell 1 _ rfl
  have p2 := BX.cell 2 _ rfl
  have p3 := BX.cell 3 _ rfl
  have p4 := BX.cell 4 _ rfl
  go_wp2_with fail
  clear p0 p1 p2 p3 p4
  generalize w4.alloc (.cells #[.slice xs0 xd.length xk0, .slice xs1 xb.length xk1, .slice xs2 xt.length xk2, .slice xs3 xu.length xk3, .slice xs4 xn.length xk4] 32) = X3 at *
  have hFF := fun w hg h => iFO (⟨.slice xs0 xd.length xk0, xd, .slice xs1 xb.length xk1, xb, .slice xs2 xt.length xk2, xt, .slice xs3 xu.length xk3, xu, .slice xs4 xn.length xk4, xn⟩ : RepQ) y1 y2 w hg h hlX
  have hSF := fun w h => specFinalOf_any (⟨.slice xs0 xd.length xk0, xd, .slice xs1 xb.length xk1, xb, .slice xs2 xt.length xk2, xt, .slice xs3 xu.length xk3, xu, .slice xs4 xn.length xk4, xn⟩ : RepQ) y1 y2 w h hlX
  dsimp only at hFF hSF
  generalize (finR (RepQ.e (⟨.slice xs0 xd.length xk0, xd, .slice xs1 xb.length xk1, xb, .slice xs2 xt.length xk2, xt, .slice xs3 xu.length xk3, xu, .slice xs4 xn.length xk4, xn⟩ : RepQ)) y1 y2).1 = f0 at *
  generalize (finR (RepQ.e (⟨.slice xs0 xd.length xk0, xd, .slice xs1 xb.length xk1, xb, .slice xs2 xt.length xk2, xt, .slice xs3 xu.length xk3, xu, .slice xs4 xn.length xk4, xn⟩ : RepQ)) y1 y2).2.1 = f1 at *
  generalize (finR (RepQ.e (⟨.slice xs0 xd.length xk0, xd, .slice xs1 xb.length xk1, xb, .slice xs2 xt.length xk2, xt, .slice xs3 xu.length xk3, xu, .slice xs4 xn.length xk4, xn⟩ : RepQ)) y1 y2).2.2 = f2 at *
  refine (hFF X3 hg oX).mono ?_
  rintro e w5 ⟨rfl, hb⟩
  clear hFF
  replace oR := repB oR hb
  replace oX := repB oX hb
  replace BR := BR.below hb
  replace BT := BT.below hb
  replace BX := BX.below hb
  replace hg := hg.below hb
  replace b0 := b0.trans (hb.mono b0.size)
  clear hb
  have BF := Blk.new w5 83 #[.int .i64 f0, .int .i64 f1, .int .i64 f2]
  have hb : Below w5.heap.size w5 (w5.alloc (.cells #[.int .i64 f0, .int .i64 f1, .int .i64 f2] 83)) := by go_grown
  replace oR := repB oR hb
  replace oX := repB oX hb
  replace BR := BR.below hb
  replace BT := BT.below hb
  replace BX := BX.below hb
  replace hg := hg.below hb
  replace b0 := b0.trans (hb.mono b0.size)
  clear hb
  go_wp2_with fail
  generalize w5.alloc (.cells #[.int .i64 f0, .int .i64 f1, .int .i64 f2] 83) = X at *
  have hnF : ∀ u : Lat X, (eqGuard .neq 83 (.tmp 35) (.tmp 39) (.agg #[.int .i64 f0, .int .i64 f1, .int .i64 f2]) (.agg #[.int .i64 f0, .int .i64 f1, .int .i64 f2]) >>= fun _ => binOp .neq 83 (.agg #[.int .i64 f0, .int .i64 f1, .int .i64 f2]) (.agg #[.int .i64 f0, .int .i64 f1, .int .i64 f2])).run Tryz.prog u.val = .ok (.bool false) u.val := fun u => neqRR_run _ _ f0 f1 f2 u.val
  have hnT : ∀ u : Lat X, (eqGuard .neq 83 (.tmp 42) (.tmp 45) (.agg #[.int .i64 t0, .int .i64 t1, .int .i64 t2]) (.agg #[.int .i64 t0, .int .i64 t1, .int .i64 t2]) >>= fun _ => binOp .neq 83 (.agg #[.int .i64 t0, .int .i64 t1, .int .i64 t2]) (.agg #[.int .i64 t0, .int .i64 t1, .int .i64 t2])).run Tryz.prog u.val = .ok (.bool false) u.val := fun u => neqRR_run _ _ t0 t1 t2 u.val
  have l0 := BX.lat 0 _ rfl
  have l1 := BX.lat 1 _ rfl
  have l2 := BX.lat 2 _ rfl
  have l3 := BX.lat 3 _ rfl
  have l4 := BX.lat 4 _ rfl
  have m0 := BR.lat 0 _ rfl
  have m1 := BR.lat 1 _ rfl
  have m2 := BR.lat 2 _ rfl
  have m3 := BR.lat 3 _ rfl
  have m4 := BR.lat 4 _ rfl
  have n0 := BF.lat 0 _ rfl
  have n1 := BF.lat 1 _ rfl
  have n2 := BF.lat 2 _ rfl
  have o0 := BT.lat 0 _ rfl
  have o1 := BT.lat 1 _ rfl
  have o2 := BT.lat 2 _ rfl
  have hW : Below X.heap.size X X.drew := (Below.refl _ _).drew
  have hnn : Nonempty (Lat X) := ⟨⟨X, Below.refl _ _⟩⟩
  refine text_begin (S := fun w' => ∃ u : Lat X, w' = u.val) (by kernel_rfl) ?_
  refine seg_range [(0, 4)] 9 (by kernel_rfl) (by kernel_rfl) (by kernel_rfl) (by kernel_rfl) (by kernel_rfl) ⟨⟨_, hW⟩, rfl⟩ ?_
  simp only [pickR, List.toList_toArray, List.flatMap_cons, List.flatMap_nil, List.drop_succ_cons, List.drop_zero, List.take_succ_cons, List.take_zero, List.cons_append, List.nil_append, List.append_nil]
  repeat go_big_quiet_step (fail)
  refine wpQuiet_nil ?_
  refine call_at 4 (some 39) 48 #[.agg #[.slice xs0 xd.length xk0, .slice xs1 xb.length xk1, .slice xs2 xt.length xk2, .slice xs3 xu.length xk3, .slice xs4 xn.length xk4], .int .i64 y1, .int .i64 y2] 8 (by kernel_rfl) (by kernel_rfl) (by kernel_rfl) (by kernel_rfl) (by kernel_rfl) ?_
  refine (hSF _ (repB oX hW)).mono ?_
  rintro e w9 ⟨rfl, hb9⟩
  replace hW := hW.trans (hb9.mono hW.size)
  clear hb9
  refine ⟨_, rfl, ⟨⟨_, hW⟩, rfl⟩, ?_⟩
  simp only [Act.put, List.setIfInBounds_toArray, List.set_cons_zero, List.set_cons_succ]
  refine quiet_at 5 (some 40) (.bool false) 7 (by kernel_rfl) (by kernel_rfl) (by kernel_rfl) (by kernel_rfl) (by kernel_rfl) (fun u hu => ?_) ⟨⟨_, hW⟩, rfl⟩ ?_
  · obtain ⟨u, rfl⟩ := hu
    show some (((eqGuard .neq 83 (.tmp 35) (.tmp 39) (.agg #[.int .i64 f0, .int .i64 f1, .int .i64 f2]) (.agg #[.int .i64 f0, .int .i64 f1, .int .i64 f2]) >>= fun _ => binOp .neq 83 (.agg #[.int .i64 f0, .int .i64 f1, .int .i64 f2]) (.agg #[.int .i64 f0, .int .i64 f1, .int .i64 f2])) >>= fun x => pure (Next.value x) : Sem Next).run Tryz.prog u.val) = _
    rw [Sem.run_bind, hnF u]
    rfl
  simp only [Act.put, List.setIfInBounds_toArray, List.set_cons_zero, List.set_cons_succ]
  refine seg_range [(6, 4)] 3 (by kernel_rfl) (by kernel_rfl) (by kernel_rfl) (by kernel_rfl) (by kernel_rfl) ⟨⟨_, hW⟩, rfl⟩ ?_
  simp only [pickR, List.toList_toArray, List.flatMap_cons, List.flatMap_nil, List.drop_succ_cons, List.drop_zero, List.take_succ_cons, List.take_zero, List.cons_append, List.nil_append, List.append_nil]
  repeat go_big_quiet_step (fail)
  refine wpQuiet_nil ?_
  refine call_at 10 (some 45) 49 #[.agg #[.slice rs0 rd.length rk0, .slice rs1 rb.length rk1, .slice rs2 rt.length rk2, .slice rs3 ru.length rk3, .slice rs4 rn.length rk4], .int .i64 y0] 2 (by kernel_rfl) (by kernel_rfl) (by kernel_rfl) (by kernel_rfl) (by kernel_rfl) ?_
  refine (hST _ (repB oR hW)).mono ?_
  rintro e w9 ⟨rfl, hb9⟩
  replace hW := hW.trans (hb9.mono hW.size)
  clear hb9
  refine ⟨_, rfl, ⟨⟨_, hW⟩, rfl⟩, ?_⟩
  simp only [Act.put, List.setIfInBounds_toArray, List.set_cons_zero, List.set_cons_succ]
  refine quiet_at 11 (some 46) (.bool false) 1 (by kernel_rfl) (by kernel_rfl) (by kernel_rfl) (by kernel_rfl) (by kernel_rfl) (fun u hu => ?_) ⟨⟨_, hW⟩, rfl⟩ ?_
  · obtain ⟨u, rfl⟩ := hu
    show some (((eqGuard .neq 83 (.tmp 42) (.tmp 45) (.agg #[.int .i64 t0, .int .i64 t1, .int .i64 t2]) (.agg #[.int .i64 t0, .int .i64 t1, .int .i64 t2]) >>= fun _ => binOp .neq 83 (.agg #[.int .i64 t0, .int .i64 t1, .int .i64 t2]) (.agg #[.int .i64 t0, .int .i64 t1, .int .i64 t2])) >>= fun x => pure (Next.value x) : Sem Next).run Tryz.prog u.val) = _
    rw [Sem.run_bind, hnT u]
    rfl
  simp only [Act.put, List.setIfInBounds_toArray, List.set_cons_zero, List.set_cons_succ]
  refine seg_range [(12, 1)] 0 (by kernel_rfl) (by kernel_rfl) (by kernel_rfl) (by kernel_rfl) (by kernel_rfl) ⟨⟨_, hW⟩, rfl⟩ ?_
  simp only [pickR, List.toList_toArray, List.flatMap_cons, List.flatMap_nil, List.drop_succ_cons, List.drop_zero, List.take_succ_cons, List.take_zero, List.cons_append, List.nil_append, List.append_nil]
  repeat go_big_quiet_step (fail)
  refine wpQuiet_nil ?_
  refine text_end (by kernel_rfl) ?_
  replace oR := repB oR hW
  replace BR := BR.below hW
  replace hg := hg.below hW
  replace b0 := b0.trans (hW.mono b0.size)
  clear l0 m0 l1 m1 l2 m2 l3 m3 l4 m4 n0 o0 n1 o1 n2 o2 hnn hW hSF hST oX BX BF BT hnF hnT hnX hlX
  rename World => X4
  have hRF := fun w hg h => iRF (⟨.slice rs0 rd.length rk0, rd, .slice rs1 rb.length rk1, rb, .slice rs2 rt.length rk2, rt, .slice rs3 ru.length rk3, ru, .slice rs4 rn.length rk4, rn⟩ : RepQ) w hg h hlR
  have HTL : Hid (repF (RepQ.e (⟨.slice rs0 rd.length rk0, rd, .slice rs1 rb.length rk1, rb, .slice rs2 rt.length rk2, rt, .slice rs3 ru.length rk3, ru, .slice rs4 rn.length rk4, rn⟩ : RepQ)) = 0 → rd.length + rt.length ≤ 16 → _) := fun h0 h1 => (⟨own_del h0 (by simpa [RepQ.e] using h1), own_right h0 (by simpa [RepQ.e] using h1), told_tent h0 (by simpa [RepQ.e] using h1), told_done h0 (by simpa [RepQ.e] using h1), told_now h0⟩ : _ ∧ _ ∧ _ ∧ _ ∧ _)
  dsimp only at hRF
  generalize repF (RepQ.e (⟨.slice rs0 rd.length rk0, rd, .slice rs1 rb.length rk1, rb, .slice rs2 rt.length rk2, rt, .slice rs3 ru.length rk3, ru, .slice rs4 rn.length rk4, rn⟩ : RepQ)) = FR at *
  have p0 := BR.cell 0 _ rfl
  have p1 := BR.cell 1 _ rfl
  have p2 := BR.cell 2 _ rfl
  have p3 := BR.cell 3 _ rfl
  have p4 := BR.cell 4 _ rfl
  go_wp2_with fail
  refine (hRF X4 hg oR).mono ?_
  rintro e w6 ⟨rfl, hb⟩
  clear hRF p0 p1 p2 p3 p4
  replace oR := repB oR hb
  replace BR := BR.below hb
  replace hg := hg.below hb
  replace b0 := b0.trans (hb.mono b0.size)
  clear hb
  have p0 := BR.cell 0 _ rfl
  have p2 := BR.cell 2 _ rfl
  by_cases hF : FR = 0
  case neg =>
    have hF' : (FR != 0) = true := by simpa using hF
    clear HTL
    go_wp2
    go_ret
    exact ⟨rfl, b0⟩
  subst hF
  have hlR' := hlR
  dsimp only [RepQ.n] at hlR'
  have q0 : (rd.length : Int) ≤ 1048576 := by omega
  have q2 : (rt.length : Int) ≤ 1048576 := by omega
  by_cases h16 : rd.length + rt.length ≤ 16
  case neg =>
    have h16' : (rd.length : Int) + (rt.length : Int) > 16 := by omega
    have h17' : (16 : Int) < (rd.length : Int) + (rt.length : Int) := by omega
    clear HTL hlR'
    go_wp2
    go_ret
    exact ⟨rfl, b0⟩
  obtain ⟨hE0, hE1, hE2, hE3, hE4⟩ := HTL.out rfl h16
  clear HTL
  have h16' : ¬ (16 : Int) < (rd.length : Int) + (rt.length : Int) := by omega
  have hDL := fun w hg h hT => implDeliver_any (⟨.slice rs0 rd.length rk0, rd, .slice rs1 rb.length rk1, rb, .slice rs2 rt.length rk2, rt, .slice rs3 ru.length rk3, ru, .slice rs4 rn.length rk4, rn⟩ : RepQ) (.slice rs2 rt.length rk2) rt w hg h hT hlR (by omega)
  have e9 : dlC (RepQ.e (⟨.slice rs0 rd.length rk0, rd, .slice rs1 rb.length rk1, rb, .slice rs2 rt.length rk2, rt, .slice rs3 ru.length rk3, ru, .slice rs4 rn.length rk4, rn⟩ : RepQ)) (rt.map TxnQ.e) = 0 := hE0.1
  have e10 : dlA (RepQ.e (⟨.slice rs0 rd.length rk0, rd, .slice rs1 rb.length rk1, rb, .slice rs2 rt.length rk2, rt, .slice rs3 ru.length rk3, ru, .slice rs4 rn.length rk4, rn⟩ : RepQ)) (rt.map TxnQ.e) = 0 := hE0.2.1
  have e11 : dlE (RepQ.e (⟨.slice rs0 rd.length rk0, rd, .slice rs1 rb.length rk1, rb, .slice rs2 rt.length rk2, rt, .slice rs3 ru.length rk3, ru, .slice rs4 rn.length rk4, rn⟩ : RepQ)) (rt.map TxnQ.e) = mkR (rd.map TxnQ.e ++ rt.map TxnQ.e) [] := hE0.2.2
  rw [e9, e10, e11] at hDL
  clear e9 e10 e11 hE0
  have HT1 : Hid (∀ (k : Nat) (hk : k < rt.length), finR (mkR (rd.map TxnQ.e ++ rt.map TxnQ.e) []) rt[k].s rt[k].q = tenR (RepQ.e (⟨.slice rs0 rd.length rk0, rd, .slice rs1 rb.length rk1, rb, .slice rs2 rt.length rk2, rt, .slice rs3 ru.length rk3, ru, .slice rs4 rn.length rk4, rn⟩ : RepQ)) rt[k].i ∧ (tenR (RepQ.e (⟨.slice rs0 rd.length rk0, rd, .slice rs1 rb.length rk1, rb, .slice rs2 rt.length rk2, rt, .slice rs3 ru.length rk3, ru, .slice rs4 rn.length rk4, rn⟩ : RepQ)) rt[k].i).1 = 0) := fun k hk => by
    have := hE2 k (by simpa [RepQ.e] using hk)
    simpa [RepQ.e, TxnQ.e] using this
  have HT2 : Hid (∀ (k : Nat) (hk : k < rd.length), finR (mkR (rd.map TxnQ.e ++ rt.map TxnQ.e) []) rd[k].s rd[k].q = finR (RepQ.e (⟨.slice rs0 rd.length rk0, rd, .slice rs1 rb.length rk1, rb, .slice rs2 rt.length rk2, rt, .slice rs3 ru.length rk3, ru, .slice rs4 rn.length rk4, rn⟩ : RepQ)) rd[k].s rd[k].q) := fun k hk => by
    have := hE3 k (by simpa [RepQ.e] using hk)
    simpa [RepQ.e, TxnQ.e] using this
  have HT3 : Hid ((mkR (rd.map TxnQ.e ++ rt.map TxnQ.e) []).base = rn) := hE4
  have HT4 : Hid (repF (mkR (rd.map TxnQ.e ++ rt.map TxnQ.e) []) = 0) := hE1
  clear hE1 hE2 hE3 hE4
  dsimp only at hDL
  have p1 := BR.cell 1 _ rfl
  have p3 := BR.cell 3 _ rfl
  have p4 := BR.cell 4 _ rfl
  go_wp2_with fail
  refine (hDL w6 hg oR oR.2.2.1).mono ?_
  rintro e w7 ⟨D, rfl, eD, oD, _, _, hb⟩
  clear hDL p0 p1 p2 p3 p4 h16'
  replace oR := repB oR hb
  replace BR := BR.below hb
  replace hg := hg.below hb
  replace b0 := b0.trans (hb.mono b0.size)
  clear hb
  obtain ⟨dv0, dd, dv1, db, dv2, dt, dv3, du, dv4, dn⟩ := D
  obtain ⟨ds0, dk0, rfl⟩ : ∃ a c, dv0 = .slice a dd.length c := oD.1.shape
  obtain ⟨ds1, dk1, rfl⟩ : ∃ a c, dv1 = .slice a db.length c := oD.2.1.shape
  obtain ⟨ds2, dk2, rfl⟩ : ∃ a c, dv2 = .slice a dt.length c := oD.2.2.1.shape
  obtain ⟨ds3, dk3, rfl⟩ : ∃ a c, dv3 = .slice a du.length c := oD.2.2.2.1.shape
  obtain ⟨ds4, dk4, rfl⟩ : ∃ a c, dv4 = .slice a dn.length c := oD.2.2.2.2.shape
  have HD1 : Hid (∀ (k : Nat) (hk : k < rt.length), finR (RepQ.e (⟨.slice ds0 dd.length dk0, dd, .slice ds1 db.length dk1, db, .slice ds2 dt.length dk2, dt, .slice ds3 du.length dk3, du, .slice ds4 dn.length dk4, dn⟩ : RepQ)) rt[k].s rt[k].q = tenR (RepQ.e (⟨.slice rs0 rd.length rk0, rd, .slice rs1 rb.length rk1, rb, .slice rs2 rt.length rk2, rt, .slice rs3 ru.length rk3, ru, .slice rs4 rn.length rk4, rn⟩ : RepQ)) rt[k].i ∧ (tenR (RepQ.e (⟨.slice rs0 rd.length rk0, rd, .slice rs1 rb.length rk1, rb, .slice rs2 rt.length rk2, rt, .slice rs3 ru.length rk3, ru, .slice rs4 rn.length rk4, rn⟩ : RepQ)) rt[k].i).1 = 0) := fun k hk => by rw [eD]; exact HT1.out k hk
  have HD2 : Hid (∀ (k : Nat) (hk : k < rd.length), finR (RepQ.e (⟨.slice ds0 dd.length dk0, dd, .slice ds1 db.length dk1, db, .slice ds2 dt.length dk2, dt, .slice ds3 du.length dk3, du, .slice ds4 dn.length dk4, dn⟩ : RepQ)) rd[k].s rd[k].q = finR (RepQ.e (⟨.slice rs0 rd.length rk0, rd, .slice rs1 rb.length rk1, rb, .slice rs2 rt.length rk2, rt, .slice rs3 ru.length rk3, ru, .slice rs4 rn.length rk4, rn⟩ : RepQ)) rd[k].s rd[k].q) := fun k hk => by rw [eD]; exact HT2.out k hk
  have HD3 : Hid (db = rn) := (congrArg RepE.base eD).trans HT3.out
  have hlD : RepQ.n (⟨.slice ds0 dd.length dk0, dd, .slice ds1 db.length dk1, db, .slice ds2 dt.length dk2, dt, .slice ds3 du.length dk3, du, .slice ds4 dn.length dk4, dn⟩ : RepQ) ≤ 1048576 := Nat.le_trans (rep_small (p := (⟨.slice ds0 dd.length dk0, dd, .slice ds1 db.length dk1, db, .slice ds2 dt.length dk2, dt, .slice ds3 du.length dk3, du, .slice ds4 dn.length dk4, dn⟩ : RepQ)) (by rw [eD]; exact HT4.out)) (by omega)
  clear HT1 HT2 HT3 HT4 eD
  have BD := Blk.new w7 34 #[.int .i64 0, .int .i64 0, .int .i64 0, .slice ds0 dd.length dk0, .slice ds1 db.length dk1, .slice ds2 dt.length dk2, .slice ds3 du.length dk3, .slice ds4 dn.length dk4]
  have hb : Below w7.heap.size w7 (w7.alloc (.cells #[.int .i64 0, .int .i64 0, .int .i64 0, .slice ds0 dd.length dk0, .slice ds1 db.length dk1, .slice ds2 dt.length dk2, .slice ds3 du.length dk3, .slice ds4 dn.length dk4] 34)) := by go_grown
  replace oR := repB oR hb
  replace oD := repB oD hb
  replace BR := BR.below hb
  replace hg := hg.below hb
  replace b0 := b0.trans (hb.mono b0.size)
  clear hb
  go_wp2_with fail
  generalize w7.alloc (.cells #[.int .i64 0, .int .i64 0, .int .i64 0, .slice ds0 dd.length dk0, .slice ds1 db.length dk1, .slice ds2 dt.length dk2, .slice ds3 du.length dk3, .slice ds4 dn.length dk4] 34) = X5 at *
  have d0 := BD.cell 0 _ rfl
  have d1 := BD.cell 1 _ rfl
  go_wp2
  clear d0 d1
  go_loopw [11] (fun j wr => ∃ k : Nat, k ≤ rt.length ∧ j = .int .i64 k ∧ Below X5.heap.size X5 wr) (fun j _ => rt.length - (intOf j).toNat)
  case atStart => exact ⟨0, Nat.zero_le _, rfl, Below.refl _ _⟩
  case round =>
    obtain ⟨k, hk, rfl, hb⟩ := hrel
    by_cases hlt : k < rt.length
    · replace oR := repB oR hb
      replace oD := repB oD hb
      replace BR := BR.below hb
      replace BD := BD.below hb
      replace hg := hg.below hb
      have hki : (k : Int) < (rt.length : Int) := by omega
      obtain ⟨bb, off, hav, hbs, hcm, hrd⟩ := oR.2.2.1.at.cell (by decide) k hlt
      try dsimp only at hav
      subst hav
      have hc' : ∀ j x, (txnK.cells rt[k])[j]? = some x → wr.cell? ⟨bb, off + k * 4 + j, none⟩ = some x := hcm
      have c0 := hc' 0 (.int .i64 rt[k].i) rfl
      have c1 := hc' 1 (.int .i64 rt[k].s) rfl
      have c2 := hc' 2 (.int .i64 rt[k].q) rfl
      rw [Nat.add_zero] at c0
      obtain ⟨g1, g2⟩ := HD1.out k hlt
      have hTO := fun w hg h => iTO (⟨.slice rs0 rd.length rk0, rd, .slice rs1 rb.length rk1, rb, .slice (some ⟨bb, off, none⟩) rt.length rk2, rt, .slice rs3 ru.length rk3, ru, .slice rs4 rn.length rk4, rn⟩ : RepQ) rt[k].i w hg h hlR
      have hFO := fun w hg h => iFO (⟨.slice ds0 dd.length dk0, dd, .slice ds1 db.length dk1, db, .slice ds2 dt.length dk2, dt, .slice ds3 du.length dk3, du, .slice ds4 dn.length dk4, dn⟩ : RepQ) rt[k].s rt[k].q w hg h hlD
      dsimp only at hTO hFO
      rw [g1] at hFO
      rw [g2] at hTO hFO
      generalize (tenR (RepQ.e (⟨.slice rs0 rd.length rk0, rd, .slice rs1 rb.length rk1, rb, .slice (some ⟨bb, off, none⟩) rt.length rk2, rt, .slice rs3 ru.length rk3, ru, .slice rs4 rn.length rk4, rn⟩ : RepQ)) rt[k].i).2.1 = A at *
      generalize (tenR (RepQ.e (⟨.slice rs0 rd.length rk0, rd, .slice rs1 rb.length rk1, rb, .slice (some ⟨bb, off, none⟩) rt.length rk2, rt, .slice rs3 ru.length rk3, ru, .slice rs4 rn.length rk4, rn⟩ : RepQ)) rt[k].i).2.2 = V at *
      clear g1 g2 HD1 HD2 HD3 hcm hc' hrd
      generalize rt[k].i = zI at *
      generalize rt[k].s = zS at *
      generalize rt[k].q = zQ at *
      have p2 := BR.cell 2 _ rfl
      go_wp2_with fail
      clear p2
      have k0 : ∀ u : Lat wr, _ := lat_cell c0
      have l0 := BR.lat 0 _ rfl
      have l1 := BR.lat 1 _ rfl
      have l2 := BR.lat 2 _ rfl
      have l3 := BR.lat 3 _ rfl
      have l4 := BR.lat 4 _ rfl
      have hW : Below wr.heap.size wr wr.drew := (Below.refl _ _).drew
      have hnn : Nonempty (Lat wr) := ⟨⟨wr, Below.refl _ _⟩⟩
      refine text_begin (S := fun w' => ∃ u : Lat wr, w' = u.val) (by kernel_rfl) ?_
      refine seg_range [(0, 7)] 3 (by kernel_rfl) (by kernel_rfl) (by kernel_rfl) (by kernel_rfl) (by kernel_rfl) ⟨⟨_, hW⟩, rfl⟩ ?_
      simp only [pickR, List.toList_toArray, List.flatMap_cons, List.flatMap_nil, List.drop_succ_cons, List.drop_zero, List.take_succ_cons, List.take_zero, List.cons_append, List.nil_append, List.append_nil]
      repeat go_big_quiet_step (fail)
      refine wpQuiet_nil ?_
      refine two_at 7 8 2 (by kernel_rfl) (by kernel_rfl) ?_ ?_
      · refine op_call 7 (some 87) 45 #[.agg #[.slice rs0 rd.length rk0, .slice rs1 rb.length rk1, .slice (some ⟨bb, off, none⟩) rt.length rk2, .slice rs3 ru.length rk3, .slice rs4 rn.length rk4], .int .i64 zI] (by kernel_rfl) (by kernel_rfl) (by kernel_rfl) ?_
        refine (hTO _ (hg.below hW) (repB oR hW)).mono ?_
        rintro e u1 ⟨rfl, hb9⟩
        replace hW := hW.trans (hb9.mono hW.size)
        clear hb9
        refine ⟨_, rfl, ⟨⟨_, hW⟩, rfl⟩, ?_⟩
        simp only [Act.put, List.getElem_toArray, List.getElem_cons_succ, List.getElem_cons_zero, List.setIfInBounds_toArray, List.set_cons_zero, List.set_cons_succ]
        refine one_at 8 _ 1 (by kernel_rfl) rfl (by kernel_rfl) ?_
        have Bz := Blk.new u1 83 #[.int .i64 0, .int .i64 0, .int .i64 0]
        have hzz : wr.heap.size ≤ u1.heap.size := hW.size
        have hba : Below u1.heap.size u1 (u1.alloc (.cells #[.int .i64 0, .int .i64 0, .int .i64 0] 83)) := by go_grown
        replace hW := hW.trans (hba.mono hW.size)
        clear hba
        go_wp2
        refine ThenGo.to ⟨⟨⟨_, hW⟩, rfl⟩, ?_⟩
        generalize hG1 : u1.heap.size = g1 at *
        clear hG1
        generalize u1.alloc (.cells #[.int .i64 0, .int .i64 0, .int .i64 0] 83) = v1 at *
        refine one_at 9 _ 0 (by kernel_rfl) rfl (by kernel_rfl) ?_
        have Rz := Bz.row #[.int .i64 0, .int .i64 A, .int .i64 V]
        have hgW : wr.heap.size ≤ g1 := by omega
        replace hW := below_row hW hgW #[.int .i64 0, .int .i64 A, .int .i64 V]
        refine st_row (by kernel_rfl) 83 _ _ rfl _ #[.int .i64 0, .int .i64 A, .int .i64 V] rfl rfl 83 _ Bz sz_rr3 rfl (by simp [Value.oneCell']) ?_
        refine ThenGo.to ⟨⟨⟨_, hW⟩, rfl⟩, ?_⟩
        refine text_end (by kernel_rfl) ?_
        clear Bz hgW
        simp only [Act.put]
        generalize v1.setRow g1 #[.int .i64 0, .int .i64 A, .int .i64 V] = Y2 at *
        replace oR := repB oR hW
        replace oD := repB oD hW
        replace BR := BR.below hW
        replace BD := BD.below hW
        replace hg := hg.below hW
        replace hb := hb.trans (hW.mono hb.size)
        replace c0 := cellB9 c0 hW
        replace c1 := cellB9 c1 hW
        replace c2 := cellB9 c2 hW
        have B12 := Rz
        clear Rz hW hnn hzz l0 l1 l2 l3 l4 k0 hTO
        rename World => Z2
        have hW : Below Z2.heap.size Z2 Z2.drew := (Below.refl _ _).drew
        have hnn : Nonempty (Lat Z2) := ⟨⟨Z2, Below.refl _ _⟩⟩
        have l0 := BR.lat 0 _ rfl
        have l1 := BR.lat 1 _ rfl
        have l2 := BR.lat 2 _ rfl
        have l3 := BR.lat 3 _ rfl
        have l4 := BR.lat 4 _ rfl
        have m0 := BD.lat 0 _ rfl
        have m1 := BD.lat 1 _ rfl
        have m2 := BD.lat 2 _ rfl
        have m3 := BD.lat 3 _ rfl
        have m4 := BD.lat 4 _ rfl
        have m5 := BD.lat 5 _ rfl
        have m6 := BD.lat 6 _ rfl
        have m7 := BD.lat 7 _ rfl
        have k1 : ∀ u : Lat Z2, _ := lat_cell c1
        have k2 : ∀ u : Lat Z2, _ := lat_cell c2
        go_wp2_with fail
        refine text_begin (S := fun w' => ∃ u : Lat Z2, w' = u.val) (by kernel_rfl) ?_
        refine seg_range [(0, 14)] 3 (by kernel_rfl) (by kernel_rfl) (by kernel_rfl) (by kernel_rfl) (by kernel_rfl) ⟨⟨_, hW⟩, rfl⟩ ?_
        simp only [pickR, List.toList_toArray, List.flatMap_cons, List.flatMap_nil, List.drop_succ_cons, List.drop_zero, List.take_succ_cons, List.take_zero, List.cons_append, List.nil_append, List.append_nil]
        repeat go_big_quiet_step (fail)
        refine wpQuiet_nil ?_
        refine two_at 14 15 2 (by kernel_rfl) (by kernel_rfl) ?_ ?_
        · refine op_call 14 (some 102) 47 #[.agg #[.slice ds0 dd.length dk0, .slice ds1 db.length dk1, .slice ds2 dt.length dk2, .slice ds3 du.length dk3, .slice ds4 dn.length dk4], .int .i64 zS, .int .i64 zQ] (by kernel_rfl) (by kernel_rfl) (by kernel_rfl) ?_
          refine (hFO _ (hg.below hW) (repB oD hW)).mono ?_
          rintro e u3 ⟨rfl, hb9⟩
          replace hW := hW.trans (hb9.mono hW.size)
          clear hb9
          refine ⟨_, rfl, ⟨⟨_, hW⟩, rfl⟩, ?_⟩
          simp only [Act.put, List.getElem_toArray, List.getElem_cons_succ, List.getElem_cons_zero, List.setIfInBounds_toArray, List.set_cons_zero, List.set_cons_succ]
          refine one_at 15 _ 1 (by kernel_rfl) rfl (by kernel_rfl) ?_
          have Bz := Blk.new u3 83 #[.int .i64 0, .int .i64 0, .int .i64 0]
          have hzz : Z2.heap.size ≤ u3.heap.size := hW.size
          have hba : Below u3.heap.size u3 (u3.alloc (.cells #[.int .i64 0, .int .i64 0, .int .i64 0] 83)) := by go_grown
          replace hW := hW.trans (hba.mono hW.size)
          clear hba
          go_wp2
          refine ThenGo.to ⟨⟨⟨_, hW⟩, rfl⟩, ?_⟩
          generalize hG3 : u3.heap.size = g3 at *
          clear hG3
          generalize u3.alloc (.cells #[.int .i64 0, .int .i64 0, .int .i64 0] 83) = v3 at *
          refine one_at 16 _ 0 (by kernel_rfl) rfl (by kernel_rfl) ?_
          have Rz := Bz.row #[.int .i64 0, .int .i64 A, .int .i64 V]
          have hgW : Z2.heap.size ≤ g3 := by omega
          replace hW := below_row hW hgW #[.int .i64 0, .int .i64 A, .int .i64 V]
          refine st_row (by kernel_rfl) 83 _ _ rfl _ #[.int .i64 0, .int .i64 A, .int .i64 V] rfl rfl 83 _ Bz sz_rr3 rfl (by simp [Value.oneCell']) ?_
          refine ThenGo.to ⟨⟨⟨_, hW⟩, rfl⟩, ?_⟩
          refine text_end (by kernel_rfl) ?_
          clear Bz hgW
          simp only [Act.put]
          generalize v3.setRow g3 #[.int .i64 0, .int .i64 A, .int .i64 V] = Y4 at *
          replace B12 := B12.below hW
          replace hb := hb.trans (hW.mono hb.size)
          have x0 := B12.cell 0 _ rfl
          have x1 := B12.cell 1 _ rfl
          have x2 := B12.cell 2 _ rfl
          have y0 := Rz.cell 0 _ rfl
          have y1 := Rz.cell 1 _ rfl
          have y2 := Rz.cell 2 _ rfl
          have hnq := fun w => neqRR_bin 0 A V w
          have hqg := fun x y xs ys w => eqRR_g x y xs ys w
          clear Rz hW hnn hzz oR oD BR BD B12 hg c0 c1 c2 l0 l1 l2 l3 l4 m0 m1 m2 m3 m4 m5 m6 m7 k1 k2 hFO
          go_wp2
          go_roundw
          case rel => exact ⟨k + 1, by omega, by go_num, hb⟩
          case measure => simp [intOf]; omega
        · generalize Z2.drew = d3 at *
          refine op_one 15 _ rfl ?_
          have Bz := Blk.new d3 83 #[.int .i64 0, .int .i64 0, .int .i64 0]
          have hzz : Z2.heap.size ≤ d3.heap.size := hW.size
          have hba : Below d3.heap.size d3 (d3.alloc (.cells #[.int .i64 0, .int .i64 0, .int .i64 0] 83)) := by go_grown
          replace hW := hW.trans (hba.mono hW.size)
          clear hba
          go_wp2
          refine ThenGo.to ⟨⟨⟨_, hW⟩, rfl⟩, ?_⟩
          generalize hG3 : d3.heap.size = g3 at *
          clear hG3
          generalize d3.alloc (.cells #[.int .i64 0, .int .i64 0, .int .i64 0] 83) = v3 at *
          refine call_at 14 (some 102) 47 #[.agg #[.slice ds0 dd.length dk0, .slice ds1 db.length dk1, .slice ds2 dt.length dk2, .slice ds3 du.length dk3, .slice ds4 dn.length dk4], .int .i64 zS, .int .i64 zQ] 1 (by kernel_rfl) (by kernel_rfl) (by kernel_rfl) (by kernel_rfl) (by kernel_rfl) ?_
          refine (hFO _ (hg.below hW) (repB oD hW)).mono ?_
          rintro e u3 ⟨rfl, hb9⟩
          replace Bz := Bz.below hb9
          replace hW := hW.trans (hb9.mono hW.size)
          clear hb9
          refine ⟨_, rfl, ⟨⟨_, hW⟩, rfl⟩, ?_⟩
          simp only [Act.put, List.getElem_toArray, List.getElem_cons_succ, List.getElem_cons_zero, List.setIfInBounds_toArray, List.set_cons_zero, List.set_cons_succ]
          refine one_at 16 _ 0 (by kernel_rfl) rfl (by kernel_rfl) ?_
          have Rz := Bz.row #[.int .i64 0, .int .i64 A, .int .i64 V]
          have hgW : Z2.heap.size ≤ g3 := by omega
          replace hW := below_row hW hgW #[.int .i64 0, .int .i64 A, .int .i64 V]
          refine st_row (by kernel_rfl) 83 _ _ rfl _ #[.int .i64 0, .int .i64 A, .int .i64 V] rfl rfl 83 _ Bz sz_rr3 rfl (by simp [Value.oneCell']) ?_
          refine ThenGo.to ⟨⟨⟨_, hW⟩, rfl⟩, ?_⟩
          refine text_end (by kernel_rfl) ?_
          clear Bz hgW
          simp only [Act.put]
          generalize u3.setRow g3 #[.int .i64 0, .int .i64 A, .int .i64 V] = Y5 at *
          replace B12 := B12.below hW
          replace hb := hb.trans (hW.mono hb.size)
          have x0 := B12.cell 0 _ rfl
          have x1 := B12.cell 1 _ rfl
          have x2 := B12.cell 2 _ rfl
          have y0 := Rz.cell 0 _ rfl
          have y1 := Rz.cell 1 _ rfl
          have y2 := Rz.cell 2 _ rfl
          have hnq := fun w => neqRR_bin 0 A V w
          have hqg := fun x y xs ys w => eqRR_g x y xs ys w
          clear Rz hW hnn hzz oR oD BR BD B12 hg c0 c1 c2 l0 l1 l2 l3 l4 m0 m1 m2 m3 m4 m5 m6 m7 k1 k2 hFO
          go_wp2
          go_roundw
          case rel => exact ⟨k + 1, by omega, by go_num, hb⟩
          case measure => simp [intOf]; omega
      · generalize wr.drew = d1 at *
        refine op_one 8 _ rfl ?_
        have Bz := Blk.new d1 83 #[.int .i64 0, .int .i64 0, .int .i64 0]
        have hzz : wr.heap.size ≤ d1.heap.size := hW.size
        have hba : Below d1.heap.size d1 (d1.alloc (.cells #[.int .i64 0, .int .i64 0, .int .i64 0] 83)) := by go_grown
        replace hW := hW.trans (hba.mono hW.size)
        clear hba
        go_wp2
        refine ThenGo.to ⟨⟨⟨_, hW⟩, rfl⟩, ?_⟩
        generalize hG1 : d1.heap.size = g1 at *
        clear hG1
        generalize d1.alloc (.cells #[.int .i64 0, .int .i64 0, .int .i64 0] 83) = v1 at *
        refine call_at 7 (some 87) 45 #[.agg #[.slice rs0 rd.length rk0, .slice rs1 rb.length rk1, .slice (some ⟨bb, off, none⟩) rt.length rk2, .slice rs3 ru.length rk3, .slice rs4 rn.length rk4], .int .i64 zI] 1 (by kernel_rfl) (by kernel_rfl) (by kernel_rfl) (by kernel_rfl) (by kernel_rfl) ?_
        refine (hTO _ (hg.below hW) (repB oR hW)).mono ?_
        rintro e u1 ⟨rfl, hb9⟩
        replace Bz := Bz.below hb9
        replace hW := hW.trans (hb9.mono hW.size)
        clear hb9
        refine ⟨_, rfl, ⟨⟨_, hW⟩, rfl⟩, ?_⟩
        simp only [Act.put, List.getElem_toArray, List.getElem_cons_succ, List.getElem_cons_zero, List.setIfInBounds_toArray, List.set_cons_zero, List.set_cons_succ]
        refine one_at 9 _ 0 (by kernel_rfl) rfl (by kernel_rfl) ?_
        have Rz := Bz.row #[.int .i64 0, .int .i64 A, .int .i64 V]
        have hgW : wr.heap.size ≤ g1 := by omega
        replace hW := below_row hW hgW #[.int .i64 0, .int .i64 A, .int .i64 V]
        refine st_row (by kernel_rfl) 83 _ _ rfl _ #[.int .i64 0, .int .i64 A, .int .i64 V] rfl rfl 83 _ Bz sz_rr3 rfl (by simp [Value.oneCell']) ?_
        refine ThenGo.to ⟨⟨⟨_, hW⟩, rfl⟩, ?_⟩
        refine text_end (by kernel_rfl) ?_
        clear Bz hgW
        simp only [Act.put]
        generalize u1.setRow g1 #[.int .i64 0, .int .i64 A, .int .i64 V] = Y6 at *
        replace oR := repB oR hW
        replace oD := repB oD hW
        replace BR := BR.below hW
        replace BD := BD.below hW
        replace hg := hg.below hW
        replace hb := hb.trans (hW.mono hb.size)
        replace c0 := cellB9 c0 hW
        replace c1 := cellB9 c1 hW
        replace c2 := cellB9 c2 hW
        have B12 := Rz
        clear Rz hW hnn hzz l0 l1 l2 l3 l4 k0 hTO
        rename World => Z6
        have hW : Below Z6.heap.size Z6 Z6.drew := (Below.refl _ _).drew
        have hnn : Nonempty (Lat Z6) := ⟨⟨Z6, Below.refl _ _⟩⟩
        have l0 := BR.lat 0 _ rfl
        have l1 := BR.lat 1 _ rfl
        have l2 := BR.lat 2 _ rfl
        have l3 := BR.lat 3 _ rfl
        have l4 := BR.lat 4 _ rfl
        have m0 := BD.lat 0 _ rfl
        have m1 := BD.lat 1 _ rfl
        have m2 := BD.lat 2 _ rfl
        have m3 := BD.lat 3 _ rfl
        have m4 := BD.lat 4 _ rfl
        have m5 := BD.lat 5 _ rfl
        have m6 := BD.lat 6 _ rfl
        have m7 := BD.lat 7 _ rfl
        have k1 : ∀ u : Lat Z6, _ := lat_cell c1
        have k2 : ∀ u : Lat Z6, _ := lat_cell c2
        go_wp2_with fail
        refine text_begin (S := fun w' => ∃ u : Lat Z6, w' = u.val) (by kernel_rfl) ?_
        refine seg_range [(0, 14)] 3 (by kernel_rfl) (by kernel_rfl) (by kernel_rfl) (by kernel_rfl) (by kernel_rfl) ⟨⟨_, hW⟩, rfl⟩ ?_
        simp only [pickR, List.toList_toArray, List.flatMap_cons, List.flatMap_nil, List.drop_succ_cons, List.drop_zero, List.take_succ_cons, List.take_zero, List.cons_append, List.nil_append, List.append_nil]
        repeat go_big_quiet_step (fail)
        refine wpQuiet_nil ?_
        refine two_at 14 15 2 (by kernel_rfl) (by kernel_rfl) ?_ ?_
        · refine op_call 14 (some 102) 47 #[.agg #[.slice ds0 dd.length dk0, .slice ds1 db.length dk1, .slice ds2 dt.length dk2, .slice ds3 du.length dk3, .slice ds4 dn.length dk4], .int .i64 zS, .int .i64 zQ] (by kernel_rfl) (by kernel_rfl) (by kernel_rfl) ?_
          refine (hFO _ (hg.below hW) (repB oD hW)).mono ?_
          rintro e u7 ⟨rfl, hb9⟩
          replace hW := hW.trans (hb9.mono hW.size)
          clear hb9
          refine ⟨_, rfl, ⟨⟨_, hW⟩, rfl⟩, ?_⟩
          simp only [Act.put, List.getElem_toArray, List.getElem_cons_succ, List.getElem_cons_zero, List.setIfInBounds_toArray, List.set_cons_zero, List.set_cons_succ]
          refine one_at 15 _ 1 (by kernel_rfl) rfl (by kernel_rfl) ?_
          have Bz := Blk.new u7 83 #[.int .i64 0, .int .i64 0, .int .i64 0]
          have hzz : Z6.heap.size ≤ u7.heap.size := hW.size
          have hba : Below u7.heap.size u7 (u7.alloc (.cells #[.int .i64 0, .int .i64 0, .int .i64 0] 83)) := by go_grown
          replace hW := hW.trans (hba.mono hW.size)
          clear hba
          go_wp2
          refine ThenGo.to ⟨⟨⟨_, hW⟩, rfl⟩, ?_⟩
          generalize hG7 : u7.heap.size = g7 at *
          clear hG7
          generalize u7.alloc (.cells #[.int .i64 0, .int .i64 0, .int .i64 0] 83) = v7 at *
          refine one_at 16 _ 0 (by kernel_rfl) rfl (by kernel_rfl) ?_
          have Rz := Bz.row #[.int .i64 0, .int .i64 A, .int .i64 V]
          have hgW : Z6.heap.size ≤ g7 := by omega
          replace hW := below_row hW hgW #[.int .i64 0, .int .i64 A, .int .i64 V]
          refine st_row (by kernel_rfl) 83 _ _ rfl _ #[.int .i64 0, .int .i64 A, .int .i64 V] rfl rfl 83 _ Bz sz_rr3 rfl (by simp [Value.oneCell']) ?_
          refine ThenGo.to ⟨⟨⟨_, hW⟩, rfl⟩, ?_⟩
          refine text_end (by kernel_rfl) ?_
          clear Bz hgW
          simp only [Act.put]
          generalize v7.setRow g7 #[.int .i64 0, .int .i64 A, .int .i64 V] = Y8 at *
          replace B12 := B12.below hW
          replace hb := hb.trans (hW.mono hb.size)
          have x0 := B12.cell 0 _ rfl
          have x1 := B12.cell 1 _ rfl
          have x2 := B12.cell 2 _ rfl
          have y0 := Rz.cell 0 _ rfl
          have y1 := Rz.cell 1 _ rfl
          have y2 := Rz.cell 2 _ rfl
          have hnq := fun w => neqRR_bin 0 A V w
          have hqg := fun x y xs ys w => eqRR_g x y xs ys w
          clear Rz hW hnn hzz oR oD BR BD B12 hg c0 c1 c2 l0 l1 l2 l3 l4 m0 m1 m2 m3 m4 m5 m6 m7 k1 k2 hFO
          go_wp2
          go_roundw
          case rel => exact ⟨k + 1, by omega, by go_num, hb⟩
          case measure => simp [intOf]; omega
        · generalize Z6.drew = d7 at *
          refine op_one 15 _ rfl ?_
          have Bz := Blk.new d7 83 #[.int .i64 0, .int .i64 0, .int .i64 0]
          have hzz : Z6.heap.size ≤ d7.heap.size := hW.size
          have hba : Below d7.heap.size d7 (d7.alloc (.cells #[.int .i64 0, .int .i64 0, .int .i64 0] 83)) := by go_grown
          replace hW := hW.trans (hba.mono hW.size)
          clear hba
          go_wp2
          refine ThenGo.to ⟨⟨⟨_, hW⟩, rfl⟩, ?_⟩
          generalize hG7 : d7.heap.size = g7 at *
          clear hG7
          generalize d7.alloc (.cells #[.int .i64 0, .int .i64 0, .int .i64 0] 83) = v7 at *
          refine call_at 14 (some 102) 47 #[.agg #[.slice ds0 dd.length dk0, .slice ds1 db.length dk1, .slice ds2 dt.length dk2, .slice ds3 du.length dk3, .slice ds4 dn.length dk4], .int .i64 zS, .int .i64 zQ] 1 (by kernel_rfl) (by kernel_rfl) (by kernel_rfl) (by kernel_rfl) (by kernel_rfl) ?_
          refine (hFO _ (hg.below hW) (repB oD hW)).mono ?_
          rintro e u7 ⟨rfl, hb9⟩
          replace Bz := Bz.below hb9
          replace hW := hW.trans (hb9.mono hW.size)
          clear hb9
          refine ⟨_, rfl, ⟨⟨_, hW⟩, rfl⟩, ?_⟩
          simp only [Act.put, List.getElem_toArray, List.getElem_cons_succ, List.getElem_cons_zero, List.setIfInBounds_toArray, List.set_cons_zero, List.set_cons_succ]
          refine one_at 16 _ 0 (by kernel_rfl) rfl (by kernel_rfl) ?_
          have Rz := Bz.row #[.int .i64 0, .int .i64 A, .int .i64 V]
          have hgW : Z6.heap.size ≤ g7 := by omega
          replace hW := below_row hW hgW #[.int .i64 0, .int .i64 A, .int .i64 V]
          refine st_row (by kernel_rfl) 83 _ _ rfl _ #[.int .i64 0, .int .i64 A, .int .i64 V] rfl rfl 83 _ Bz sz_rr3 rfl (by simp [Value.oneCell']) ?_
          refine ThenGo.to ⟨⟨⟨_, hW⟩, rfl⟩, ?_⟩
          refine text_end (by kernel_rfl) ?_
          clear Bz hgW
          simp only [Act.put]
          generalize u7.setRow g7 #[.int .i64 0, .int .i64 A, .int .i64 V] = Y9 at *
          replace B12 := B12.below hW
          replace hb := hb.trans (hW.mono hb.size)
          have x0 := B12.cell 0 _ rfl
          have x1 := B12.cell 1 _ rfl
          have x2 := B12.cell 2 _ rfl
          have y0 := Rz.cell 0 _ rfl
          have y1 := Rz.cell 1 _ rfl
          have y2 := Rz.cell 2 _ rfl
          have hnq := fun w => neqRR_bin 0 A V w
          have hqg := fun x y xs ys w => eqRR_g x y xs ys w
          clear Rz hW hnn hzz oR oD BR BD B12 hg c0 c1 c2 l0 l1 l2 l3 l4 m0 m1 m2 m3 m4 m5 m6 m7 k1 k2 hFO
          go_wp2
          go_roundw
          case rel => exact ⟨k + 1, by omega, by go_num, hb⟩
          case measure => simp [intOf]; omega
    · have hki : ¬ (k : Int) < (rt.length : Int) := by omega
      replace oR := repB oR hb
      replace oD := repB oD hb
      replace BR := BR.below hb
      replace BD := BD.below hb
      replace hg := hg.below hb
      replace b0 := b0.trans (hb.mono b0.size)
      clear hb
      have p2 := BR.cell 2 _ rfl
      go_wp2
      clear p2 HD1 hki hk
      rename World => X6
      go_loopw [14] (fun j wr => ∃ k : Nat, k ≤ rd.length ∧ j = .int .i64 k ∧ Below X6.heap.size X6 wr) (fun j _ => rd.length - (intOf j).toNat)
      case atStart => exact ⟨0, Nat.zero_le _, rfl, Below.refl _ _⟩
      case round =>
        obtain ⟨k, hk, rfl, hb⟩ := hrel
        replace oR := repB oR hb
        replace oD := repB oD hb
        replace BR := BR.below hb
        replace BD := BD.below hb
        replace hg := hg.below hb
        by_cases hlt : k < rd.length
        · have hki : (k : Int) < (rd.length : Int) := by omega
          obtain ⟨bb, off, hav, hbs, hcm, hrd⟩ := oR.1.at.cell (by decide) k hlt
          try dsimp only at hav
          subst hav
          have hc' : ∀ j x, (txnK.cells rd[k])[j]? = some x → wr.cell? ⟨bb, off + k * 4 + j, none⟩ = some x := hcm
          have c1 := hc' 1 (.int .i64 rd[k].s) rfl
          have c2 := hc' 2 (.int .i64 rd[k].q) rfl
          have g1 := HD2.out k hlt
          have hFR := fun w hg h => iFO (⟨.slice (some ⟨bb, off, none⟩) rd.length rk0, rd, .slice rs1 rb.length rk1, rb, .slice rs2 rt.length rk2, rt, .slice rs3 ru.length rk3, ru, .slice rs4 rn.length rk4, rn⟩ : RepQ) rd[k].s rd[k].q w hg h hlR
          have hFO := fun w hg h => iFO (⟨.slice ds0 dd.length dk0, dd, .slice ds1 db.length dk1, db, .slice ds2 dt.length dk2, dt, .slice ds3 du.length dk3, du, .slice ds4 dn.length dk4, dn⟩ : RepQ) rd[k].s rd[k].q w hg h hlD
          dsimp only at hFR hFO
          rw [g1] at hFO
          generalize (finR (RepQ.e (⟨.slice (some ⟨bb, off, none⟩) rd.length rk0, rd, .slice rs1 rb.length rk1, rb, .slice rs2 rt.length rk2, rt, .slice rs3 ru.length rk3, ru, .slice rs4 rn.length rk4, rn⟩ : RepQ)) rd[k].s rd[k].q).1 = C at *
          generalize (finR (RepQ.e (⟨.slice (some ⟨bb, off, none⟩) rd.length rk0, rd, .slice rs1 rb.length rk1, rb, .slice rs2 rt.length rk2, rt, .slice rs3 ru.length rk3, ru, .slice rs4 rn.length rk4, rn⟩ : RepQ)) rd[k].s rd[k].q).2.1 = A at *
          generalize (finR (RepQ.e (⟨.slice (some ⟨bb, off, none⟩) rd.length rk0, rd, .slice rs1 rb.length rk1, rb, .slice rs2 rt.length rk2, rt, .slice rs3 ru.length rk3, ru, .slice rs4 rn.length rk4, rn⟩ : RepQ)) rd[k].s rd[k].q).2.2 = V at *
          clear g1 HD2 HD3 hcm hc' hrd
          generalize rd[k].s = zS at *
          generalize rd[k].q = zQ at *
          have p0 := BR.cell 0 _ rfl
          go_wp2_with fail
          clear p0
          have k1 : ∀ u : Lat wr, _ := lat_cell c1
          have k2 : ∀ u : Lat wr, _ := lat_cell c2
          have hnq : ∀ u : Lat wr, (eqGuard .neq 83 (.tmp 136) (.tmp 151) (.agg #[.int .i64 C, .int .i64 A, .int .i64 V]) (.agg #[.int .i64 C, .int .i64 A, .int .i64 V]) >>= fun _ => binOp .neq 83 (.agg #[.int .i64 C, .int .i64 A, .int .i64 V]) (.agg #[.int .i64 C, .int .i64 A, .int .i64 V])).run Tryz.prog u.val = .ok (.bool false) u.val := fun u => neqRR_run _ _ C A V u.val
          have l0 := BR.lat 0 _ rfl
          have l1 := BR.lat 1 _ rfl
          have l2 := BR.lat 2 _ rfl
          have l3 := BR.lat 3 _ rfl
          have l4 := BR.lat 4 _ rfl
          have m0 := BD.lat 0 _ rfl
          have m1 := BD.lat 1 _ rfl
          have m2 := BD.lat 2 _ rfl
          have m3 := BD.lat 3 _ rfl
          have m4 := BD.lat 4 _ rfl
          have m5 := BD.lat 5 _ rfl
          have m6 := BD.lat 6 _ rfl
          have m7 := BD.lat 7 _ rfl
          have hW : Below wr.heap.size wr wr.drew := (Below.refl _ _).drew
          have hnn : Nonempty (Lat wr) := ⟨⟨wr, Below.refl _ _⟩⟩
          refine text_begin (S := fun w' => ∃ u : Lat wr, w' = u.val) (by kernel_rfl) ?_
          refine seg_range [(0, 13), (14, 14)] 3 (by kernel_rfl) (by kernel_rfl) (by kernel_rfl) (by kernel_rfl) (by kernel_rfl) ⟨⟨_, hW⟩, rfl⟩ ?_
          simp only [pickR, List.toList_toArray, List.flatMap_cons, List.flatMap_nil, List.drop_succ_cons, List.drop_zero, List.take_succ_cons, List.take_zero, List.cons_append, List.nil_append, List.append_nil]
          repeat go_big_quiet_step (fail)
          refine wpQuiet_nil ?_
          refine call_at 13 (some 136) 47 #[.agg #[.slice (some ⟨bb, off, none⟩) rd.length rk0, .slice rs1 rb.length rk1, .slice rs2 rt.length rk2, .slice rs3 ru.length rk3, .slice rs4 rn.length rk4], .int .i64 zS, .int .i64 zQ] 2 (by kernel_rfl) (by kernel_rfl) (by kernel_rfl) (by kernel_rfl) (by kernel_rfl) ?_
          refine (hFR _ (hg.below hW) (repB oR hW)).mono ?_
          rintro e w9 ⟨rfl, hb9⟩
          replace hW := hW.trans (hb9.mono hW.size)
          clear hb9
          refine ⟨_, rfl, ⟨⟨_, hW⟩, rfl⟩, ?_⟩
          simp only [Act.put, List.setIfInBounds_toArray, List.set_cons_zero, List.set_cons_succ]
          refine call_at 28 (some 151) 47 #[.agg #[.slice ds0 dd.length dk0, .slice ds1 db.length dk1, .slice ds2 dt.length dk2, .slice ds3 du.length dk3, .slice ds4 dn.length dk4], .int .i64 zS, .int .i64 zQ] 1 (by kernel_rfl) (by kernel_rfl) (by kernel_rfl) (by kernel_rfl) (by kernel_rfl) ?_
          refine (hFO _ (hg.below hW) (repB oD hW)).mono ?_
          rintro e w9 ⟨rfl, hb9⟩
          replace hW := hW.trans (hb9.mono hW.size)
          clear hb9
          refine ⟨_, rfl, ⟨⟨_, hW⟩, rfl⟩, ?_⟩
          simp only [Act.put, List.setIfInBounds_toArray, List.set_cons_zero, List.set_cons_succ]
          refine quiet_at 29 (some 152) (.bool false) 0 (by kernel_rfl) (by kernel_rfl) (by kernel_rfl) (by kernel_rfl) (by kernel_rfl) (fun u hu => ?_) ⟨⟨_, hW⟩, rfl⟩ ?_
          · obtain ⟨u, rfl⟩ := hu
            show some (((eqGuard .neq 83 (.tmp 136) (.tmp 151) (.agg #[.int .i64 C, .int .i64 A, .int .i64 V]) (.agg #[.int .i64 C, .int .i64 A, .int .i64 V]) >>= fun _ => binOp .neq 83 (.agg #[.int .i64 C, .int .i64 A, .int .i64 V]) (.agg #[.int .i64 C, .int .i64 A, .int .i64 V])) >>= fun x => pure (Next.value x) : Sem Next).run Tryz.prog u.val) = _
            rw [Sem.run_bind, hnq u]
            rfl
          simp only [Act.put, List.setIfInBounds_toArray, List.set_cons_zero, List.set_cons_succ]
          refine text_end (by kernel_rfl) ?_
          replace hb := hb.trans (hW.mono hb.size)
          clear hW hnn l0 l1 l2 l3 l4 m0 m1 m2 m3 m4 m5 m6 m7 k1 k2 c1 c2 hFR hFO oR oD BR BD hnq hg
          go_wp2
          go_roundw
          case rel => exact ⟨k + 1, by omega, by go_num, hb⟩
          case measure => simp [intOf]; omega
        · have hki : ¬ (k : Int) < (rd.length : Int) := by omega
          replace b0 := b0.trans (hb.mono b0.size)
          have hSB := fun w h h' => iSI (.slice ds1 db.length dk1) (.slice rs4 rn.length rk4) db rn w h h' (by have := hlD; dsimp only [RepQ.n] at this; omega) (by omega)
          rw [show sameIs db rn = true by rw [HD3.out]; exact sameIs_refl rn] at hSB
          clear HD2 HD3
          have p0 := BR.cell 0 _ rfl
          have p4 := BR.cell 4 _ rfl
          have d4 := BD.cell 4 _ rfl
          go_wp2_with fail
          refine (hSB wr oD.2.1 oR.2.2.2.2).mono ?_
          rintro e w9 ⟨rfl, hb9⟩
          replace b0 := b0.trans (hb9.mono b0.size)
          go_wp2
          go_ret
          exact ⟨rfl, b0⟩

end Go.Proofs.YtfdkcbafpiojkaaGreatDoor
