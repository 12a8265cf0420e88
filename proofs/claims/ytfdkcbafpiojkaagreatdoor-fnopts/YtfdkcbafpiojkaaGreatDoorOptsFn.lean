/- The law FnOpts, walked: at every list of bytes it answers true, and it writes into nothing that was there. The condition: errors.errorType starts as the program's text lays it. -/
import Derived.Test.YtfdkcbafpiojkaaGreatDoorSGBC
import Derived.Test.YtfdkcbafpiojkaaGreatDoorSGBM
import Derived.Test.YtfdkcbafpiojkaaGreatDoorSGBO
namespace Go.Proofs.YtfdkcbafpiojkaaGreatDoor
open Go.RowKit
open Go.BigFrame
set_option linter.unusedVariables false
set_option maxRecDepth 100000
set_option linter.unusedSimpArgs false

theorem acts_row {w : World} {i s q : Int} {a : Option Addr} {c : Nat} {xs : List ActD} (h : txnK.rd w (⟨i, s, q, .slice a xs.length c, xs⟩ : TxnQ)) : ActRow w a xs := by
  have h1 : actK.At w (.slice a xs.length c) xs := h
  obtain ⟨a', c', e, hl, _⟩ := h1
  simp only [Value.slice.injEq] at e
  obtain ⟨rfl, _, _⟩ := e
  exact hl
def slA9 : Value → Option Addr
  | .slice a _ _ => a
  | _ => none
def slK9 : Value → Nat
  | .slice _ _ k => k
  | _ => 0
def USQ.p9 (q : USQ) : USP := ⟨q.us, slA9 q.va, slK9 q.va⟩
theorem ussAt9 {w : World} {v : Value} {ps : List USQ} (h : ussK.Own w v ps) : UssAt w v (ps.map USQ.e) := by
  obtain ⟨a, cap, e, hL, hr⟩ := h.at
  refine ⟨a, cap, ps.map USQ.p9, by rw [List.length_map]; exact e, by simp only [List.map_map]; rfl, ?_, ?_⟩
  · have e2 : usCells (ps.map USQ.p9) = ussK.row ps := by
      clear hL e h
      induction ps with
      | nil => rfl
      | cons q r ih =>
        have h1 : undoK.At w q.va q.us := hr q (by simp)
        obtain ⟨a', c', e', _⟩ := h1
        have h2 := ih (fun p hp => hr p (List.mem_cons_of_mem _ hp))
        show q.p9.sl :: usCells (r.map USQ.p9) = ussK.cells q ++ ussK.row r
        rw [h2]
        show q.p9.sl :: ussK.row r = q.va :: ussK.row r
        rw [show q.p9.sl = q.va by simp only [USP.sl, USQ.p9, e', slA9, slK9]]
    rw [e2]
    exact hL
  · intro p hp
    obtain ⟨q, hq, rfl⟩ := List.mem_map.1 hp
    have h1 : undoK.At w q.va q.us := hr q hq
    obtain ⟨a', c', e', hl', _⟩ := h1
    show UndoRow w (slA9 q.va) q.us
    rw [e']
    exact hl'
theorem iTK (v v' : Value) (xs : List ItemD) (us : List USQ) (w : World) (h : itemK.Own w v xs) (h' : ussK.Own w v' us) (hl : xs.length ≤ 1048576) (hl' : us.length + nmL USQ.n us ≤ 1048576) :
    Calls Tryz.prog 36 #[v, v'] w fun e w' => ∃ vk kl, e = .returned (.agg #[.int .i64 (taC xs (us.map USQ.e)), .int .i64 0, vk]) ∧ kl = taI xs (us.map USQ.e) ∧ itemK.Own w' vk kl ∧ Below w.heap.size w w' := by
  have hN := h.niceV
  obtain ⟨a, c, rfl⟩ := h.shape
  have hs : (us.map USQ.e).length + sumU (us.map USQ.e) ≤ 1048576 := by
    rw [List.length_map]
    have e : sumU (us.map USQ.e) = nmL USQ.n us := by simp only [sumU, nmL, List.map_map]; rfl
    rw [e]
    exact hl'
  refine (implTakeAll_any a c xs v' (us.map USQ.e) w (itemK_at9 h.at) (hN _ _ _ rfl) (ussAt9 h') hl hs).mono ?_
  rintro e w' ⟨b, k, rfl, ho, hb⟩
  exact ⟨_, _, rfl, rfl, ⟨by rw [itemK_row]; exact (own_zero ho).1, fun _ _ => trivial⟩, hb⟩

set_option maxRecDepth 100000 in
set_option maxHeartbeats 16000000 in
theorem optsFn (a : Option Addr) (cap : Nat) (zs : List Int) (w : World) (hg : ErrT w) (h : Row .u8 w a zs) (hu : ∀ i, 0 ≤ zs.getD i 0 ∧ zs.getD i 0 ≤ 255) (hm : zs.length ≤ 9223372036854775807) :
    Calls Tryz.prog 6 #[.slice a zs.length cap] w fun e w' => e = .returned (.bool true) ∧ Below w.heap.size w w' := by
  by_cases hle : zs.length ≤ 1048576
  case neg =>
    have hd : decide (1048576 < (zs.length : Int)) = true := decide_eq_true (by omega)
    go_enter Tryz.func6, Tryz.ntmps6
    go_wp2_with fail
    refine (lwBig_any a zs.length cap w hm).mono ?_
    rintro e w1 ⟨rfl, hw⟩
    subst hw
    rw [hd]
    go_wp2
    go_ret
    exact ⟨rfl, Below.refl _ _⟩
  have b0 : Below w.heap.size w w := Below.refl _ _
  have hd : decide (1048576 < (zs.length : Int)) = false := decide_eq_false (by omega)
  go_enter Tryz.func6, Tryz.ntmps6
  go_wp2_with fail
  refine (lwBig_any a zs.length cap w hm).mono ?_
  rintro e w1 ⟨rfl, hw⟩
  replace hw := hw.symm
  subst hw
  rw [hd]
  go_wp2_with fail
  refine (drawOptDeliver_any a cap zs w h hu hle).mono ?_
  rintro e w2 ⟨R, T, rfl, hnR, hnT, oR, oT, hb⟩
  replace hg := hg.below hb
  replace b0 := b0.trans (hb.mono b0.size)
  clear hb
  obtain ⟨rv0, rd, rv1, rb, rv2, rt, rv3, ru, rv4, rn⟩ := R
  obtain ⟨rs0, rk0, rfl⟩ : ∃ a c, rv0 = .slice a rd.length c := oR.1.shape
  obtain ⟨rs1, rk1, rfl⟩ : ∃ a c, rv1 = .slice a rb.length c := oR.2.1.shape
  obtain ⟨rs2, rk2, rfl⟩ : ∃ a c, rv2 = .slice a rt.length c := oR.2.2.1.shape
  obtain ⟨rs3, rk3, rfl⟩ : ∃ a c, rv3 = .slice a ru.length c := oR.2.2.2.1.shape
  obtain ⟨rs4, rk4, rfl⟩ : ∃ a c, rv4 = .slice a rn.length c := oR.2.2.2.2.shape
  obtain ⟨ti, ts, tq, tv, txs⟩ := T
  obtain ⟨ta, tk, rfl⟩ : ∃ a c, tv = .slice a txs.length c := oT.shape
  have hlR : RepQ.n (⟨.slice rs0 rd.length rk0, rd, .slice rs1 rb.length rk1, rb, .slice rs2 rt.length rk2, rt, .slice rs3 ru.length rk3, ru, .slice rs4 rn.length rk4, rn⟩ : RepQ) ≤ 1048576 := by omega
  have hlT : TxnQ.n (⟨ti, ts, tq, .slice ta txs.length tk, txs⟩ : TxnQ) ≤ 1048576 := Nat.le_trans hnT (by omega)
  have BR := (Blk.new w2 32 #[.slice rs0 rd.length rk0, .slice rs1 rb.length rk1, .slice rs2 rt.length rk2, .slice rs3 ru.length rk3, .slice rs4 rn.length rk4]).below (w' := (w2.alloc (.cells #[.slice rs0 rd.length rk0, .slice rs1 rb.length rk1, .slice rs2 rt.length rk2, .slice rs3 ru.length rk3, .slice rs4 rn.length rk4] 32)).alloc (.cells #[.int .i64 ti, .int .i64 ts, .int .i64 tq, .slice ta txs.length tk] 49)) (by go_grown)
  have BT := Blk.new (w2.alloc (.cells #[.slice rs0 rd.length rk0, .slice rs1 rb.length rk1, .slice rs2 rt.length rk2, .slice rs3 ru.length rk3, .slice rs4 rn.length rk4] 32)) 49 #[.int .i64 ti, .int .i64 ts, .int .i64 tq, .slice ta txs.length tk]
  simp only [World.size_alloc] at BT
  have hb : Below w2.heap.size w2 ((w2.alloc (.cells #[.slice rs0 rd.length rk0, .slice rs1 rb.length rk1, .slice rs2 rt.length rk2, .slice rs3 ru.length rk3, .slice rs4 rn.length rk4] 32)).alloc (.cells #[.int .i64 ti, .int .i64 ts, .int .i64 tq, .slice ta txs.length tk] 49)) := by go_grown
  replace oR := repB oR hb
  replace oT := txnB oT hb
  replace hg := hg.below hb
  replace b0 := b0.trans (hb.mono b0.size)
  clear hb
  have p0 := BR.cell 0 _ rfl
  have p1 := BR.cell 1 _ rfl
  have p2 := BR.cell 2 _ rfl
  have p3 := BR.cell 3 _ rfl
  have p4 := BR.cell 4 _ rfl
  have q0 := BT.cell 0 _ rfl
  have q1 := BT.cell 1 _ rfl
  have q2 := BT.cell 2 _ rfl
  have q3 := BT.cell 3 _ rfl
  go_wp2_with fail
  clear p0 p1 p2 p3 p4 q0 q1 q2 q3
  generalize (w2.alloc (.cells #[.slice rs0 rd.length rk0, .slice rs1 rb.length rk1, .slice rs2 rt.length rk2, .slice rs3 ru.length rk3, .slice rs4 rn.length rk4] 32)).alloc (.cells #[.int .i64 ti, .int .i64 ts, .int .i64 tq, .slice ta txs.length tk] 49) = X1 at *
  have hOP := fun w hg h hT => iOP (⟨.slice rs0 rd.length rk0, rd, .slice rs1 rb.length rk1, rb, .slice rs2 rt.length rk2, rt, .slice rs3 ru.length rk3, ru, .slice rs4 rn.length rk4, rn⟩ : RepQ) (⟨ti, ts, tq, .slice ta txs.length tk, txs⟩ : TxnQ) w hg h hT hlR hlT
  have hSO := fun w h hT => specOptDeliver_any (⟨.slice rs0 rd.length rk0, rd, .slice rs1 rb.length rk1, rb, .slice rs2 rt.length rk2, rt, .slice rs3 ru.length rk3, ru, .slice rs4 rn.length rk4, rn⟩ : RepQ) (⟨ti, ts, tq, .slice ta txs.length tk, txs⟩ : TxnQ) w h hT hlR hlT
  have hRF := fun w hg h => iRF (⟨.slice rs0 rd.length rk0, rd, .slice rs1 rb.length rk1, rb, .slice rs2 rt.length rk2, rt, .slice rs3 ru.length rk3, ru, .slice rs4 rn.length rk4, rn⟩ : RepQ) w hg h hlR
  have hSF := fun w h => specReplicaFault_any (⟨.slice rs0 rd.length rk0, rd, .slice rs1 rb.length rk1, rb, .slice rs2 rt.length rk2, rt, .slice rs3 ru.length rk3, ru, .slice rs4 rn.length rk4, rn⟩ : RepQ) w h hlR
  have HPL : Hid (opC (RepQ.e (⟨.slice rs0 rd.length rk0, rd, .slice rs1 rb.length rk1, rb, .slice rs2 rt.length rk2, rt, .slice rs3 ru.length rk3, ru, .slice rs4 rn.length rk4, rn⟩ : RepQ)) (TxnQ.e (⟨ti, ts, tq, .slice ta txs.length tk, txs⟩ : TxnQ)) = 0 → opE (RepQ.e (⟨.slice rs0 rd.length rk0, rd, .slice rs1 rb.length rk1, rb, .slice rs2 rt.length rk2, rt, .slice rs3 ru.length rk3, ru, .slice rs4 rn.length rk4, rn⟩ : RepQ)) (TxnQ.e (⟨ti, ts, tq, .slice ta txs.length tk, txs⟩ : TxnQ)) = mkR (rd.map TxnQ.e) (rt.map TxnQ.e ++ [(⟨ti, ts, tq, txs⟩ : TxnD)]) ∧ repF (mkR (rd.map TxnQ.e) (rt.map TxnQ.e ++ [(⟨ti, ts, tq, txs⟩ : TxnD)])) = 0 ∧ rb = allI [] (rd.map TxnQ.e) ∧ opC (mkR (rd.map TxnQ.e) (rt.map TxnQ.e ++ [(⟨ti, ts, tq, txs⟩ : TxnD)])) (⟨ti, ts, tq, txs⟩ : TxnD) = 6 ∧ exC rn ti ts tq txs = opA (RepQ.e (⟨.slice rs0 rd.length rk0, rd, .slice rs1 rb.length rk1, rb, .slice rs2 rt.length rk2, rt, .slice rs3 ru.length rk3, ru, .slice rs4 rn.length rk4, rn⟩ : RepQ)) (TxnQ.e (⟨ti, ts, tq, .slice ta txs.length tk, txs⟩ : TxnQ)) ∧ exV rn ti ts tq txs = opV (RepQ.e (⟨.slice rs0 rd.length rk0, rd, .slice rs1 rb.length rk1, rb, .slice rs2 rt.length rk2, rt, .slice rs3 ru.length rk3, ru, .slice rs4 rn.length rk4, rn⟩ : RepQ)) (TxnQ.e (⟨ti, ts, tq, .slice ta txs.length tk, txs⟩ : TxnQ))) := fun h0 => ⟨if_pos h0, opt_right h0, (rep_parts (opC_zero h0).1).1, opt_twice h0, (opt_exec h0).1, (opt_exec h0).2⟩
  have HSM : Hid (opC (RepQ.e (⟨.slice rs0 rd.length rk0, rd, .slice rs1 rb.length rk1, rb, .slice rs2 rt.length rk2, rt, .slice rs3 ru.length rk3, ru, .slice rs4 rn.length rk4, rn⟩ : RepQ)) (TxnQ.e (⟨ti, ts, tq, .slice ta txs.length tk, txs⟩ : TxnQ)) ≠ 0 → opE (RepQ.e (⟨.slice rs0 rd.length rk0, rd, .slice rs1 rb.length rk1, rb, .slice rs2 rt.length rk2, rt, .slice rs3 ru.length rk3, ru, .slice rs4 rn.length rk4, rn⟩ : RepQ)) (TxnQ.e (⟨ti, ts, tq, .slice ta txs.length tk, txs⟩ : TxnQ)) = ⟨[], [], [], [], []⟩) := fun h0 => if_neg h0
  dsimp only at hOP hSO hRF hSF
  generalize repF (RepQ.e (⟨.slice rs0 rd.length rk0, rd, .slice rs1 rb.length rk1, rb, .slice rs2 rt.length rk2, rt, .slice rs3 ru.length rk3, ru, .slice rs4 rn.length rk4, rn⟩ : RepQ)) = FR at *
  generalize opA (RepQ.e (⟨.slice rs0 rd.length rk0, rd, .slice rs1 rb.length rk1, rb, .slice rs2 rt.length rk2, rt, .slice rs3 ru.length rk3, ru, .slice rs4 rn.length rk4, rn⟩ : RepQ)) (TxnQ.e (⟨ti, ts, tq, .slice ta txs.length tk, txs⟩ : TxnQ)) = OA at *
  generalize opV (RepQ.e (⟨.slice rs0 rd.length rk0, rd, .slice rs1 rb.length rk1, rb, .slice rs2 rt.length rk2, rt, .slice rs3 ru.length rk3, ru, .slice rs4 rn.length rk4, rn⟩ : RepQ)) (TxnQ.e (⟨ti, ts, tq, .slice ta txs.length tk, txs⟩ : TxnQ)) = OV at *
  generalize opE (RepQ.e (⟨.slice rs0 rd.length rk0, rd, .slice rs1 rb.length rk1, rb, .slice rs2 rt.length rk2, rt, .slice rs3 ru.length rk3, ru, .slice rs4 rn.length rk4, rn⟩ : RepQ)) (TxnQ.e (⟨ti, ts, tq, .slice ta txs.length tk, txs⟩ : TxnQ)) = OE at *
  generalize opC (RepQ.e (⟨.slice rs0 rd.length rk0, rd, .slice rs1 rb.length rk1, rb, .slice rs2 rt.length rk2, rt, .slice rs3 ru.length rk3, ru, .slice rs4 rn.length rk4, rn⟩ : RepQ)) (TxnQ.e (⟨ti, ts, tq, .slice ta txs.length tk, txs⟩ : TxnQ)) = OC at *
  refine (hOP X1 hg oR oT).mono ?_
  rintro e w3 ⟨O, rfl, eO, oO, _, _, hb⟩
  clear hOP
  replace oR := repB oR hb
  replace oT := txnB oT hb
  replace BR := BR.below hb
  replace BT := BT.below hb
  replace hg := hg.below hb
  replace b0 := b0.trans (hb.mono b0.size)
  clear hb
  obtain ⟨ov0, od, ov1, ob, ov2, ot, ov3, ou, ov4, on⟩ := O
  obtain ⟨os0, ok0, rfl⟩ : ∃ a c, ov0 = .slice a od.length c := oO.1.shape
  obtain ⟨os1, ok1, rfl⟩ : ∃ a c, ov1 = .slice a ob.length c := oO.2.1.shape
  obtain ⟨os2, ok2, rfl⟩ : ∃ a c, ov2 = .slice a ot.length c := oO.2.2.1.shape
  obtain ⟨os3, ok3, rfl⟩ : ∃ a c, ov3 = .slice a ou.length c := oO.2.2.2.1.shape
  obtain ⟨os4, ok4, rfl⟩ : ∃ a c, ov4 = .slice a on.length c := oO.2.2.2.2.shape
  have BO := Blk.new w3 34 #[.int .i64 OC, .int .i64 OA, .int .i64 OV, .slice os0 od.length ok0, .slice os1 ob.length ok1, .slice os2 ot.length ok2, .slice os3 ou.length ok3, .slice os4 on.length ok4]
  have hb : Below w3.heap.size w3 (w3.alloc (.cells #[.int .i64 OC, .int .i64 OA, .int .i64 OV, .slice os0 od.length ok0, .slice os1 ob.length ok1, .slice os2 ot.length ok2, .slice os3 ou.length ok3, .slice os4 on.length ok4] 34)) := by go_grown
  replace oR := repB oR hb
  replace oO := repB oO hb
  replace oT := txnB oT hb
  replace BR := BR.below hb
  replace BT := BT.below hb
  replace hg := hg.below hb
  replace b0 := b0.trans (hb.mono b0.size)
  clear hb
  go_wp2_with fail
  generalize w3.alloc (.cells #[.int .i64 OC, .int .i64 OA, .int .i64 OV, .slice os0 od.length ok0, .slice os1 ob.length ok1, .slice os2 ot.length ok2, .slice os3 ou.length ok3, .slice os4 on.length ok4] 34) = X2 at *
  refine (drawDropTent_any a cap zs X2 (h.below b0) hu hle).mono ?_
  rintro e w4 ⟨XX, rfl, hnX, oX, hb⟩
  replace oR := repB oR hb
  replace oO := repB oO hb
  replace oT := txnB oT hb
  replace BR := BR.below hb
  replace BT := BT.below hb
  replace BO := BO.below hb
  replace hg := hg.below hb
  replace b0 := b0.trans (hb.mono b0.size)
  clear hb
  obtain ⟨xv0, xd, xv1, xb, xv2, xt, xv3, xu, xv4, xn⟩ := XX
  obtain ⟨xs0, xk0, rfl⟩ : ∃ a c, xv0 = .slice a xd.length c := oX.1.shape
  obtain ⟨xs1, xk1, rfl⟩ : ∃ a c, xv1 = .slice a xb.length c := oX.2.1.shape
  obtain ⟨xs2, xk2, rfl⟩ : ∃ a c, xv2 = .slice a xt.length c := oX.2.2.1.shape
  obtain ⟨xs3, xk3, rfl⟩ : ∃ a c, xv3 = .slice a xu.length c := oX.2.2.2.1.shape
  obtain ⟨xs4, xk4, rfl⟩ : ∃ a c, xv4 = .slice a xn.length c := oX.2.2.2.2.shape
  have hlX : RepQ.n (⟨.slice xs0 xd.length xk0, xd, .slice xs1 xb.length xk1, xb, .slice xs2 xt.length xk2, xt, .slice xs3 xu.length xk3, xu, .slice xs4 xn.length xk4, xn⟩ : RepQ) ≤ 1048576 := by omega
  have BX := Blk.new w4 32 #[.slice xs0 xd.length xk0, .slice xs1 xb.length xk1, .slice xs2 xt.length xk2, .slice xs3 xu.length xk3, .slice xs4 xn.length xk4]
  have hb : Below w4.heap.size w4 (w4.alloc (.cells #[.slice xs0 xd.length xk0, .slice xs1 xb.length xk1, .slice xs2 xt.length xk2, .slice xs3 xu.length xk3, .slice xs4 xn.length xk4] 32)) := by go_grown
  replace oR := repB oR hb
  replace oO := repB oO hb
  replace oX := repB oX hb
  replace oT := txnB oT hb
  replace BR := BR.below hb
  replace BT := BT.below hb
  replace BO := BO.below hb
  replace hg := hg.below hb
  replace b0 := b0.trans (hb.mono b0.size)
  clear hb
  have p0 := BX.cell 0 _ rfl
  have p1 := BX.cell 1 _ rfl
  have p2 := BX.cell 2 _ rfl
  have p3 := BX.cell 3 _ rfl
  have p4 := BX.cell 4 _ rfl
  go_wp2_with fail
  clear p0 p1 p2 p3 p4
  generalize w4.alloc (.cells #[.slice xs0 xd.length xk0, .slice xs1 xb.length xk1, .slice xs2 xt.length xk2, .slice xs3 xu.length xk3, .slice xs4 xn.length xk4] 32) = X3 at *
  have hSD := fun w h => specDropTent_any (⟨.slice xs0 xd.length xk0, xd, .slice xs1 xb.length xk1, xb, .slice xs2 xt.length xk2, xt, .slice xs3 xu.length xk3, xu, .slice xs4 xn.length xk4, xn⟩ : RepQ) w h hlX
  have HDL : Hid (repF (RepQ.e (⟨.slice xs0 xd.length xk0, xd, .slice xs1 xb.length xk1, xb, .slice xs2 xt.length xk2, xt, .slice xs3 xu.length xk3, xu, .slice xs4 xn.length xk4, xn⟩ : RepQ)) = 0 → drE (RepQ.e (⟨.slice xs0 xd.length xk0, xd, .slice xs1 xb.length xk1, xb, .slice xs2 xt.length xk2, xt, .slice xs3 xu.length xk3, xu, .slice xs4 xn.length xk4, xn⟩ : RepQ)) = mkR (xd.map TxnQ.e) [] ∧ repF (mkR (xd.map TxnQ.e) []) = 0 ∧ (mkR (xd.map TxnQ.e) []).now = xb ∧ drA (RepQ.e (⟨.slice xs0 xd.length xk0, xd, .slice xs1 xb.length xk1, xb, .slice xs2 xt.length xk2, xt, .slice xs3 xu.length xk3, xu, .slice xs4 xn.length xk4, xn⟩ : RepQ)) = (xt.length : Int)) := fun h0 => ⟨if_pos h0, (drop_right h0).1, (drop_right h0).2, (if_pos h0).trans (by simp [RepQ.e])⟩
  have hDT := fun w hg h => iDT (⟨.slice xs0 xd.length xk0, xd, .slice xs1 xb.length xk1, xb, .slice xs2 xt.length xk2, xt, .slice xs3 xu.length xk3, xu, .slice xs4 xn.length xk4, xn⟩ : RepQ) w hg h hlX
  dsimp only at hSD hDT
  generalize drA (RepQ.e (⟨.slice xs0 xd.length xk0, xd, .slice xs1 xb.length xk1, xb, .slice xs2 xt.length xk2, xt, .slice xs3 xu.length xk3, xu, .slice xs4 xn.length xk4, xn⟩ : RepQ)) = DA at *
  generalize drE (RepQ.e (⟨.slice xs0 xd.length xk0, xd, .slice xs1 xb.length xk1, xb, .slice xs2 xt.length xk2, xt, .slice xs3 xu.length xk3, xu, .slice xs4 xn.length xk4, xn⟩ : RepQ)) = DE at *
  generalize repF (RepQ.e (⟨.slice xs0 xd.length xk0, xd, .slice xs1 xb.length xk1, xb, .slice xs2 xt.length xk2, xt, .slice xs3 xu.length xk3, xu, .slice xs4 xn.length xk4, xn⟩ : RepQ)) = DC at *
  refine (hDT X3 hg oX).mono ?_
  rintro e w5 ⟨D, rfl, eD, oD, _, _, hb⟩
  clear hDT
  replace oR := repB oR hb
  replace oO := repB oO hb
  replace oX := repB oX hb
  replace oT := txnB oT hb
  replace BR := BR.below hb
  replace BT := BT.below hb
  replace BO := BO.below hb
  replace BX := BX.below hb
  replace hg := hg.below hb
  replace b0 := b0.trans (hb.mono b0.size)
  clear hb
  obtain ⟨dv0, dd, dv1, db, dv2, dt, dv3, du, dv4, dn⟩ := D
  obtain ⟨ds0, dk0, rfl⟩ : ∃ a c, dv0 = .slice a dd.length c := oD.1.shape
  obtain ⟨ds1, dk1, rfl⟩ : ∃ a c, dv1 = .slice a db.length c := oD.2.1.shape
  obtain ⟨ds2, dk2, rfl⟩ : ∃ a c, dv2 = .slice a dt.length c := oD.2.2.1.shape
  obtain ⟨ds3, dk3, rfl⟩ : ∃ a c, dv3 = .slice a du.length c := oD.2.2.2.1.shape
  obtain ⟨ds4, dk4, rfl⟩ : ∃ a c, dv4 = .slice a dn.length c := oD.2.2.2.2.shape
  have BD := Blk.new w5 34 #[.int .i64 DC, .int .i64 DA, .int .i64 0, .slice ds0 dd.length dk0, .slice ds1 db.length dk1, .slice ds2 dt.length dk2, .slice ds3 du.length dk3, .slice ds4 dn.length dk4]
  have hb : Below w5.heap.size w5 (w5.alloc (.cells #[.int .i64 DC, .int .i64 DA, .int .i64 0, .slice ds0 dd.length dk0, .slice ds1 db.length dk1, .slice ds2 dt.length dk2, .slice ds3 du.length dk3, .slice ds4 dn.length dk4] 34)) := by go_grown
  replace oR := repB oR hb
  replace oO := repB oO hb
  replace oX := repB oX hb
  replace oD := repB oD hb
  replace oT := txnB oT hb
  replace BR := BR.below hb
  replace BT := BT.below hb
  replace BO := BO.below hb
  replace BX := BX.below hb
  replace hg := hg.below hb
  replace b0 := b0.trans (hb.mono b0.size)
  clear hb
  go_wp2_with fail
  generalize w5.alloc (.cells #[.int .i64 DC, .int .i64 DA, .int .i64 0, .slice ds0 dd.length dk0, .slice ds1 db.length dk1, .slice ds2 dt.length dk2, .slice ds3 du.length dk3, .slice ds4 dn.length dk4] 34) = X at *
  have hZ7 := fun (w : World) hg => iRF rep0 w hg (rep0_own w).1 (Nat.le_trans (none_small (p := rep0) rfl) (by omega))
  rw [show repF rep0.e = 0 from rep_none] at hZ7
  dsimp only [rep0] at hZ7
  have hdd : (DC != DC) = false := by simp
  by_cases hD : DC = 0
  · obtain ⟨hE0, hE1, hE2, hE3⟩ := HDL.out hD
    have hDe : RepQ.e (⟨.slice ds0 dd.length dk0, dd, .slice ds1 db.length dk1, db, .slice ds2 dt.length dk2, dt, .slice ds3 du.length dk3, du, .slice ds4 dn.length dk4, dn⟩ : RepQ) = mkR (xd.map TxnQ.e) [] := eD.trans hE0
    have hDn : dn = xb := (congrArg RepE.now hDe).trans hE2
    have hDF : repF (RepQ.e (⟨.slice ds0 dd.length dk0, dd, .slice ds1 db.length dk1, db, .slice ds2 dt.length dk2, dt, .slice ds3 du.length dk3, du, .slice ds4 dn.length dk4, dn⟩ : RepQ)) = 0 := by rw [hDe]; exact hE1
    have hlD0 := rep_small hDF
    have hR7 := fun w hg h => iRF (⟨.slice ds0 dd.length dk0, dd, .slice ds1 db.length dk1, db, .slice ds2 dt.length dk2, dt, .slice ds3 du.length dk3, du, .slice ds4 dn.length dk4, dn⟩ : RepQ) w hg h (by omega)
    rw [hDF] at hR7
    have hlxb : xb.length ≤ 1048576 := by have := hlX; dsimp only [RepQ.n] at this; omega
    have hS7 := fun w h h' => iSI (.slice ds4 dn.length dk4) (.slice xs1 xb.length xk1) dn xb w h h' (by rw [hDn]; exact hlxb) hlxb
    rw [show sameIs dn xb = true by rw [hDn]; exact sameIs_refl xb] at hS7
    have hda : (DA != (xt.length : Int)) = false := by rw [hE3]; simp
    dsimp only at hR7
    clear hE0 hE1 hE2 hDe hDn hDF hlD0 eD
    subst hD
    have l0 := BD.lat 0 _ rfl
    have l1 := BD.lat 1 _ rfl
    have l2 := BD.lat 2 _ rfl
    have l3 := BD.lat 3 _ rfl
    have l4 := BD.lat 4 _ rfl
    have l5 := BD.lat 5 _ rfl
    have l6 := BD.lat 6 _ rfl
    have l7 := BD.lat 7 _ rfl
    have m0 := BX.lat 0 _ rfl
    have m1 := BX.lat 1 _ rfl
    have m2 := BX.lat 2 _ rfl
    have m3 := BX.lat 3 _ rfl
    have m4 := BX.lat 4 _ rfl
    have hW : Below X.heap.size X X.drew := (Below.refl _ _).drew
    have hnn : Nonempty (Lat X) := ⟨⟨X, Below.refl _ _⟩⟩
    refine text_begin (S := fun w' => ∃ u : Lat X, w' = u.val) (by kernel_rfl) ?_
    refine seg_range [(0, 3)] 36 (by kernel_rfl) (by kernel_rfl) (by kernel_rfl) (by kernel_rfl) (by kernel_rfl) ⟨⟨_, hW⟩, rfl⟩ ?_
    simp only [pickR, List.toList_toArray, List.flatMap_cons, List.flatMap_nil, List.drop_succ_cons, List.drop_zero, List.take_succ_cons, List.take_zero, List.cons_append, List.nil_append, List.append_nil]
    repeat go_big_quiet_step (fail)
    refine wpQuiet_nil ?_
    refine call_at 3 (some 27) 10 #[.agg #[.slice xs0 xd.length xk0, .slice xs1 xb.length xk1, .slice xs2 xt.length xk2, .slice xs3 xu.length xk3, .slice xs4 xn.length xk4]] 35 (by kernel_rfl) (by kernel_rfl) (by kernel_rfl) (by kernel_rfl) (by kernel_rfl) ?_
    refine (hSD _ (repB oX hW)).mono ?_
    rintro e w9 ⟨Q7, rfl, _, o7, _, _, hb9⟩
    replace hW := hW.trans (hb9.mono hW.size)
    obtain ⟨yv0, yd, yv1, yb, yv2, yt, yv3, yu, yv4, yn⟩ := Q7
    obtain ⟨ys0, yk0, rfl⟩ : ∃ a c, yv0 = .slice a yd.length c := o7.1.shape
    obtain ⟨ys1, yk1, rfl⟩ : ∃ a c, yv1 = .slice a yb.length c := o7.2.1.shape
    obtain ⟨ys2, yk2, rfl⟩ : ∃ a c, yv2 = .slice a yt.length c := o7.2.2.1.shape
    obtain ⟨ys3, yk3, rfl⟩ : ∃ a c, yv3 = .slice a yu.length c := o7.2.2.2.1.shape
    obtain ⟨ys4, yk4, rfl⟩ : ∃ a c, yv4 = .slice a yn.length c := o7.2.2.2.2.shape
    clear o7
    clear hb9
    refine ⟨_, rfl, ⟨⟨_, hW⟩, rfl⟩, ?_⟩
    simp only [Act.put, List.setIfInBounds_toArray, List.set_cons_zero, List.set_cons_succ]
    refine quiet_at 4 (some 28) (.int .i64 0) 34 (by kernel_rfl) (by kernel_rfl) (by kernel_rfl) (by kernel_rfl) (by kernel_rfl) (fun u _ => by kernel_rfl) ⟨⟨_, hW⟩, rfl⟩ ?_
    simp only [Act.put, List.setIfInBounds_toArray, List.set_cons_zero, List.set_cons_succ]
    refine seg_range [(5, 8)] 26 (by kernel_rfl) (by kernel_rfl) (by kernel_rfl) (by kernel_rfl) (by kernel_rfl) ⟨⟨_, hW⟩, rfl⟩ ?_
    simp only [pickR, List.toList_toArray, List.flatMap_cons, List.flatMap_nil, List.drop_succ_cons, List.drop_zero, List.take_succ_cons, List.take_zero, List.cons_append, List.nil_append, List.append_nil]
    repeat go_big_quiet_step (fail)
    refine wpQuiet_nil ?_
    refine call_at 13 (some 37) 33 #[.agg #[.slice ds0 dd.length dk0, .slice ds1 db.length dk1, .slice ds2 dt.length dk2, .slice ds3 du.length dk3, .slice ds4 dn.length dk4]] 25 (by kernel_rfl) (by kernel_rfl) (by kernel_rfl) (by kernel_rfl) (by kernel_rfl) ?_
    refine (hR7 _ (hg.below hW) (repB oD hW)).mono ?_
    rintro e w9 ⟨rfl, hb9⟩
    replace hW := hW.trans (hb9.mono hW.size)
    clear hb9
    refine ⟨_, rfl, ⟨⟨_, hW⟩, rfl⟩, ?_⟩
    simp only [Act.put, List.setIfInBounds_toArray, List.set_cons_zero, List.set_cons_succ]
    refine seg_range [(14, 7)] 18 (by kernel_rfl) (by kernel_rfl) (by kernel_rfl) (by kernel_rfl) (by kernel_rfl) ⟨⟨_, hW⟩, rfl⟩ ?_
    simp only [pickR, List.toList_toArray, List.flatMap_cons, List.flatMap_nil, List.drop_succ_cons, List.drop_zero, List.take_succ_cons, List.take_zero, List.cons_append, List.nil_append, List.append_nil]
    repeat go_big_quiet_step (fail)
    refine wpQuiet_nil ?_
    refine call_at 21 (some 45) 34 #[.slice ds4 dn.length dk4, .slice xs1 xb.length xk1] 17 (by kernel_rfl) (by kernel_rfl) (by kernel_rfl) (by kernel_rfl) (by kernel_rfl) ?_
    refine (hS7 _ (repB oD hW).2.2.2.2 (repB oX hW).2.1).mono ?_
    rintro e w9 ⟨rfl, hb9⟩
    replace hW := hW.trans (hb9.mono hW.size)
    clear hb9
    refine ⟨_, rfl, ⟨⟨_, hW⟩, rfl⟩, ?_⟩
    simp only [Act.put, List.setIfInBounds_toArray, List.set_cons_zero, List.set_cons_succ]
    refine seg_range [(22, 7)] 10 (by kernel_rfl) (by kernel_rfl) (by kernel_rfl) (by kernel_rfl) (by kernel_rfl) ⟨⟨_, hW⟩, rfl⟩ ?_
    simp only [pickR, List.toList_toArray, List.flatMap_cons, List.flatMap_nil, List.drop_succ_cons, List.drop_zero, List.take_succ_cons, List.take_zero, List.cons_append, List.nil_append, List.append_nil]
    repeat go_big_quiet_step (fail)
    refine wpQuiet_nil ?_
    refine quiet_at 29 (some 53) (.int .i64 xt.length) 9 (by kernel_rfl) (by kernel_rfl) (by kernel_rfl) (by kernel_rfl) (by kernel_rfl) (fun u _ => by kernel_rfl) ⟨⟨_, hW⟩, rfl⟩ ?_
    simp only [Act.put, List.setIfInBounds_toArray, List.set_cons_zero, List.set_cons_succ]
    refine seg_range [(30, 5)] 4 (by kernel_rfl) (by kernel_rfl) (by kernel_rfl) (by kernel_rfl) (by kernel_rfl) ⟨⟨_, hW⟩, rfl⟩ ?_
    simp only [pickR, List.toList_toArray, List.flatMap_cons, List.flatMap_nil, List.drop_succ_cons, List.drop_zero, List.take_succ_cons, List.take_zero, List.cons_append, List.nil_append, List.append_nil]
    repeat go_big_quiet_step (fail)
    refine wpQuiet_nil ?_
    refine quiet_at 35 (some 59) (.agg #[.slice none 0 0, .slice none 0 0, .slice none 0 0, .slice none 0 0, .slice none 0 0]) 3 (by kernel_rfl) (by kernel_rfl) (by kernel_rfl) (by kernel_rfl) (by kernel_rfl) (fun u _ => by kernel_rfl) ⟨⟨_, hW⟩, rfl⟩ ?_
    simp only [Act.put, List.setIfInBounds_toArray, List.set_cons_zero, List.set_cons_succ]
    refine call_at 36 (some 60) 33 #[.agg #[.slice none 0 0, .slice none 0 0, .slice none 0 0, .slice none 0 0, .slice none 0 0]] 2 (by kernel_rfl) (by kernel_rfl) (by kernel_rfl) (by kernel_rfl) (by kernel_rfl) ?_
    refine (hZ7 _ (hg.below hW)).mono ?_
    rintro e w9 ⟨rfl, hb9⟩
    replace hW := hW.trans (hb9.mono hW.size)
    clear hb9
    refine ⟨_, rfl, ⟨⟨_, hW⟩, rfl⟩, ?_⟩
    simp only [Act.put, List.setIfInBounds_toArray, List.set_cons_zero, List.set_cons_succ]
    refine seg_range [(37, 2)] 0 (by kernel_rfl) (by kernel_rfl) (by kernel_rfl) (by kernel_rfl) (by kernel_rfl) ⟨⟨_, hW⟩, rfl⟩ ?_
    simp only [pickR, List.toList_toArray, List.flatMap_cons, List.flatMap_nil, List.drop_succ_cons, List.drop_zero, List.take_succ_cons, List.take_zero, List.cons_append, List.nil_append, List.append_nil]
    repeat go_big_quiet_step (fail)
    refine wpQuiet_nil ?_
    clear hS7 hda hE3
    refine text_end (by kernel_rfl) ?_
    replace oR := repB oR hW
    replace oT := txnB oT hW
    replace oO := repB oO hW
    replace BR := BR.below hW
    replace BT := BT.below hW
    replace BO := BO.below hW
    replace hg := hg.below hW
    replace b0 := b0.trans (hW.mono b0.size)
    clear l0 l1 l2 l3 l4 l5 l6 l7 m0 m1 m2 m3 m4 hnn hW hSD hZ7 oX oD BX BD HDL hR7
    rename World => X4
    by_cases hO : OC = 0
    · obtain ⟨hE0, hE1, hE2, hE3, hE4, hE5⟩ := HPL.out hO
      subst hO
      have hOm : RepQ.e (⟨.slice os0 od.length ok0, od, .slice os1 ob.length ok1, ob, .slice os2 ot.length ok2, ot, .slice os3 ou.length ok3, ou, .slice os4 on.length ok4, on⟩ : RepQ) = mkR (rd.map TxnQ.e) (rt.map TxnQ.e ++ [(⟨ti, ts, tq, txs⟩ : TxnD)]) := eO.trans hE0
      have hOF : repF (RepQ.e (⟨.slice os0 od.length ok0, od, .slice os1 ob.length ok1, ob, .slice os2 ot.length ok2, ot, .slice os3 ou.length ok3, ou, .slice os4 on.length ok4, on⟩ : RepQ)) = 0 := by rw [hOm]; exact hE1
      have hlO0 := rep_small hOF
      have hlO : RepQ.n (⟨.slice os0 od.length ok0, od, .slice os1 ob.length ok1, ob, .slice os2 ot.length ok2, ot, .slice os3 ou.length ok3, ou, .slice os4 on.length ok4, on⟩ : RepQ) ≤ 1048576 := by omega
      have hTK : taC on (ou.map USQ.e) = 0 ∧ taI on (ou.map USQ.e) = rb := by
        have hb := opt_back hE1
        rw [← hOm, ← hE2] at hb
        exact hb
      have hOB : ob = rb := (congrArg RepE.base hOm).trans hE2.symm
      have hTA := fun w h1 h2 => iTK (.slice os4 on.length ok4) (.slice os3 ou.length ok3) on ou w h1 h2 (by have := hlO0; dsimp only [RepQ.n] at this; omega) (by have := hlO0; dsimp only [RepQ.n] at this; omega)
      rw [hTK.1, hTK.2] at hTA
      have hAG := fun w hg h hT => iOP (⟨.slice os0 od.length ok0, od, .slice os1 ob.length ok1, ob, .slice os2 ot.length ok2, ot, .slice os3 ou.length ok3, ou, .slice os4 on.length ok4, on⟩ : RepQ) (⟨ti, ts, tq, .slice ta txs.length tk, txs⟩ : TxnQ) w hg h hT hlO hlT
      have hOC6 : opC (RepQ.e (⟨.slice os0 od.length ok0, od, .slice os1 ob.length ok1, ob, .slice os2 ot.length ok2, ot, .slice os3 ou.length ok3, ou, .slice os4 on.length ok4, on⟩ : RepQ)) (TxnQ.e (⟨ti, ts, tq, .slice ta txs.length tk, txs⟩ : TxnQ)) = 6 := by rw [hOm]; exact hE3
      rw [hOC6] at hAG
      have hRO := fun w hg h => iRF (⟨.slice os0 od.length ok0, od, .slice os1 ob.length ok1, ob, .slice os2 ot.length ok2, ot, .slice os3 ou.length ok3, ou, .slice os4 on.length ok4, on⟩ : RepQ) w hg h hlO
      rw [hOF] at hRO
      have hlrb : rb.length ≤ 1048576 := by have := hlR; dsimp only [RepQ.n] at this; omega
      have hSB := fun w h h' => iSI (.slice os1 ob.length ok1) (.slice rs1 rb.length rk1) ob rb w h h' (by rw [hOB]; exact hlrb) hlrb
      rw [show sameIs ob rb = true by rw [hOB]; exact sameIs_refl rb] at hSB
      have hAc := fun (w : World) (h : txnK.own w (⟨ti, ts, tq, .slice ta txs.length tk, txs⟩ : TxnQ)) => acts_row (txnK.own_rd h)
      have hEX := fun w h1 h2 => implExecTxn_any rs4 rk4 rn ti ts tq ta tk txs w h1 h2 (by have := hlR; dsimp only [RepQ.n] at this; omega) (Nat.le_trans hnT (by omega))
      rw [hE4, hE5] at hEX
      have HEO : Hid (RepQ.e (⟨.slice os0 od.length ok0, od, .slice os1 ob.length ok1, ob, .slice os2 ot.length ok2, ot, .slice os3 ou.length ok3, ou, .slice os4 on.length ok4, on⟩ : RepQ) = OE) := eO
      generalize opA (RepQ.e (⟨.slice os0 od.length ok0, od, .slice os1 ob.length ok1, ob, .slice os2 ot.length ok2, ot, .slice os3 ou.length ok3, ou, .slice os4 on.length ok4, on⟩ : RepQ)) (TxnQ.e (⟨ti, ts, tq, .slice ta txs.length tk, txs⟩ : TxnQ)) = GA at *
      generalize opV (RepQ.e (⟨.slice os0 od.length ok0, od, .slice os1 ob.length ok1, ob, .slice os2 ot.length ok2, ot, .slice os3 ou.length ok3, ou, .slice os4 on.length ok4, on⟩ : RepQ)) (TxnQ.e (⟨ti, ts, tq, .slice ta txs.length tk, txs⟩ : TxnQ)) = GV at *
      generalize opE (RepQ.e (⟨.slice os0 od.length ok0, od, .slice os1 ob.length ok1, ob, .slice os2 ot.length ok2, ot, .slice os3 ou.length ok3, ou, .slice os4 on.length ok4, on⟩ : RepQ)) (TxnQ.e (⟨ti, ts, tq, .slice ta txs.length tk, txs⟩ : TxnQ)) = GE at *
      generalize exR rn ti ts tq txs = XL at *
      dsimp only at hTA hAG hRO
      clear hE0 hE1 hE2 hE3 hE4 hE5 hOm hOF hTK hOB hOC6 eO HPL HSM hRF hSF
      have c0 := BO.cell 0 _ rfl
      have c6 := BO.cell 6 _ rfl
      have c7 := BO.cell 7 _ rfl
      go_wp2_with fail
      refine (hTA X4 oO.2.2.2.2 oO.2.2.2.1).mono ?_
      rintro e w6 ⟨vk, kl, rfl, ek, oK, hb⟩
      clear hTA c0 c6 c7
      replace oR := repB oR hb
      replace oT := txnB oT hb
      replace oO := repB oO hb
      replace BR := BR.below hb
      replace BT := BT.below hb
      replace BO := BO.below hb
      replace hg := hg.below hb
      replace b0 := b0.trans (hb.mono b0.size)
      clear hb
      obtain ⟨ka, kc, rfl⟩ := oK.shape
      have hSK := fun w h h' => iSI (.slice ka kl.length kc) (.slice rs1 rb.length rk1) kl rb w h h' (by rw [ek]; exact hlrb) hlrb
      rw [show sameIs kl rb = true by rw [ek]; exact sameIs_refl rb] at hSK
      clear ek
      have BK := Blk.new w6 68 #[.int .i64 0, .int .i64 0, .slice ka kl.length kc]
      have hb : Below w6.heap.size w6 (w6.alloc (.cells #[.int .i64 0, .int .i64 0, .slice ka kl.length kc] 68)) := by go_grown
      replace oR := repB oR hb
      replace oT := txnB oT hb
      replace oO := repB oO hb
      replace oK := oK.below hb
      replace BR := BR.below hb
      replace BT := BT.below hb
      replace BO := BO.below hb
      replace hg := hg.below hb
      replace b0 := b0.trans (hb.mono b0.size)
      clear hb
      have c3 := BO.cell 3 _ rfl
      have c4 := BO.cell 4 _ rfl
      have c5 := BO.cell 5 _ rfl
      have c6 := BO.cell 6 _ rfl
      have c7 := BO.cell 7 _ rfl
      have f0 := BT.cell 0 _ rfl
      have f1 := BT.cell 1 _ rfl
      have f2 := BT.cell 2 _ rfl
      have f3 := BT.cell 3 _ rfl
      go_wp2_with fail
      generalize w6.alloc (.cells #[.int .i64 0, .int .i64 0, .slice ka kl.length kc] 68) = X5 at *
      clear c3 c4 c5 c6 c7 f0 f1 f2 f3
      refine (hAG X5 hg oO oT).mono ?_
      rintro e w7 ⟨G, rfl, _, oG, _, _, hb⟩
      clear hAG
      replace oR := repB oR hb
      replace oT := txnB oT hb
      replace oO := repB oO hb
      replace oK := oK.below hb
      replace BR := BR.below hb
      replace BT := BT.below hb
      replace BO := BO.below hb
      replace BK := BK.below hb
      replace hg := hg.below hb
      replace b0 := b0.trans (hb.mono b0.size)
      clear hb
      obtain ⟨gv0, gd, gv1, gb, gv2, gt, gv3, gu, gv4, gn⟩ := G
      obtain ⟨gs0, gk0, rfl⟩ : ∃ a c, gv0 = .slice a gd.length c := oG.1.shape
      obtain ⟨gs1, gk1, rfl⟩ : ∃ a c, gv1 = .slice a gb.length c := oG.2.1.shape
      obtain ⟨gs2, gk2, rfl⟩ : ∃ a c, gv2 = .slice a gt.length c := oG.2.2.1.shape
      obtain ⟨gs3, gk3, rfl⟩ : ∃ a c, gv3 = .slice a gu.length c := oG.2.2.2.1.shape
      obtain ⟨gs4, gk4, rfl⟩ : ∃ a c, gv4 = .slice a gn.length c := oG.2.2.2.2.shape
      clear oG
      have BG := Blk.new w7 34 #[.int .i64 6, .int .i64 GA, .int .i64 GV, .slice gs0 gd.length gk0, .slice gs1 gb.length gk1, .slice gs2 gt.length gk2, .slice gs3 gu.length gk3, .slice gs4 gn.length gk4]
      have hb : Below w7.heap.size w7 (w7.alloc (.cells #[.int .i64 6, .int .i64 GA, .int .i64 GV, .slice gs0 gd.length gk0, .slice gs1 gb.length gk1, .slice gs2 gt.length gk2, .slice gs3 gu.length gk3, .slice gs4 gn.length gk4] 34)) := by go_grown
      replace oR := repB oR hb
      replace oT := txnB oT hb
      replace oO := repB oO hb
      replace oK := oK.below hb
      replace BR := BR.below hb
      replace BT := BT.below hb
      replace BO := BO.below hb
      replace BK := BK.below hb
      replace hg := hg.below hb
      replace b0 := b0.trans (hb.mono b0.size)
      clear hb
      go_wp2_with fail
      generalize w7.alloc (.cells #[.int .i64 6, .int .i64 GA, .int .i64 GV, .slice gs0 gd.length gk0, .slice gs1 gb.length gk1, .slice gs2 gt.length gk2, .slice gs3 gu.length gk3, .slice gs4 gn.length gk4] 34) = X6 at *
      have e1 : (OA == OA) = true := by simp
      have e2 : (OV == OV) = true := by simp
      have l0 := BO.lat 0 _ rfl
      have l1 := BO.lat 1 _ rfl
      have l2 := BO.lat 2 _ rfl
      have l3 := BO.lat 3 _ rfl
      have l4 := BO.lat 4 _ rfl
      have l5 := BO.lat 5 _ rfl
      have l6 := BO.lat 6 _ rfl
      have l7 := BO.lat 7 _ rfl
      have m0 := BR.lat 0 _ rfl
      have m1 := BR.lat 1 _ rfl
      have m2 := BR.lat 2 _ rfl
      have m3 := BR.lat 3 _ rfl
      have m4 := BR.lat 4 _ rfl
      have n0 := BT.lat 0 _ rfl
      have n1 := BT.lat 1 _ rfl
      have n2 := BT.lat 2 _ rfl
      have n3 := BT.lat 3 _ rfl
      have k0 := BK.lat 0 _ rfl
      have k2 := BK.lat 2 _ rfl
      have g0 := BG.lat 0 _ rfl
      have hW : Below X6.heap.size X6 X6.drew := (Below.refl _ _).drew
      have hnn : Nonempty (Lat X6) := ⟨⟨X6, Below.refl _ _⟩⟩
      refine text_begin (S := fun w' => ∃ u : Lat X6, w' = u.val) (by kernel_rfl) ?_
      refine seg_range [(0, 2)] 57 (by kernel_rfl) (by kernel_rfl) (by kernel_rfl) (by kernel_rfl) (by kernel_rfl) ⟨⟨_, hW⟩, rfl⟩ ?_
      simp only [pickR, List.toList_toArray, List.flatMap_cons, List.flatMap_nil, List.drop_succ_cons, List.drop_zero, List.take_succ_cons, List.take_zero, List.cons_append, List.nil_append, List.append_nil]
      repeat go_big_quiet_step (fail)
      refine wpQuiet_nil ?_
      refine call_at 2 (some 93) 33 #[.agg #[.slice os0 od.length ok0, .slice os1 ob.length ok1, .slice os2 ot.length ok2, .slice os3 ou.length ok3, .slice os4 on.length ok4]] 56 (by kernel_rfl) (by kernel_rfl) (by kernel_rfl) (by kernel_rfl) (by kernel_rfl) ?_
      refine (hRO _ (hg.below hW) (repB oO hW)).mono ?_
      rintro e w9 ⟨rfl, hb9⟩
      replace hW := hW.trans (hb9.mono hW.size)
      clear hb9
      refine ⟨_, rfl, ⟨⟨_, hW⟩, rfl⟩, ?_⟩
      simp only [Act.put, List.setIfInBounds_toArray, List.set_cons_zero, List.set_cons_succ]
      refine seg_range [(3, 7)] 49 (by kernel_rfl) (by kernel_rfl) (by kernel_rfl) (by kernel_rfl) (by kernel_rfl) ⟨⟨_, hW⟩, rfl⟩ ?_
      simp only [pickR, List.toList_toArray, List.flatMap_cons, List.flatMap_nil, List.drop_succ_cons, List.drop_zero, List.take_succ_cons, List.take_zero, List.cons_append, List.nil_append, List.append_nil]
      repeat go_big_quiet_step (fail)
      refine wpQuiet_nil ?_
      refine call_at 10 (some 101) 34 #[.slice os1 ob.length ok1, .slice rs1 rb.length rk1] 48 (by kernel_rfl) (by kernel_rfl) (by kernel_rfl) (by kernel_rfl) (by kernel_rfl) ?_
      refine (hSB _ (repB oO hW).2.1 (repB oR hW).2.1).mono ?_
      rintro e w9 ⟨rfl, hb9⟩
      replace hW := hW.trans (hb9.mono hW.size)
      clear hb9
      refine ⟨_, rfl, ⟨⟨_, hW⟩, rfl⟩, ?_⟩
      simp only [Act.put, List.setIfInBounds_toArray, List.set_cons_zero, List.set_cons_succ]
      refine seg_range [(11, 11)] 37 (by kernel_rfl) (by kernel_rfl) (by kernel_rfl) (by kernel_rfl) (by kernel_rfl) ⟨⟨_, hW⟩, rfl⟩ ?_
      simp only [pickR, List.toList_toArray, List.flatMap_cons, List.flatMap_nil, List.drop_succ_cons, List.drop_zero, List.take_succ_cons, List.take_zero, List.cons_append, List.nil_append, List.append_nil]
      repeat go_big_quiet_step (fail)
      refine wpQuiet_nil ?_
      refine call_at 22 (some 113) 34 #[.slice ka kl.length kc, .slice rs1 rb.length rk1] 36 (by kernel_rfl) (by kernel_rfl) (by kernel_rfl) (by kernel_rfl) (by kernel_rfl) ?_
      refine (hSK _ (oK.below hW) (repB oR hW).2.1).mono ?_
      rintro e w9 ⟨rfl, hb9⟩
      replace hW := hW.trans (hb9.mono hW.size)
      clear hb9
      refine ⟨_, rfl, ⟨⟨_, hW⟩, rfl⟩, ?_⟩
      simp only [Act.put, List.setIfInBounds_toArray, List.set_cons_zero, List.set_cons_succ]
      refine seg_range [(23, 12)] 24 (by kernel_rfl) (by kernel_rfl) (by kernel_rfl) (by kernel_rfl) (by kernel_rfl) ⟨⟨_, hW⟩, rfl⟩ ?_
      simp only [pickR, List.toList_toArray, List.flatMap_cons, List.flatMap_nil, List.drop_succ_cons, List.drop_zero, List.take_succ_cons, List.take_zero, List.cons_append, List.nil_append, List.append_nil]
      repeat go_big_quiet_step (fail)
      refine wpQuiet_nil ?_
      refine call_at 35 (some 126) 37 #[.slice rs4 rn.length rk4, .agg #[.int .i64 ti, .int .i64 ts, .int .i64 tq, .slice ta txs.length tk]] 23 (by kernel_rfl) (by kernel_rfl) (by kernel_rfl) (by kernel_rfl) (by kernel_rfl) ?_
      refine (hEX _ (itemK_at9 (repB oR hW).2.2.2.2.at) (hAc _ (txnB oT hW))).mono ?_
      rintro e w9 ⟨ea126, ec126, rfl, _, hb9⟩
      replace hW := hW.trans (hb9.mono hW.size)
      clear hb9
      refine ⟨_, rfl, ⟨⟨_, hW⟩, rfl⟩, ?_⟩
      simp only [Act.put, List.setIfInBounds_toArray, List.set_cons_zero, List.set_cons_succ]
      refine quiet_at 36 (some 127) (.int .i64 OA) 22 (by kernel_rfl) (by kernel_rfl) (by kernel_rfl) (by kernel_rfl) (by kernel_rfl) (fun u _ => by kernel_rfl) ⟨⟨_, hW⟩, rfl⟩ ?_
      simp only [Act.put, List.setIfInBounds_toArray, List.set_cons_zero, List.set_cons_succ]
      refine seg_range [(37, 8)] 14 (by kernel_rfl) (by kernel_rfl) (by kernel_rfl) (by kernel_rfl) (by kernel_rfl) ⟨⟨_, hW⟩, rfl⟩ ?_
      simp only [pickR, List.toList_toArray, List.flatMap_cons, List.flatMap_nil, List.drop_succ_cons, List.drop_zero, List.take_succ_cons, List.take_zero, List.cons_append, List.nil_append, List.append_nil]
      repeat go_big_quiet_step (fail)
      refine wpQuiet_nil ?_
      refine call_at 45 (some 136) 37 #[.slice rs4 rn.length rk4, .agg #[.int .i64 ti, .int .i64 ts, .int .i64 tq, .slice ta txs.length tk]] 13 (by kernel_rfl) (by kernel_rfl) (by kernel_rfl) (by kernel_rfl) (by kernel_rfl) ?_
      refine (hEX _ (itemK_at9 (repB oR hW).2.2.2.2.at) (hAc _ (txnB oT hW))).mono ?_
      rintro e w9 ⟨ea136, ec136, rfl, _, hb9⟩
      replace hW := hW.trans (hb9.mono hW.size)
      clear hb9
      refine ⟨_, rfl, ⟨⟨_, hW⟩, rfl⟩, ?_⟩
      simp only [Act.put, List.setIfInBounds_toArray, List.set_cons_zero, List.set_cons_succ]
      refine quiet_at 46 (some 137) (.int .i64 OV) 12 (by kernel_rfl) (by kernel_rfl) (by kernel_rfl) (by kernel_rfl) (by kernel_rfl) (fun u _ => by kernel_rfl) ⟨⟨_, hW⟩, rfl⟩ ?_
      simp only [Act.put, List.setIfInBounds_toArray, List.set_cons_zero, List.set_cons_succ]
      refine seg_range [(47, 7)] 5 (by kernel_rfl) (by kernel_rfl) (by kernel_rfl) (by kernel_rfl) (by kernel_rfl) ⟨⟨_, hW⟩, rfl⟩ ?_
      simp only [pickR, List.toList_toArray, List.flatMap_cons, List.flatMap_nil, List.drop_succ_cons, List.drop_zero, List.take_succ_cons, List.take_zero, List.cons_append, List.nil_append, List.append_nil]
      repeat go_big_quiet_step (fail)
      refine wpQuiet_nil ?_
      refine call_at 54 (some 145) 19 #[.agg #[.slice rs0 rd.length rk0, .slice rs1 rb.length rk1, .slice rs2 rt.length rk2, .slice rs3 ru.length rk3, .slice rs4 rn.length rk4], .agg #[.int .i64 ti, .int .i64 ts, .int .i64 tq, .slice ta txs.length tk]] 4 (by kernel_rfl) (by kernel_rfl) (by kernel_rfl) (by kernel_rfl) (by kernel_rfl) ?_
      refine (hSO _ (repB oR hW) (txnB oT hW)).mono ?_
      rintro e w9 ⟨Q7, rfl, e7, o7, _, _, hb9⟩
      replace hW := hW.trans (hb9.mono hW.size)
      obtain ⟨yv0, yd, yv1, yb, yv2, yt, yv3, yu, yv4, yn⟩ := Q7
      obtain ⟨ys0, yk0, rfl⟩ : ∃ a c, yv0 = .slice a yd.length c := o7.1.shape
      obtain ⟨ys1, yk1, rfl⟩ : ∃ a c, yv1 = .slice a yb.length c := o7.2.1.shape
      obtain ⟨ys2, yk2, rfl⟩ : ∃ a c, yv2 = .slice a yt.length c := o7.2.2.1.shape
      obtain ⟨ys3, yk3, rfl⟩ : ∃ a c, yv3 = .slice a yu.length c := o7.2.2.2.1.shape
      obtain ⟨ys4, yk4, rfl⟩ : ∃ a c, yv4 = .slice a yn.length c := o7.2.2.2.2.shape
      clear hb9
      refine ⟨_, rfl, ⟨⟨_, hW⟩, rfl⟩, ?_⟩
      simp only [Act.put, List.setIfInBounds_toArray, List.set_cons_zero, List.set_cons_succ]
      refine quiet_at 55 (some 146) (.agg #[.slice ys0 yd.length yk0, .slice ys1 yb.length yk1, .slice ys2 yt.length yk2, .slice ys3 yu.length yk3, .slice ys4 yn.length yk4]) 3 (by kernel_rfl) (by kernel_rfl) (by kernel_rfl) (by kernel_rfl) (by kernel_rfl) (fun u _ => by kernel_rfl) ⟨⟨_, hW⟩, rfl⟩ ?_
      simp only [Act.put, List.setIfInBounds_toArray, List.set_cons_zero, List.set_cons_succ]
      refine call_at 56 (some 147) 38 #[.agg #[.slice os0 od.length ok0, .slice os1 ob.length ok1, .slice os2 ot.length ok2, .slice os3 ou.length ok3, .slice os4 on.length ok4], .agg #[.slice ys0 yd.length yk0, .slice ys1 yb.length yk1, .slice ys2 yt.length yk2, .slice ys3 yu.length yk3, .slice ys4 yn.length yk4]] 2 (by kernel_rfl) (by kernel_rfl) (by kernel_rfl) (by kernel_rfl) (by kernel_rfl) ?_
      refine (iSR (⟨.slice os0 od.length ok0, od, .slice os1 ob.length ok1, ob, .slice os2 ot.length ok2, ot, .slice os3 ou.length ok3, ou, .slice os4 on.length ok4, on⟩ : RepQ) (⟨.slice ys0 yd.length yk0, yd, .slice ys1 yb.length yk1, yb, .slice ys2 yt.length yk2, yt, .slice ys3 yu.length yk3, yu, .slice ys4 yn.length yk4, yn⟩ : RepQ) _ (repB oO hW) o7 (HEO.out.trans e7.symm) hlO (rep_n9 (HEO.out.trans e7.symm) hlO)).mono ?_
      rintro e w9 ⟨rfl, hb9⟩
      replace hW := hW.trans (hb9.mono hW.size)
      clear o7 e7
      clear hb9
      refine ⟨_, rfl, ⟨⟨_, hW⟩, rfl⟩, ?_⟩
      simp only [Act.put, List.setIfInBounds_toArray, List.set_cons_zero, List.set_cons_succ]
      refine seg_range [(57, 2)] 0 (by kernel_rfl) (by kernel_rfl) (by kernel_rfl) (by kernel_rfl) (by kernel_rfl) ⟨⟨_, hW⟩, rfl⟩ ?_
      simp only [pickR, List.toList_toArray, List.flatMap_cons, List.flatMap_nil, List.drop_succ_cons, List.drop_zero, List.take_succ_cons, List.take_zero, List.cons_append, List.nil_append, List.append_nil]
      repeat go_big_quiet_step (fail)
      refine wpQuiet_nil ?_
      refine text_end (by kernel_rfl) ?_
      replace b0 := b0.trans (hW.mono b0.size)
      go_wp2
      go_ret
      exact ⟨rfl, b0⟩
    · have hO' : (OC != 0) = true := by simpa using hO
      have e1 : (OC == OC) = true := by simp
      have e2 : (FR == FR) = true := by simp
      clear HPL HSM eO
      have c0 := BO.cell 0 _ rfl
      go_wp2_with fail
      clear c0
      have l0 := BO.lat 0 _ rfl
      have l1 := BO.lat 1 _ rfl
      have l2 := BO.lat 2 _ rfl
      have l3 := BO.lat 3 _ rfl
      have l4 := BO.lat 4 _ rfl
      have l5 := BO.lat 5 _ rfl
      have l6 := BO.lat 6 _ rfl
      have l7 := BO.lat 7 _ rfl
      have m0 := BR.lat 0 _ rfl
      have m1 := BR.lat 1 _ rfl
      have m2 := BR.lat 2 _ rfl
      have m3 := BR.lat 3 _ rfl
      have m4 := BR.lat 4 _ rfl
      have n0 := BT.lat 0 _ rfl
      have n1 := BT.lat 1 _ rfl
      have n2 := BT.lat 2 _ rfl
      have n3 := BT.lat 3 _ rfl
      have hW : Below X4.heap.size X4 X4.drew := (Below.refl _ _).drew
      have hnn : Nonempty (Lat X4) := ⟨⟨X4, Below.refl _ _⟩⟩
      refine text_begin (S := fun w' => ∃ u : Lat X4, w' = u.val) (by kernel_rfl) ?_
      refine seg_range [(0, 2), (4, 2)] 11 (by kernel_rfl) (by kernel_rfl) (by kernel_rfl) (by kernel_rfl) (by kernel_rfl) ⟨⟨_, hW⟩, rfl⟩ ?_
      simp only [pickR, List.toList_toArray, List.flatMap_cons, List.flatMap_nil, List.drop_succ_cons, List.drop_zero, List.take_succ_cons, List.take_zero, List.cons_append, List.nil_append, List.append_nil]
      repeat go_big_quiet_step (fail)
      refine wpQuiet_nil ?_
      refine call_at 2 (some 68) 19 #[.agg #[.slice rs0 rd.length rk0, .slice rs1 rb.length rk1, .slice rs2 rt.length rk2, .slice rs3 ru.length rk3, .slice rs4 rn.length rk4], .agg #[.int .i64 ti, .int .i64 ts, .int .i64 tq, .slice ta txs.length tk]] 10 (by kernel_rfl) (by kernel_rfl) (by kernel_rfl) (by kernel_rfl) (by kernel_rfl) ?_
      refine (hSO _ (repB oR hW) (txnB oT hW)).mono ?_
      rintro e w9 ⟨Q7, rfl, _, o7, _, _, hb9⟩
      replace hW := hW.trans (hb9.mono hW.size)
      obtain ⟨yv0, yd, yv1, yb, yv2, yt, yv3, yu, yv4, yn⟩ := Q7
      obtain ⟨ys0, yk0, rfl⟩ : ∃ a c, yv0 = .slice a yd.length c := o7.1.shape
      obtain ⟨ys1, yk1, rfl⟩ : ∃ a c, yv1 = .slice a yb.length c := o7.2.1.shape
      obtain ⟨ys2, yk2, rfl⟩ : ∃ a c, yv2 = .slice a yt.length c := o7.2.2.1.shape
      obtain ⟨ys3, yk3, rfl⟩ : ∃ a c, yv3 = .slice a yu.length c := o7.2.2.2.1.shape
      obtain ⟨ys4, yk4, rfl⟩ : ∃ a c, yv4 = .slice a yn.length c := o7.2.2.2.2.shape
      clear o7
      clear hb9
      refine ⟨_, rfl, ⟨⟨_, hW⟩, rfl⟩, ?_⟩
      simp only [Act.put, List.setIfInBounds_toArray, List.set_cons_zero, List.set_cons_succ]
      refine quiet_at 3 (some 69) (.int .i64 OC) 9 (by kernel_rfl) (by kernel_rfl) (by kernel_rfl) (by kernel_rfl) (by kernel_rfl) (fun u _ => by kernel_rfl) ⟨⟨_, hW⟩, rfl⟩ ?_
      simp only [Act.put, List.setIfInBounds_toArray, List.set_cons_zero, List.set_cons_succ]
      refine seg_range [(6, 3), (10, 1)] 5 (by kernel_rfl) (by kernel_rfl) (by kernel_rfl) (by kernel_rfl) (by kernel_rfl) ⟨⟨_, hW⟩, rfl⟩ ?_
      simp only [pickR, List.toList_toArray, List.flatMap_cons, List.flatMap_nil, List.drop_succ_cons, List.drop_zero, List.take_succ_cons, List.take_zero, List.cons_append, List.nil_append, List.append_nil]
      repeat go_big_quiet_step (fail)
      refine wpQuiet_nil ?_
      refine call_at 9 (some 75) 33 #[.agg #[.slice rs0 rd.length rk0, .slice rs1 rb.length rk1, .slice rs2 rt.length rk2, .slice rs3 ru.length rk3, .slice rs4 rn.length rk4]] 4 (by kernel_rfl) (by kernel_rfl) (by kernel_rfl) (by kernel_rfl) (by kernel_rfl) ?_
      refine (hRF _ (hg.below hW) (repB oR hW)).mono ?_
      rintro e w9 ⟨rfl, hb9⟩
      replace hW := hW.trans (hb9.mono hW.size)
      clear hb9
      refine ⟨_, rfl, ⟨⟨_, hW⟩, rfl⟩, ?_⟩
      simp only [Act.put, List.setIfInBounds_toArray, List.set_cons_zero, List.set_cons_succ]
      refine call_at 11 (some 77) 35 #[.agg #[.slice rs0 rd.length rk0, .slice rs1 rb.length rk1, .slice rs2 rt.length rk2, .slice rs3 ru.length rk3, .slice rs4 rn.length rk4]] 3 (by kernel_rfl) (by kernel_rfl) (by kernel_rfl) (by kernel_rfl) (by kernel_rfl) ?_
      refine (hSF _ (repB oR hW)).mono ?_
      rintro e w9 ⟨rfl, hb9⟩
      replace hW := hW.trans (hb9.mono hW.size)
      clear hb9
      refine ⟨_, rfl, ⟨⟨_, hW⟩, rfl⟩, ?_⟩
      simp only [Act.put, List.setIfInBounds_toArray, List.set_cons_zero, List.set_cons_succ]
      refine seg_range [(12, 3)] 0 (by kernel_rfl) (by kernel_rfl) (by kernel_rfl) (by kernel_rfl) (by kernel_rfl) ⟨⟨_, hW⟩, rfl⟩ ?_
      simp only [pickR, List.toList_toArray, List.flatMap_cons, List.flatMap_nil, List.drop_succ_cons, List.drop_zero, List.take_succ_cons, List.take_zero, List.cons_append, List.nil_append, List.append_nil]
      repeat go_big_quiet_step (fail)
      refine wpQuiet_nil ?_
      refine text_end (by kernel_rfl) ?_
      replace b0 := b0.trans (hW.mono b0.size)
      go_wp2
      go_ret
      exact ⟨rfl, b0⟩
  · have hD' : (DC == 0) = false := by simpa using hD
    have hR7 : True := trivial
    have l0 := BD.lat 0 _ rfl
    have l1 := BD.lat 1 _ rfl
    have l2 := BD.lat 2 _ rfl
    have l3 := BD.lat 3 _ rfl
    have l4 := BD.lat 4 _ rfl
    have l5 := BD.lat 5 _ rfl
    have l6 := BD.lat 6 _ rfl
    have l7 := BD.lat 7 _ rfl
    have m0 := BX.lat 0 _ rfl
    have m1 := BX.lat 1 _ rfl
    have m2 := BX.lat 2 _ rfl
    have m3 := BX.lat 3 _ rfl
    have m4 := BX.lat 4 _ rfl
    have hW : Below X.heap.size X X.drew := (Below.refl _ _).drew
    have hnn : Nonempty (Lat X) := ⟨⟨X, Below.refl _ _⟩⟩
    refine text_begin (S := fun w' => ∃ u : Lat X, w' = u.val) (by kernel_rfl) ?_
    refine seg_range [(0, 3)] 36 (by kernel_rfl) (by kernel_rfl) (by kernel_rfl) (by kernel_rfl) (by kernel_rfl) ⟨⟨_, hW⟩, rfl⟩ ?_
    simp only [pickR, List.toList_toArray, List.flatMap_cons, List.flatMap_nil, List.drop_succ_cons, List.drop_zero, List.take_succ_cons, List.take_zero, List.cons_append, List.nil_append, List.append_nil]
    repeat go_big_quiet_step (fail)
    refine wpQuiet_nil ?_
    refine call_at 3 (some 27) 10 #[.agg #[.slice xs0 xd.length xk0, .slice xs1 xb.length xk1, .slice xs2 xt.length xk2, .slice xs3 xu.length xk3, .slice xs4 xn.length xk4]] 35 (by kernel_rfl) (by kernel_rfl) (by kernel_rfl) (by kernel_rfl) (by kernel_rfl) ?_
    refine (hSD _ (repB oX hW)).mono ?_
    rintro e w9 ⟨Q7, rfl, _, o7, _, _, hb9⟩
    replace hW := hW.trans (hb9.mono hW.size)
    obtain ⟨yv0, yd, yv1, yb, yv2, yt, yv3, yu, yv4, yn⟩ := Q7
    obtain ⟨ys0, yk0, rfl⟩ : ∃ a c, yv0 = .slice a yd.length c := o7.1.shape
    obtain ⟨ys1, yk1, rfl⟩ : ∃ a c, yv1 = .slice a yb.length c := o7.2.1.shape
    obtain ⟨ys2, yk2, rfl⟩ : ∃ a c, yv2 = .slice a yt.length c := o7.2.2.1.shape
    obtain ⟨ys3, yk3, rfl⟩ : ∃ a c, yv3 = .slice a yu.length c := o7.2.2.2.1.shape
    obtain ⟨ys4, yk4, rfl⟩ : ∃ a c, yv4 = .slice a yn.length c := o7.2.2.2.2.shape
    clear o7
    clear hb9
    refine ⟨_, rfl, ⟨⟨_, hW⟩, rfl⟩, ?_⟩
    simp only [Act.put, List.setIfInBounds_toArray, List.set_cons_zero, List.set_cons_succ]
    refine quiet_at 4 (some 28) (.int .i64 DC) 34 (by kernel_rfl) (by kernel_rfl) (by kernel_rfl) (by kernel_rfl) (by kernel_rfl) (fun u _ => by kernel_rfl) ⟨⟨_, hW⟩, rfl⟩ ?_
    simp only [Act.put, List.setIfInBounds_toArray, List.set_cons_zero, List.set_cons_succ]
    refine seg_range [(5, 8)] 26 (by kernel_rfl) (by kernel_rfl) (by kernel_rfl) (by kernel_rfl) (by kernel_rfl) ⟨⟨_, hW⟩, rfl⟩ ?_
    simp only [pickR, List.toList_toArray, List.flatMap_cons, List.flatMap_nil, List.drop_succ_cons, List.drop_zero, List.take_succ_cons, List.take_zero, List.cons_append, List.nil_append, List.append_nil]
    repeat go_big_quiet_step (fail)
    refine wpQuiet_nil ?_
    refine skip_at 13 (some 37) 25 (by kernel_rfl) (by kernel_rfl) (by kernel_rfl) (by kernel_rfl) (by kernel_rfl) ⟨⟨_, hW⟩, rfl⟩ ?_
    simp only [Act.put, List.setIfInBounds_toArray, List.set_cons_zero, List.set_cons_succ]
    refine seg_range [(14, 7)] 18 (by kernel_rfl) (by kernel_rfl) (by kernel_rfl) (by kernel_rfl) (by kernel_rfl) ⟨⟨_, hW⟩, rfl⟩ ?_
    simp only [pickR, List.toList_toArray, List.flatMap_cons, List.flatMap_nil, List.drop_succ_cons, List.drop_zero, List.take_succ_cons, List.take_zero, List.cons_append, List.nil_append, List.append_nil]
    repeat go_big_quiet_step (fail)
    refine wpQuiet_nil ?_
    refine skip_at 21 (some 45) 17 (by kernel_rfl) (by kernel_rfl) (by kernel_rfl) (by kernel_rfl) (by kernel_rfl) ⟨⟨_, hW⟩, rfl⟩ ?_
    simp only [Act.put, List.setIfInBounds_toArray, List.set_cons_zero, List.set_cons_succ]
    refine seg_range [(22, 7)] 10 (by kernel_rfl) (by kernel_rfl) (by kernel_rfl) (by kernel_rfl) (by kernel_rfl) ⟨⟨_, hW⟩, rfl⟩ ?_
    simp only [pickR, List.toList_toArray, List.flatMap_cons, List.flatMap_nil, List.drop_succ_cons, List.drop_zero, List.take_succ_cons, List.take_zero, List.cons_append, List.nil_append, List.append_nil]
    repeat go_big_quiet_step (fail)
    refine wpQuiet_nil ?_
    refine skip_at 29 (some 53) 9 (by kernel_rfl) (by kernel_rfl) (by kernel_rfl) (by kernel_rfl) (by kernel_rfl) ⟨⟨_, hW⟩, rfl⟩ ?_
    simp only [Act.put, List.setIfInBounds_toArray, List.set_cons_zero, List.set_cons_succ]
    refine seg_range [(30, 5)] 4 (by kernel_rfl) (by kernel_rfl) (by kernel_rfl) (by kernel_rfl) (by kernel_rfl) ⟨⟨_, hW⟩, rfl⟩ ?_
    simp only [pickR, List.toList_toArray, List.flatMap_cons, List.flatMap_nil, List.drop_succ_cons, List.drop_zero, List.take_succ_cons, List.take_zero, List.cons_append, List.nil_append, List.append_nil]
    repeat go_big_quiet_step (fail)
    refine wpQuiet_nil ?_
    refine quiet_at 35 (some 59) (.agg #[.slice none 0 0, .slice none 0 0, .slice none 0 0, .slice none 0 0, .slice none 0 0]) 3 (by kernel_rfl) (by kernel_rfl) (by kernel_rfl) (by kernel_rfl) (by kernel_rfl) (fun u _ => by kernel_rfl) ⟨⟨_, hW⟩, rfl⟩ ?_
    simp only [Act.put, List.setIfInBounds_toArray, List.set_cons_zero, List.set_cons_succ]
    refine call_at 36 (some 60) 33 #[.agg #[.slice none 0 0, .slice none 0 0, .slice none 0 0, .slice none 0 0, .slice none 0 0]] 2 (by kernel_rfl) (by kernel_rfl) (by kernel_rfl) (by kernel_rfl) (by kernel_rfl) ?_
    refine (hZ7 _ (hg.below hW)).mono ?_
    rintro e w9 ⟨rfl, hb9⟩
    replace hW := hW.trans (hb9.mono hW.size)
    clear hb9
    refine ⟨_, rfl, ⟨⟨_, hW⟩, rfl⟩, ?_⟩
    simp only [Act.put, List.setIfInBounds_toArray, List.set_cons_zero, List.set_cons_succ]
    refine seg_range [(37, 2)] 0 (by kernel_rfl) (by kernel_rfl) (by kernel_rfl) (by kernel_rfl) (by kernel_rfl) ⟨⟨_, hW⟩, rfl⟩ ?_
    simp only [pickR, List.toList_toArray, List.flatMap_cons, List.flatMap_nil, List.drop_succ_cons, List.drop_zero, List.take_succ_cons, List.take_zero, List.cons_append, List.nil_append, List.append_nil]
    repeat go_big_quiet_step (fail)
    refine wpQuiet_nil ?_
    refine text_end (by kernel_rfl) ?_
    replace oR := repB oR hW
    replace oT := txnB oT hW
    replace oO := repB oO hW
    replace BR := BR.below hW
    replace BT := BT.below hW
    replace BO := BO.below hW
    replace hg := hg.below hW
    replace b0 := b0.trans (hW.mono b0.size)
    clear l0 l1 l2 l3 l4 l5 l6 l7 m0 m1 m2 m3 m4 hnn hW hSD hZ7 oX oD BX BD HDL hR7
    rename World => X4
    by_cases hO : OC = 0
    · obtain ⟨hE0, hE1, hE2, hE3, hE4, hE5⟩ := HPL.out hO
      subst hO
      have hOm : RepQ.e (⟨.slice os0 od.length ok0, od, .slice os1 ob.length ok1, ob, .slice os2 ot.length ok2, ot, .slice os3 ou.length ok3, ou, .slice os4 on.length ok4, on⟩ : RepQ) = mkR (rd.map TxnQ.e) (rt.map TxnQ.e ++ [(⟨ti, ts, tq, txs⟩ : TxnD)]) := eO.trans hE0
      have hOF : repF (RepQ.e (⟨.slice os0 od.length ok0, od, .slice os1 ob.length ok1, ob, .slice os2 ot.length ok2, ot, .slice os3 ou.length ok3, ou, .slice os4 on.length ok4, on⟩ : RepQ)) = 0 := by rw [hOm]; exact hE1
      have hlO0 := rep_small hOF
      have hlO : RepQ.n (⟨.slice os0 od.length ok0, od, .slice os1 ob.length ok1, ob, .slice os2 ot.length ok2, ot, .slice os3 ou.length ok3, ou, .slice os4 on.length ok4, on⟩ : RepQ) ≤ 1048576 := by omega
      have hTK : taC on (ou.map USQ.e) = 0 ∧ taI on (ou.map USQ.e) = rb := by
        have hb := opt_back hE1
        rw [← hOm, ← hE2] at hb
        exact hb
      have hOB : ob = rb := (congrArg RepE.base hOm).trans hE2.symm
      have hTA := fun w h1 h2 => iTK (.slice os4 on.length ok4) (.slice os3 ou.length ok3) on ou w h1 h2 (by have := hlO0; dsimp only [RepQ.n] at this; omega) (by have := hlO0; dsimp only [RepQ.n] at this; omega)
      rw [hTK.1, hTK.2] at hTA
      have hAG := fun w hg h hT => iOP (⟨.slice os0 od.length ok0, od, .slice os1 ob.length ok1, ob, .slice os2 ot.length ok2, ot, .slice os3 ou.length ok3, ou, .slice os4 on.length ok4, on⟩ : RepQ) (⟨ti, ts, tq, .slice ta txs.length tk, txs⟩ : TxnQ) w hg h hT hlO hlT
      have hOC6 : opC (RepQ.e (⟨.slice os0 od.length ok0, od, .slice os1 ob.length ok1, ob, .slice os2 ot.length ok2, ot, .slice os3 ou.length ok3, ou, .slice os4 on.length ok4, on⟩ : RepQ)) (TxnQ.e (⟨ti, ts, tq, .slice ta txs.length tk, txs⟩ : TxnQ)) = 6 := by rw [hOm]; exact hE3
      rw [hOC6] at hAG
      have hRO := fun w hg h => iRF (⟨.slice os0 od.length ok0, od, .slice os1 ob.length ok1, ob, .slice os2 ot.length ok2, ot, .slice os3 ou.length ok3, ou, .slice os4 on.length ok4, on⟩ : RepQ) w hg h hlO
      rw [hOF] at hRO
      have hlrb : rb.length ≤ 1048576 := by have := hlR; dsimp only [RepQ.n] at this; omega
      have hSB := fun w h h' => iSI (.slice os1 ob.length ok1) (.slice rs1 rb.length rk1) ob rb w h h' (by rw [hOB]; exact hlrb) hlrb
      rw [show sameIs ob rb = true by rw [hOB]; exact sameIs_refl rb] at hSB
      have hAc := fun (w : World) (h : txnK.own w (⟨ti, ts, tq, .slice ta txs.length tk, txs⟩ : TxnQ)) => acts_row (txnK.own_rd h)
      have hEX := fun w h1 h2 => implExecTxn_any rs4 rk4 rn ti ts tq ta tk txs w h1 h2 (by have := hlR; dsimp only [RepQ.n] at this; omega) (Nat.le_trans hnT (by omega))
      rw [hE4, hE5] at hEX
      have HEO : Hid (RepQ.e (⟨.slice os0 od.length ok0, od, .slice os1 ob.length ok1, ob, .slice os2 ot.length ok2, ot, .slice os3 ou.length ok3, ou, .slice os4 on.length ok4, on⟩ : RepQ) = OE) := eO
      generalize opA (RepQ.e (⟨.slice os0 od.length ok0, od, .slice os1 ob.length ok1, ob, .slice os2 ot.length ok2, ot, .slice os3 ou.length ok3, ou, .slice os4 on.length ok4, on⟩ : RepQ)) (TxnQ.e (⟨ti, ts, tq, .slice ta txs.length tk, txs⟩ : TxnQ)) = GA at *
      generalize opV (RepQ.e (⟨.slice os0 od.length ok0, od, .slice os1 ob.length ok1, ob, .slice os2 ot.length ok2, ot, .slice os3 ou.length ok3, ou, .slice os4 on.length ok4, on⟩ : RepQ)) (TxnQ.e (⟨ti, ts, tq, .slice ta txs.length tk, txs⟩ : TxnQ)) = GV at *
      generalize opE (RepQ.e (⟨.slice os0 od.length ok0, od, .slice os1 ob.length ok1, ob, .slice os2 ot.length ok2, ot, .slice os3 ou.length ok3, ou, .slice os4 on.length ok4, on⟩ : RepQ)) (TxnQ.e (⟨ti, ts, tq, .slice ta txs.length tk, txs⟩ : TxnQ)) = GE at *
      generalize exR rn ti ts tq txs = XL at *
      dsimp only at hTA hAG hRO
      clear hE0 hE1 hE2 hE3 hE4 hE5 hOm hOF hTK hOB hOC6 eO HPL HSM hRF hSF
      have c0 := BO.cell 0 _ rfl
      have c6 := BO.cell 6 _ rfl
      have c7 := BO.cell 7 _ rfl
      go_wp2_with fail
      refine (hTA X4 oO.2.2.2.2 oO.2.2.2.1).mono ?_
      rintro e w6 ⟨vk, kl, rfl, ek, oK, hb⟩
      clear hTA c0 c6 c7
      replace oR := repB oR hb
      replace oT := txnB oT hb
      replace oO := repB oO hb
      replace BR := BR.below hb
      replace BT := BT.below hb
      replace BO := BO.below hb
      replace hg := hg.below hb
      replace b0 := b0.trans (hb.mono b0.size)
      clear hb
      obtain ⟨ka, kc, rfl⟩ := oK.shape
      have hSK := fun w h h' => iSI (.slice ka kl.length kc) (.slice rs1 rb.length rk1) kl rb w h h' (by rw [ek]; exact hlrb) hlrb
      rw [show sameIs kl rb = true by rw [ek]; exact sameIs_refl rb] at hSK
      clear ek
      have BK := Blk.new w6 68 #[.int .i64 0, .int .i64 0, .slice ka kl.length kc]
      have hb : Below w6.heap.size w6 (w6.alloc (.cells #[.int .i64 0, .int .i64 0, .slice ka kl.length kc] 68)) := by go_grown
      replace oR := repB oR hb
      replace oT := txnB oT hb
      replace oO := repB oO hb
      replace oK := oK.below hb
      replace BR := BR.below hb
      replace BT := BT.below hb
      replace BO := BO.below hb
      replace hg := hg.below hb
      replace b0 := b0.trans (hb.mono b0.size)
      clear hb
      have c3 := BO.cell 3 _ rfl
      have c4 := BO.cell 4 _ rfl
      have c5 := BO.cell 5 _ rfl
      have c6 := BO.cell 6 _ rfl
      have c7 := BO.cell 7 _ rfl
      have f0 := BT.cell 0 _ rfl
      have f1 := BT.cell 1 _ rfl
      have f2 := BT.cell 2 _ rfl
      have f3 := BT.cell 3 _ rfl
      go_wp2_with fail
      generalize w6.alloc (.cells #[.int .i64 0, .int .i64 0, .slice ka kl.length kc] 68) = X5 at *
      clear c3 c4 c5 c6 c7 f0 f1 f2 f3
      refine (hAG X5 hg oO oT).mono ?_
      rintro e w7 ⟨G, rfl, _, oG, _, _, hb⟩
      clear hAG
      replace oR := repB oR hb
      replace oT := txnB oT hb
      replace oO := repB oO hb
      replace oK := oK.below hb
      replace BR := BR.below hb
      replace BT := BT.below hb
      replace BO := BO.below hb
      replace BK := BK.below hb
      replace hg := hg.below hb
      replace b0 := b0.trans (hb.mono b0.size)
      clear hb
      obtain ⟨gv0, gd, gv1, gb, gv2, gt, gv3, gu, gv4, gn⟩ := G
      obtain ⟨gs0, gk0, rfl⟩ : ∃ a c, gv0 = .slice a gd.length c := oG.1.shape
      obtain ⟨gs1, gk1, rfl⟩ : ∃ a c, gv1 = .slice a gb.length c := oG.2.1.shape
      obtain ⟨gs2, gk2, rfl⟩ : ∃ a c, gv2 = .slice a gt.length c := oG.2.2.1.shape
      obtain ⟨gs3, gk3, rfl⟩ : ∃ a c, gv3 = .slice a gu.length c := oG.2.2.2.1.shape
      obtain ⟨gs4, gk4, rfl⟩ : ∃ a c, gv4 = .slice a gn.length c := oG.2.2.2.2.shape
      clear oG
      have BG := Blk.new w7 34 #[.int .i64 6, .int .i64 GA, .int .i64 GV, .slice gs0 gd.length gk0, .slice gs1 gb.length gk1, .slice gs2 gt.length gk2, .slice gs3 gu.length gk3, .slice gs4 gn.length gk4]
      have hb : Below w7.heap.size w7 (w7.alloc (.cells #[.int .i64 6, .int .i64 GA, .int .i64 GV, .slice gs0 gd.length gk0, .slice gs1 gb.length gk1, .slice gs2 gt.length gk2, .slice gs3 gu.length gk3, .slice gs4 gn.length gk4] 34)) := by go_grown
      replace oR := repB oR hb
      replace oT := txnB oT hb
      replace oO := repB oO hb
      replace oK := oK.below hb
      replace BR := BR.below hb
      replace BT := BT.below hb
      replace BO := BO.below hb
      replace BK := BK.below hb
      replace hg := hg.below hb
      replace b0 := b0.trans (hb.mono b0.size)
      clear hb
      go_wp2_with fail
      generalize w7.alloc (.cells #[.int .i64 6, .int .i64 GA, .int .i64 GV, .slice gs0 gd.length gk0, .slice gs1 gb.length gk1, .slice gs2 gt.length gk2, .slice gs3 gu.length gk3, .slice gs4 gn.length gk4] 34) = X6 at *
      have e1 : (OA == OA) = true := by simp
      have e2 : (OV == OV) = true := by simp
      have l0 := BO.lat 0 _ rfl
      have l1 := BO.lat 1 _ rfl
      have l2 := BO.lat 2 _ rfl
      have l3 := BO.lat 3 _ rfl
      have l4 := BO.lat 4 _ rfl
      have l5 := BO.lat 5 _ rfl
      have l6 := BO.lat 6 _ rfl
      have l7 := BO.lat 7 _ rfl
      have m0 := BR.lat 0 _ rfl
      have m1 := BR.lat 1 _ rfl
      have m2 := BR.lat 2 _ rfl
      have m3 := BR.lat 3 _ rfl
      have m4 := BR.lat 4 _ rfl
      have n0 := BT.lat 0 _ rfl
      have n1 := BT.lat 1 _ rfl
      have n2 := BT.lat 2 _ rfl
      have n3 := BT.lat 3 _ rfl
      have k0 := BK.lat 0 _ rfl
      have k2 := BK.lat 2 _ rfl
      have g0 := BG.lat 0 _ rfl
      have hW : Below X6.heap.size X6 X6.drew := (Below.refl _ _).drew
      have hnn : Nonempty (Lat X6) := ⟨⟨X6, Below.refl _ _⟩⟩
      refine text_begin (S := fun w' => ∃ u : Lat X6, w' = u.val) (by kernel_rfl) ?_
      refine seg_range [(0, 2)] 57 (by kernel_rfl) (by kernel_rfl) (by kernel_rfl) (by kernel_rfl) (by kernel_rfl) ⟨⟨_, hW⟩, rfl⟩ ?_
      simp only [pickR, List.toList_toArray, List.flatMap_cons, List.flatMap_nil, List.drop_succ_cons, List.drop_zero, List.take_succ_cons, List.take_zero, List.cons_append, List.nil_append, List.append_nil]
      repeat go_big_quiet_step (fail)
      refine wpQuiet_nil ?_
      refine call_at 2 (some 93) 33 #[.agg #[.slice os0 od.length ok0, .slice os1 ob.length ok1, .slice os2 ot.length ok2, .slice os3 ou.length ok3, .slice os4 on.length ok4]] 56 (by kernel_rfl) (by kernel_rfl) (by kernel_rfl) (by kernel_rfl) (by kernel_rfl) ?_
      refine (hRO _ (hg.below hW) (repB oO hW)).mono ?_
      rintro e w9 ⟨rfl, hb9⟩
      replace hW := hW.trans (hb9.mono hW.size)
      clear hb9
      refine ⟨_, rfl, ⟨⟨_, hW⟩, rfl⟩, ?_⟩
      simp only [Act.put, List.setIfInBounds_toArray, List.set_cons_zero, List.set_cons_succ]
      refine seg_range [(3, 7)] 49 (by kernel_rfl) (by kernel_rfl) (by kernel_rfl) (by kernel_rfl) (by kernel_rfl) ⟨⟨_, hW⟩, rfl⟩ ?_
      simp only [pickR, List.toList_toArray, List.flatMap_cons, List.flatMap_nil, List.drop_succ_cons, List.drop_zero, List.take_succ_cons, List.take_zero, List.cons_append, List.nil_append, List.append_nil]
      repeat go_big_quiet_step (fail)
      refine wpQuiet_nil ?_
      refine call_at 10 (some 101) 34 #[.slice os1 ob.length ok1, .slice rs1 rb.length rk1] 48 (by kernel_rfl) (by kernel_rfl) (by kernel_rfl) (by kernel_rfl) (by kernel_rfl) ?_
      refine (hSB _ (repB oO hW).2.1 (repB oR hW).2.1).mono ?_
      rintro e w9 ⟨rfl, hb9⟩
      replace hW := hW.trans (hb9.mono hW.size)
      clear hb9
      refine ⟨_, rfl, ⟨⟨_, hW⟩, rfl⟩, ?_⟩
      simp only [Act.put, List.setIfInBounds_toArray, List.set_cons_zero, List.set_cons_succ]
      refine seg_range [(11, 11)] 37 (by kernel_rfl) (by kernel_rfl) (by kernel_rfl) (by kernel_rfl) (by kernel_rfl) ⟨⟨_, hW⟩, rfl⟩ ?_
      simp only [pickR, List.toList_toArray, List.flatMap_cons, List.flatMap_nil, List.drop_succ_cons, List.drop_zero, List.take_succ_cons, List.take_zero, List.cons_append, List.nil_append, List.append_nil]
      repeat go_big_quiet_step (fail)
      refine wpQuiet_nil ?_
      refine call_at 22 (some 113) 34 #[.slice ka kl.length kc, .slice rs1 rb.length rk1] 36 (by kernel_rfl) (by kernel_rfl) (by kernel_rfl) (by kernel_rfl) (by kernel_rfl) ?_
      refine (hSK _ (oK.below hW) (repB oR hW).2.1).mono ?_
      rintro e w9 ⟨rfl, hb9⟩
      replace hW := hW.trans (hb9.mono hW.size)
      clear hb9
      refine ⟨_, rfl, ⟨⟨_, hW⟩, rfl⟩, ?_⟩
      simp only [Act.put, List.setIfInBounds_toArray, List.set_cons_zero, List.set_cons_succ]
      refine seg_range [(23, 12)] 24 (by kernel_rfl) (by kernel_rfl) (by kernel_rfl) (by kernel_rfl) (by kernel_rfl) ⟨⟨_, hW⟩, rfl⟩ ?_
      simp only [pickR, List.toList_toArray, List.flatMap_cons, List.flatMap_nil, List.drop_succ_cons, List.drop_zero, List.take_succ_cons, List.take_zero, List.cons_append, List.nil_append, List.append_nil]
      repeat go_big_quiet_step (fail)
      refine wpQuiet_nil ?_
      refine call_at 35 (some 126) 37 #[.slice rs4 rn.length rk4, .agg #[.int .i64 ti, .int .i64 ts, .int .i64 tq, .slice ta txs.length tk]] 23 (by kernel_rfl) (by kernel_rfl) (by kernel_rfl) (by kernel_rfl) (by kernel_rfl) ?_
      refine (hEX _ (itemK_at9 (repB oR hW).2.2.2.2.at) (hAc _ (txnB oT hW))).mono ?_
      rintro e w9 ⟨ea126, ec126, rfl, _, hb9⟩
      replace hW := hW.trans (hb9.mono hW.size)
      clear hb9
      refine ⟨_, rfl, ⟨⟨_, hW⟩, rfl⟩, ?_⟩
      simp only [Act.put, List.setIfInBounds_toArray, List.set_cons_zero, List.set_cons_succ]
      refine quiet_at 36 (some 127) (.int .i64 OA) 22 (by kernel_rfl) (by kernel_rfl) (by kernel_rfl) (by kernel_rfl) (by kernel_rfl) (fun u _ => by kernel_rfl) ⟨⟨_, hW⟩, rfl⟩ ?_
      simp only [Act.put, List.setIfInBounds_toArray, List.set_cons_zero, List.set_cons_succ]
      refine seg_range [(37, 8)] 14 (by kernel_rfl) (by kernel_rfl) (by kernel_rfl) (by kernel_rfl) (by kernel_rfl) ⟨⟨_, hW⟩, rfl⟩ ?_
      simp only [pickR, List.toList_toArray, List.flatMap_cons, List.flatMap_nil, List.drop_succ_cons, List.drop_zero, List.take_succ_cons, List.take_zero, List.cons_append, List.nil_append, List.append_nil]
      repeat go_big_quiet_step (fail)
      refine wpQuiet_nil ?_
      refine call_at 45 (some 136) 37 #[.slice rs4 rn.length rk4, .agg #[.int .i64 ti, .int .i64 ts, .int .i64 tq, .slice ta txs.length tk]] 13 (by kernel_rfl) (by kernel_rfl) (by kernel_rfl) (by kernel_rfl) (by kernel_rfl) ?_
      refine (hEX _ (itemK_at9 (repB oR hW).2.2.2.2.at) (hAc _ (txnB oT hW))).mono ?_
      rintro e w9 ⟨ea136, ec136, rfl, _, hb9⟩
      replace hW := hW.trans (hb9.mono hW.size)
      clear hb9
      refine ⟨_, rfl, ⟨⟨_, hW⟩, rfl⟩, ?_⟩
      simp only [Act.put, List.setIfInBounds_toArray, List.set_cons_zero, List.set_cons_succ]
      refine quiet_at 46 (some 137) (.int .i64 OV) 12 (by kernel_rfl) (by kernel_rfl) (by kernel_rfl) (by kernel_rfl) (by kernel_rfl) (fun u _ => by kernel_rfl) ⟨⟨_, hW⟩, rfl⟩ ?_
      simp only [Act.put, List.setIfInBounds_toArray, List.set_cons_zero, List.set_cons_succ]
      refine seg_range [(47, 7)] 5 (by kernel_rfl) (by kernel_rfl) (by kernel_rfl) (by kernel_rfl) (by kernel_rfl) ⟨⟨_, hW⟩, rfl⟩ ?_
      simp only [pickR, List.toList_toArray, List.flatMap_cons, List.flatMap_nil, List.drop_succ_cons, List.drop_zero, List.take_succ_cons, List.take_zero, List.cons_append, List.nil_append, List.append_nil]
      repeat go_big_quiet_step (fail)
      refine wpQuiet_nil ?_
      refine call_at 54 (some 145) 19 #[.agg #[.slice rs0 rd.length rk0, .slice rs1 rb.length rk1, .slice rs2 rt.length rk2, .slice rs3 ru.length rk3, .slice rs4 rn.length rk4], .agg #[.int .i64 ti, .int .i64 ts, .int .i64 tq, .slice ta txs.length tk]] 4 (by kernel_rfl) (by kernel_rfl) (by kernel_rfl) (by kernel_rfl) (by kernel_rfl) ?_
      refine (hSO _ (repB oR hW) (txnB oT hW)).mono ?_
      rintro e w9 ⟨Q7, rfl, e7, o7, _, _, hb9⟩
      replace hW := hW.trans (hb9.mono hW.size)
      obtain ⟨yv0, yd, yv1, yb, yv2, yt, yv3, yu, yv4, yn⟩ := Q7
      obtain ⟨ys0, yk0, rfl⟩ : ∃ a c, yv0 = .slice a yd.length c := o7.1.shape
      obtain ⟨ys1, yk1, rfl⟩ : ∃ a c, yv1 = .slice a yb.length c := o7.2.1.shape
      obtain ⟨ys2, yk2, rfl⟩ : ∃ a c, yv2 = .slice a yt.length c := o7.2.2.1.shape
      obtain ⟨ys3, yk3, rfl⟩ : ∃ a c, yv3 = .slice a yu.length c := o7.2.2.2.1.shape
      obtain ⟨ys4, yk4, rfl⟩ : ∃ a c, yv4 = .slice a yn.length c := o7.2.2.2.2.shape
      clear hb9
      refine ⟨_, rfl, ⟨⟨_, hW⟩, rfl⟩, ?_⟩
      simp only [Act.put, List.setIfInBounds_toArray, List.set_cons_zero, List.set_cons_succ]
      refine quiet_at 55 (some 146) (.agg #[.slice ys0 yd.length yk0, .slice ys1 yb.length yk1, .slice ys2 yt.length yk2, .slice ys3 yu.length yk3, .slice ys4 yn.length yk4]) 3 (by kernel_rfl) (by kernel_rfl) (by kernel_rfl) (by kernel_rfl) (by kernel_rfl) (fun u _ => by kernel_rfl) ⟨⟨_, hW⟩, rfl⟩ ?_
      simp only [Act.put, List.setIfInBounds_toArray, List.set_cons_zero, List.set_cons_succ]
      refine call_at 56 (some 147) 38 #[.agg #[.slice os0 od.length ok0, .slice os1 ob.length ok1, .slice os2 ot.length ok2, .slice os3 ou.length ok3, .slice os4 on.length ok4], .agg #[.slice ys0 yd.length yk0, .slice ys1 yb.length yk1, .slice ys2 yt.length yk2, .slice ys3 yu.length yk3, .slice ys4 yn.length yk4]] 2 (by kernel_rfl) (by kernel_rfl) (by kernel_rfl) (by kernel_rfl) (by kernel_rfl) ?_
      refine (iSR (⟨.slice os0 od.length ok0, od, .slice os1 ob.length ok1, ob, .slice os2 ot.length ok2, ot, .slice os3 ou.length ok3, ou, .slice os4 on.length ok4, on⟩ : RepQ) (⟨.slice ys0 yd.length yk0, yd, .slice ys1 yb.length yk1, yb, .slice ys2 yt.length yk2, yt, .slice ys3 yu.length yk3, yu, .slice ys4 yn.length yk4, yn⟩ : RepQ) _ (repB oO hW) o7 (HEO.out.trans e7.symm) hlO (rep_n9 (HEO.out.trans e7.symm) hlO)).mono ?_
      rintro e w9 ⟨rfl, hb9⟩
      replace hW := hW.trans (hb9.mono hW.size)
      clear o7 e7
      clear hb9
      refine ⟨_, rfl, ⟨⟨_, hW⟩, rfl⟩, ?_⟩
      simp only [Act.put, List.setIfInBounds_toArray, List.set_cons_zero, List.set_cons_succ]
      refine seg_range [(57, 2)] 0 (by kernel_rfl) (by kernel_rfl) (by kernel_rfl) (by kernel_rfl) (by kernel_rfl) ⟨⟨_, hW⟩, rfl⟩ ?_
      simp only [pickR, List.toList_toArray, List.flatMap_cons, List.flatMap_nil, List.drop_succ_cons, List.drop_zero, List.take_succ_cons, List.take_zero, List.cons_append, List.nil_append, List.append_nil]
      repeat go_big_quiet_step (fail)
      refine wpQuiet_nil ?_
      refine text_end (by kernel_rfl) ?_
      replace b0 := b0.trans (hW.mono b0.size)
      go_wp2
      go_ret
      exact ⟨rfl, b0⟩
    · have hO' : (OC != 0) = true := by simpa using hO
      have e1 : (OC == OC) = true := by simp
      have e2 : (FR == FR) = true := by simp
      clear HPL HSM eO
      have c0 := BO.cell 0 _ rfl
      go_wp2_with fail
      clear c0
      have l0 := BO.lat 0 _ rfl
      have l1 := BO.lat 1 _ rfl
      have l2 := BO.lat 2 _ rfl
      have l3 := BO.lat 3 _ rfl
      have l4 := BO.lat 4 _ rfl
      have l5 := BO.lat 5 _ rfl
      have l6 := BO.lat 6 _ rfl
      have l7 := BO.lat 7 _ rfl
      have m0 := BR.lat 0 _ rfl
      have m1 := BR.lat 1 _ rfl
      have m2 := BR.lat 2 _ rfl
      have m3 := BR.lat 3 _ rfl
      have m4 := BR.lat 4 _ rfl
      have n0 := BT.lat 0 _ rfl
      have n1 := BT.lat 1 _ rfl
      have n2 := BT.lat 2 _ rfl
      have n3 := BT.lat 3 _ rfl
      have hW : Below X4.heap.size X4 X4.drew := (Below.refl _ _).drew
      have hnn : Nonempty (Lat X4) := ⟨⟨X4, Below.refl _ _⟩⟩
      refine text_begin (S := fun w' => ∃ u : Lat X4, w' = u.val) (by kernel_rfl) ?_
      refine seg_range [(0, 2), (4, 2)] 11 (by kernel_rfl) (by kernel_rfl) (by kernel_rfl) (by kernel_rfl) (by kernel_rfl) ⟨⟨_, hW⟩, rfl⟩ ?_
      simp only [pickR, List.toList_toArray, List.flatMap_cons, List.flatMap_nil, List.drop_succ_cons, List.drop_zero, List.take_succ_cons, List.take_zero, List.cons_append, List.nil_append, List.append_nil]
      repeat go_big_quiet_step (fail)
      refine wpQuiet_nil ?_
      refine call_at 2 (some 68) 19 #[.agg #[.slice rs0 rd.length rk0, .slice rs1 rb.length rk1, .slice rs2 rt.length rk2, .slice rs3 ru.length rk3, .slice rs4 rn.length rk4], .agg #[.int .i64 ti, .int .i64 ts, .int .i64 tq, .slice ta txs.length tk]] 10 (by kernel_rfl) (by kernel_rfl) (by kernel_rfl) (by kernel_rfl) (by kernel_rfl) ?_
      refine (hSO _ (repB oR hW) (txnB oT hW)).mono ?_
      rintro e w9 ⟨Q7, rfl, _, o7, _, _, hb9⟩
      replace hW := hW.trans (hb9.mono hW.size)
      obtain ⟨yv0, yd, yv1, yb, yv2, yt, yv3, yu, yv4, yn⟩ := Q7
      obtain ⟨ys0, yk0, rfl⟩ : ∃ a c, yv0 = .slice a yd.length c := o7.1.shape
      obtain ⟨ys1, yk1, rfl⟩ : ∃ a c, yv1 = .slice a yb.length c := o7.2.1.shape
      obtain ⟨ys2, yk2, rfl⟩ : ∃ a c, yv2 = .slice a yt.length c := o7.2.2.1.shape
      obtain ⟨ys3, yk3, rfl⟩ : ∃ a c, yv3 = .slice a yu.length c := o7.2.2.2.1.shape
      obtain ⟨ys4, yk4, rfl⟩ : ∃ a c, yv4 = .slice a yn.length c := o7.2.2.2.2.shape
      clear o7
      clear hb9
      refine ⟨_, rfl, ⟨⟨_, hW⟩, rfl⟩, ?_⟩
      simp only [Act.put, List.setIfInBounds_toArray, List.set_cons_zero, List.set_cons_succ]
      refine quiet_at 3 (some 69) (.int .i64 OC) 9 (by kernel_rfl) (by kernel_rfl) (by kernel_rfl) (by kernel_rfl) (by kernel_rfl) (fun u _ => by kernel_rfl) ⟨⟨_, hW⟩, rfl⟩ ?_
      simp only [Act.put, List.setIfInBounds_toArray, List.set_cons_zero, List.set_cons_succ]
      refine seg_range [(6, 3), (10, 1)] 5 (by kernel_rfl) (by kernel_rfl) (by kernel_rfl) (by kernel_rfl) (by kernel_rfl) ⟨⟨_, hW⟩, rfl⟩ ?_
      simp only [pickR, List.toList_toArray, List.flatMap_cons, List.flatMap_nil, List.drop_succ_cons, List.drop_zero, List.take_succ_cons, List.take_zero, List.cons_append, List.nil_append, List.append_nil]
      repeat go_big_quiet_step (fail)
      refine wpQuiet_nil ?_
      refine call_at 9 (some 75) 33 #[.agg #[.slice rs0 rd.length rk0, .slice rs1 rb.length rk1, .slice rs2 rt.length rk2, .slice rs3 ru.length rk3, .slice rs4 rn.length rk4]] 4 (by kernel_rfl) (by kernel_rfl) (by kernel_rfl) (by kernel_rfl) (by kernel_rfl) ?_
      refine (hRF _ (hg.below hW) (repB oR hW)).mono ?_
      rintro e w9 ⟨rfl, hb9⟩
      replace hW := hW.trans (hb9.mono hW.size)
      clear hb9
      refine ⟨_, rfl, ⟨⟨_, hW⟩, rfl⟩, ?_⟩
      simp only [Act.put, List.setIfInBounds_toArray, List.set_cons_zero, List.set_cons_succ]
      refine call_at 11 (some 77) 35 #[.agg #[.slice rs0 rd.length rk0, .slice rs1 rb.length rk1, .slice rs2 rt.length rk2, .slice rs3 ru.length rk3, .slice rs4 rn.length rk4]] 3 (by kernel_rfl) (by kernel_rfl) (by kernel_rfl) (by kernel_rfl) (by kernel_rfl) ?_
      refine (hSF _ (repB oR hW)).mono ?_
      rintro e w9 ⟨rfl, hb9⟩
      replace hW := hW.trans (hb9.mono hW.size)
      clear hb9
      refine ⟨_, rfl, ⟨⟨_, hW⟩, rfl⟩, ?_⟩
      simp only [Act.put, List.setIfInBounds_toArray, List.set_cons_zero, List.set_cons_succ]
      refine seg_range [(12, 3)] 0 (by kernel_rfl) (by kernel_rfl) (by kernel_rfl) (by kernel_rfl) (by kernel_rfl) ⟨⟨_, hW⟩, rfl⟩ ?_
      simp only [pickR, List.toList_toArray, List.flatMap_cons, List.flatMap_nil, List.drop_succ_cons, List.drop_zero, List.take_succ_cons, List.take_zero, List.cons_append, List.nil_append, List.append_nil]
      repeat go_big_quiet_step (fail)
      refine wpQuiet_nil ?_
      refine text_end (by kernel_rfl) ?_
      replace b0 := b0.trans (hW.mono b0.size)
      go_wp2
      go_ret
      exact ⟨rfl, b0⟩

end Go.Proofs.YtfdkcbafpiojkaaGreatDoor
