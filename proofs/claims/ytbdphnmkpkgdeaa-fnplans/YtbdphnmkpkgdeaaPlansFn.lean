/- The law FnPlans, walked: at every list of bytes it answers true, and it writes into nothing that was there. No condition. -/
import Derived.Test.YtbdphnmkpkgdeaaDA
import Derived.Test.YtbdphnmkpkgdeaaQA
import Derived.Test.YtbdphnmkpkgdeaaLawBig
import Derived.Test.YtbdphnmkpkgdeaaQuiet1
import Derived.Test.YtbdphnmkpkgdeaaTxnSameT
namespace Go.Proofs.Ytbdphnmkpkgdeaa
open Go.RowKit
open Go.BigFrame
set_option linter.unusedVariables false
set_option linter.unusedSimpArgs false

theorem few5 {qs : List TxnQ} (h : ∀ q ∈ qs, q.acts.length ≤ 5) : nmL TxnQ.n qs ≤ 5 * qs.length := by
  induction qs with
  | nil => simp [nmL]
  | cons q r ih =>
    have h1 := h q (by simp)
    have := ih (fun t ht => h t (List.mem_cons_of_mem _ ht))
    simp only [nmL, List.map_cons, List.sum_cons, List.length_cons, TxnQ.n] at this ⊢
    omega
def slA8 : Value → Option Addr
  | .slice a _ _ => a
  | _ => none
def slK8 : Value → Nat
  | .slice _ _ k => k
  | _ => 0
def TxnQ.p8 (q : TxnQ) : TxnP := ⟨q.e, slA8 q.va, slK8 q.va⟩
theorem TxnQ.p8_cells {w : World} {q : TxnQ} (h : actK.At w q.va q.acts) : q.p8.cells = txnK.cells q := by
  obtain ⟨a, c, e⟩ := h.shape
  show [_, _, _, _] = [_, _, _, _]
  simp only [TxnP.sl, TxnQ.p8, TxnQ.e, e, slA8, slK8]
theorem txnsAt_of8 {w : World} {v : Value} {ps : List TxnQ} (h : txnK.At w v ps) : TxnsAt w v (ps.map TxnQ.e) := by
  obtain ⟨a, cap, e, hL, hr⟩ := h
  refine ⟨a, cap, ps.map TxnQ.p8, by rw [List.length_map]; exact e, by simp only [List.map_map]; rfl, ?_, ?_⟩
  · have e2 : txnCells (ps.map TxnQ.p8) = txnK.row ps := by
      clear hL e
      induction ps with
      | nil => rfl
      | cons q r ih =>
        have h1 : q.p8.cells = txnK.cells q := TxnQ.p8_cells (hr q (by simp))
        have h2 := ih (fun p hp => hr p (List.mem_cons_of_mem _ hp))
        show q.p8.cells ++ txnCells (r.map TxnQ.p8) = txnK.cells q ++ txnK.row r
        rw [h1, h2]
    rw [e2]
    exact hL
  · intro p hp
    obtain ⟨q, hq, rfl⟩ := List.mem_map.1 hp
    have h1 : actK.At w q.va q.acts := hr q hq
    obtain ⟨a', c', e', hl', _⟩ := h1
    show ActRow w (slA8 q.va) q.acts
    rw [e']
    exact hl'
theorem sumA_of8 (ps : List TxnQ) : sumA (ps.map TxnQ.e) = nmL TxnQ.n ps := by
  simp only [sumA, nmL, List.map_map]
  rfl
theorem same8 (v v' : Value) (ps qs : List TxnQ) (he : ps.map TxnQ.e = qs.map TxnQ.e) (w : World) (h : txnK.At w v ps) (h' : txnK.At w v' qs) (hl : ps.length + nmL TxnQ.n ps ≤ 1048576) (hl' : qs.length + nmL TxnQ.n qs ≤ 1048576) :
    Calls Try.prog 17 #[v, v'] w fun e w' => e = .returned (.bool true) ∧ Below w.heap.size w w' := by
  have hq := implSameTxns_any v v' (ps.map TxnQ.e) (qs.map TxnQ.e) w (txnsAt_of8 h) (txnsAt_of8 h') (by rw [List.length_map, sumA_of8]; exact hl) (by rw [List.length_map, sumA_of8]; exact hl')
  rw [he, sameTs_refl8] at hq
  exact hq
theorem slice0 (a : Option Addr) (c m : Nat) : (if c = 0 then a else a.map (fun x => x.add (0 * m))) = a := by
  split
  · rfl
  · cases a with
    | none => rfl
    | some x => simp [Addr.add]

set_option maxRecDepth 100000 in
set_option maxHeartbeats 16000000 in
theorem plansFn (a : Option Addr) (cap : Nat) (zs : List Int) (w : World) (h : Row .u8 w a zs) (hu : ∀ i, 0 ≤ zs.getD i 0 ∧ zs.getD i 0 ≤ 255) (hm : zs.length ≤ 9223372036854775807) :
    Calls Try.prog 3 #[.slice a zs.length cap] w fun e w' => e = .returned (.bool true) ∧ Below w.heap.size w w' := by
  have hsame := same8
  by_cases hle : zs.length ≤ 1048576
  case neg =>
    have hd : decide (1048576 < (zs.length : Int)) = true := decide_eq_true (by omega)
    go_enter Try.func3, Try.ntmps3
    go_wp2_with fail
    refine (lwBig_any a zs.length cap w hm).mono ?_
    rintro e w1 ⟨rfl, hw⟩
    subst hw
    rw [hd]
    go_wp2
    go_ret
    exact ⟨rfl, Below.refl _ _⟩
  have b0 : Below w.heap.size w w := Below.refl _ _
  have hd : decide (1048576 < (zs.length : Int)) = false := decide_eq_false (by omega)
  go_enter Try.func3, Try.ntmps3
  go_wp2_with fail
  refine (lwBig_any a zs.length cap w hm).mono ?_
  rintro e w1 ⟨rfl, hw⟩
  replace hw := hw.symm
  subst hw
  rw [hd]
  go_wp2_with fail
  refine (drawPlanOf_any a cap zs w (h.below b0) hu hle).mono ?_
  rintro e w2 ⟨vt, vf, qt, qf, rfl, hAt, hAf, ct, cf, lt, lf, pt, pf, hb⟩
  replace b0 := b0.trans (hb.mono b0.size)
  clear hb
  have hlt : qt.length + nmL TxnQ.n qt ≤ 1048576 := by have := few5 pt; omega
  clear pt
  obtain ⟨adt, kt, rfl⟩ := hAt.shape
  have hlf : qf.length + nmL TxnQ.n qf ≤ 1048576 := by have := few5 pf; omega
  clear pf
  obtain ⟨adf, kf, rfl⟩ := hAf.shape
  go_wp2_with fail
  refine (implPlanOf_any (.slice adt qt.length kt) (.slice adf qf.length kf) qt qf w2 hAt hAf ct cf hlt hlf).mono ?_
  rintro e w3 ⟨vg, vk, qg, qk, rfl, eg, ek, og, ok, ng, gg, hb⟩
  replace hAt := hAt.below hb
  replace hAf := hAf.below hb
  replace b0 := b0.trans (hb.mono b0.size)
  have hAg := og.at
  have hAk := ok.at
  have cK := ok.capOk
  clear hb ng gg og ok
  have hlg : qg.length + nmL TxnQ.n qg ≤ 1048576 := plA_n eg hlt hlf
  have hlk : qk.length + nmL TxnQ.n qk ≤ 1048576 := plK_n ek hlt hlf
  have HPL : Hid (bthF (qt.map TxnQ.e) (qf.map TxnQ.e) = 0 → _) := fun hB => (⟨plK_lst hB, plK_wi hB, pl_kept hB, pl_back hB, pl_n hB⟩ : lstF (plK (qt.map TxnQ.e) (qf.map TxnQ.e)) = 0 ∧ (wiL (plK (qt.map TxnQ.e) (qf.map TxnQ.e)) (qf.map TxnQ.e) = plK (qt.map TxnQ.e) (qf.map TxnQ.e) ∧ bthF (plK (qt.map TxnQ.e) (qf.map TxnQ.e)) (qf.map TxnQ.e) = 0) ∧ (∀ t ∈ qt.map TxnQ.e, knw (qf.map TxnQ.e) t = false → knw (plK (qt.map TxnQ.e) (qf.map TxnQ.e)) t = true) ∧ (plB (qt.map TxnQ.e) (qf.map TxnQ.e) ≠ 0 → 0 < (plA (qt.map TxnQ.e) (qf.map TxnQ.e)).length) ∧ (plN (qt.map TxnQ.e) (qf.map TxnQ.e) = (comN (qt.map TxnQ.e) (qf.map TxnQ.e) : Int) ∧ plA (qt.map TxnQ.e) (qf.map TxnQ.e) = (qf.map TxnQ.e).drop (comN (qt.map TxnQ.e) (qf.map TxnQ.e))))
  have hspP := fun w h h' => specPlanOf_any (.slice adt qt.length kt) (.slice adf qf.length kf) qt qf w h h' ct cf hlt hlf
  have himL := fun w h => implListFault_any (.slice adt qt.length kt) qt w h hlt
  have hspL := fun w h => specListFault_any (.slice adt qt.length kt) qt w h ct hlt
  rw [← eg, ← ek] at HPL
  generalize plN (qt.map TxnQ.e) (qf.map TxnQ.e) = VN at *
  generalize plB (qt.map TxnQ.e) (qf.map TxnQ.e) = VB at *
  generalize bthF (qt.map TxnQ.e) (qf.map TxnQ.e) = C at *
  obtain ⟨adg, kg, rfl⟩ := hAg.shape
  obtain ⟨adk, kk, rfl⟩ := hAk.shape
  have P0 := Blk.new w3 28 #[.int .i64 C, .int .i64 VN, .int .i64 VB, .slice adg qg.length kg, .slice adk qk.length kk]
  have hb : Below w3.heap.size w3 (w3.alloc (.cells #[.int .i64 C, .int .i64 VN, .int .i64 VB, .slice adg qg.length kg, .slice adk qk.length kk] 28)) := by go_grown
  replace hAt := hAt.below hb
  replace hAf := hAf.below hb
  replace hAg := hAg.below hb
  replace hAk := hAk.below hb
  replace b0 := b0.trans (hb.mono b0.size)
  clear hb
  go_wp2_with fail
  generalize w3.alloc (.cells #[.int .i64 C, .int .i64 VN, .int .i64 VB, .slice adg qg.length kg, .slice adk qk.length kk] 28) = W3 at *
  refine (drawWithout_any a cap zs W3 (h.below b0) hu hle).mono ?_
  rintro e w5 ⟨va, vb, qa, qb, rfl, hAa, hAb, ca, cb, la, lb, pa, pb, hb⟩
  replace hAt := hAt.below hb
  replace hAf := hAf.below hb
  replace hAg := hAg.below hb
  replace hAk := hAk.below hb
  replace P0 := P0.below hb
  replace b0 := b0.trans (hb.mono b0.size)
  clear hb
  have hla : qa.length + nmL TxnQ.n qa ≤ 1048576 := by have := few5 pa; omega
  clear pa
  obtain ⟨ada, ka, rfl⟩ := hAa.shape
  have hlb : qb.length + nmL TxnQ.n qb ≤ 1048576 := by have := few5 pb; omega
  clear pb
  obtain ⟨adb, kb, rfl⟩ := hAb.shape
  go_wp2_with fail
  refine (implWithout_any (.slice ada qa.length ka) (.slice adb qb.length kb) qa qb w5 hAa hAb hla hlb).mono ?_
  rintro e w6 ⟨vw, qw, rfl, ew, ow, nw, gw, hb⟩
  replace hAt := hAt.below hb
  replace hAf := hAf.below hb
  replace hAg := hAg.below hb
  replace hAk := hAk.below hb
  replace hAa := hAa.below hb
  replace hAb := hAb.below hb
  replace P0 := P0.below hb
  replace b0 := b0.trans (hb.mono b0.size)
  have hAw := ow.at
  clear hb nw gw ow
  have hlw : qw.length + nmL TxnQ.n qw ≤ 1048576 := wi_n ew hla hlb
  have hspW := fun w h h' => specWithout_any (.slice ada qa.length ka) (.slice adb qb.length kb) qa qb w h h' ca cb hla hlb
  generalize bthF (qa.map TxnQ.e) (qb.map TxnQ.e) = WC at *
  generalize wiL (qa.map TxnQ.e) (qb.map TxnQ.e) = WL at *
  obtain ⟨adw, kw, rfl⟩ := hAw.shape
  have B0 := Blk.new w6 31 #[.int .i64 WC, .slice adw qw.length kw]
  have hb : Below w6.heap.size w6 (w6.alloc (.cells #[.int .i64 WC, .slice adw qw.length kw] 31)) := by go_grown
  replace hAt := hAt.below hb
  replace hAf := hAf.below hb
  replace hAg := hAg.below hb
  replace hAk := hAk.below hb
  replace hAa := hAa.below hb
  replace hAb := hAb.below hb
  replace hAw := hAw.below hb
  replace P0 := P0.below hb
  replace b0 := b0.trans (hb.mono b0.size)
  clear hb
  go_wp2_with fail
  generalize w6.alloc (.cells #[.int .i64 WC, .slice adw qw.length kw] 31) = W6 at *
  refine (drawCommonOf_any a cap zs W6 (h.below b0) hu hle).mono ?_
  rintro e w8 ⟨vx, vy, qx, qy, rfl, hAx, hAy, cx, cy, lx, ly, px, py, hb⟩
  replace hAt := hAt.below hb
  replace hAf := hAf.below hb
  replace hAg := hAg.below hb
  replace hAk := hAk.below hb
  replace hAa := hAa.below hb
  replace hAb := hAb.below hb
  replace hAw := hAw.below hb
  replace P0 := P0.below hb
  replace B0 := B0.below hb
  replace b0 := b0.trans (hb.mono b0.size)
  clear hb
  have hlx : qx.length + nmL TxnQ.n qx ≤ 1048576 := by have := few5 px; omega
  clear px
  obtain ⟨adx, kx, rfl⟩ := hAx.shape
  have hly : qy.length + nmL TxnQ.n qy ≤ 1048576 := by have := few5 py; omega
  clear py
  obtain ⟨ady, ky, rfl⟩ := hAy.shape
  have himC := fun w h h' => implCommonOf_any (.slice adx qx.length kx) (.slice ady qy.length ky) qx qy w h h' hlx hly
  have hspC := fun w h h' => specCommonOf_any (.slice adx qx.length kx) (.slice ady qy.length ky) qx qy w h h' cx cy hlx hly
  generalize bthF (qx.map TxnQ.e) (qy.map TxnQ.e) = CC at *
  generalize cmV (qx.map TxnQ.e) (qy.map TxnQ.e) = CV at *
  go_wp2_with fail
  refine (drawHasTxn_any a cap zs w8 (h.below b0) hu hle).mono ?_
  rintro e w10 ⟨vl, ql, ti, ts, tq, ta, tc, txs, rfl, hAl, cl, ll, pl, hb⟩
  replace hAt := hAt.below hb
  replace hAf := hAf.below hb
  replace hAg := hAg.below hb
  replace hAk := hAk.below hb
  replace hAa := hAa.below hb
  replace hAb := hAb.below hb
  replace hAw := hAw.below hb
  replace hAx := hAx.below hb
  replace hAy := hAy.below hb
  replace P0 := P0.below hb
  replace B0 := B0.below hb
  replace b0 := b0.trans (hb.mono b0.size)
  clear hb
  have hll : ql.length ≤ 1048576 := by omega
  obtain ⟨adl, kl, rfl⟩ := hAl.shape
  have himH := fun w h => implHasTxn_any (.slice adl ql.length kl) ql ⟨ti, ts, tq, txs⟩ ta txs.length tc w h hll
  have hspH := fun w h => specHasTxn_any (.slice adl ql.length kl) ql ⟨ti, ts, tq, txs⟩ ta txs.length tc w h hll
  dsimp only at himH hspH
  generalize knw (ql.map TxnQ.e) ⟨ti, ts, tq, txs⟩ = KH at *
  have T0 := Blk.new w10 35 #[.int .i64 ti, .int .i64 ts, .int .i64 tq, .slice ta txs.length tc]
  have hb : Below w10.heap.size w10 (w10.alloc (.cells #[.int .i64 ti, .int .i64 ts, .int .i64 tq, .slice ta txs.length tc] 35)) := by go_grown
  replace hAt := hAt.below hb
  replace hAf := hAf.below hb
  replace hAg := hAg.below hb
  replace hAk := hAk.below hb
  replace hAa := hAa.below hb
  replace hAb := hAb.below hb
  replace hAw := hAw.below hb
  replace hAx := hAx.below hb
  replace hAy := hAy.below hb
  replace hAl := hAl.below hb
  replace P0 := P0.below hb
  replace B0 := B0.below hb
  replace b0 := b0.trans (hb.mono b0.size)
  clear hb
  go_wp2_with fail
  generalize w10.alloc (.cells #[.int .i64 ti, .int .i64 ts, .int .i64 tq, .slice ta txs.length tc] 35) = X at *
  clear h hu hm hle hd pl
  generalize zs.length = ZL at *
  have n1 : (WC != WC) = false := by simp
  have n2 : (CC != CC) = false := by simp
  have n3 : (CV != CV) = false := by simp
  have n4 : (KH != KH) = false := by simp
  have x0 := B0.lat 0 _ rfl
  have x1 := B0.lat 1 _ rfl
  have y0 := T0.lat 0 _ rfl
  have y1 := T0.lat 1 _ rfl
  have y2 := T0.lat 2 _ rfl
  have y3 := T0.lat 3 _ rfl
  have hW : Below X.heap.size X X.drew := (Below.refl _ _).drew
  have hnn : Nonempty (Lat X) := ⟨⟨X, Below.refl _ _⟩⟩
  refine text_begin (S := fun w' => ∃ u : Lat X, w' = u.val) (by kernel_rfl) ?_
  refine seg_range [(0, 4)] 44 (by kernel_rfl) (by kernel_rfl) (by kernel_rfl) (by kernel_rfl) (by kernel_rfl) ⟨⟨_, hW⟩, rfl⟩ ?_
  simp only [pickR, List.toList_toArray, List.flatMap_cons, List.flatMap_nil, List.drop_succ_cons, List.drop_zero, List.take_succ_cons, List.take_zero, List.cons_append, List.nil_append, List.append_nil]
  repeat go_big_quiet_step (fail)
  refine wpQuiet_nil ?_
  refine call_at 4 (some 46) 16 #[.slice ada qa.length ka, .slice adb qb.length kb] 43 (by kernel_rfl) (by kernel_rfl) (by kernel_rfl) (by kernel_rfl) (by kernel_rfl) ?_
  refine (hspW _ (hAa.below hW) (hAb.below hW)).mono ?_
  rintro e w9 ⟨vm46, qm46, rfl, em46, om46, nm46, gm46, hb9⟩
  replace hW := hW.trans (hb9.mono hW.size)
  clear nm46 gm46
  obtain ⟨adm46, km46, rfl⟩ := om46.shape
  clear om46 em46
  clear hb9
  refine ⟨_, rfl, ⟨⟨_, hW⟩, rfl⟩, ?_⟩
  simp only [Act.put, List.setIfInBounds_toArray, List.set_cons_zero, List.set_cons_succ]
  refine quiet_at 5 (some 47) (.int .i64 WC) 42 (by kernel_rfl) (by kernel_rfl) (by kernel_rfl) (by kernel_rfl) (by kernel_rfl) (fun u _ => by kernel_rfl) ⟨⟨_, hW⟩, rfl⟩ ?_
  simp only [Act.put, List.setIfInBounds_toArray, List.set_cons_zero, List.set_cons_succ]
  refine seg_range [(6, 6)] 36 (by kernel_rfl) (by kernel_rfl) (by kernel_rfl) (by kernel_rfl) (by kernel_rfl) ⟨⟨_, hW⟩, rfl⟩ ?_
  simp only [pickR, List.toList_toArray, List.flatMap_cons, List.flatMap_nil, List.drop_succ_cons, List.drop_zero, List.take_succ_cons, List.take_zero, List.cons_append, List.nil_append, List.append_nil]
  repeat go_big_quiet_step (fail)
  refine wpQuiet_nil ?_
  refine call_at 12 (some 54) 16 #[.slice ada qa.length ka, .slice adb qb.length kb] 35 (by kernel_rfl) (by kernel_rfl) (by kernel_rfl) (by kernel_rfl) (by kernel_rfl) ?_
  refine (hspW _ (hAa.below hW) (hAb.below hW)).mono ?_
  rintro e w9 ⟨vm54, qm54, rfl, em54, om54, nm54, gm54, hb9⟩
  replace hW := hW.trans (hb9.mono hW.size)
  clear nm54 gm54
  obtain ⟨adm54, km54, rfl⟩ := om54.shape
  clear hb9
  refine ⟨_, rfl, ⟨⟨_, hW⟩, rfl⟩, ?_⟩
  simp only [Act.put, List.setIfInBounds_toArray, List.set_cons_zero, List.set_cons_succ]
  refine quiet_at 13 (some 55) (.slice adm54 qm54.length km54) 34 (by kernel_rfl) (by kernel_rfl) (by kernel_rfl) (by kernel_rfl) (by kernel_rfl) (fun u _ => by kernel_rfl) ⟨⟨_, hW⟩, rfl⟩ ?_
  simp only [Act.put, List.setIfInBounds_toArray, List.set_cons_zero, List.set_cons_succ]
  refine call_at 14 (some 56) 17 #[.slice adw qw.length kw, .slice adm54 qm54.length km54] 33 (by kernel_rfl) (by kernel_rfl) (by kernel_rfl) (by kernel_rfl) (by kernel_rfl) ?_
  refine (hsame _ _ qw qm54 (ew.trans em54.symm) _ (hAw.below hW) om54.at hlw (by rw [txns_n (em54.trans ew.symm)]; exact hlw)).mono ?_
  rintro e w9 ⟨rfl, hb9⟩
  replace hW := hW.trans (hb9.mono hW.size)
  clear om54 em54
  clear hb9
  refine ⟨_, rfl, ⟨⟨_, hW⟩, rfl⟩, ?_⟩
  simp only [Act.put, List.setIfInBounds_toArray, List.set_cons_zero, List.set_cons_succ]
  refine seg_range [(15, 5), (22, 2)] 26 (by kernel_rfl) (by kernel_rfl) (by kernel_rfl) (by kernel_rfl) (by kernel_rfl) ⟨⟨_, hW⟩, rfl⟩ ?_
  simp only [pickR, List.toList_toArray, List.flatMap_cons, List.flatMap_nil, List.drop_succ_cons, List.drop_zero, List.take_succ_cons, List.take_zero, List.cons_append, List.nil_append, List.append_nil]
  repeat go_big_quiet_step (fail)
  refine wpQuiet_nil ?_
  refine call_at 20 (some 62) 18 #[.slice adx qx.length kx, .slice ady qy.length ky] 25 (by kernel_rfl) (by kernel_rfl) (by kernel_rfl) (by kernel_rfl) (by kernel_rfl) ?_
  refine (himC _ (hAx.below hW) (hAy.below hW)).mono ?_
  rintro e w9 ⟨rfl, hb9⟩
  replace hW := hW.trans (hb9.mono hW.size)
  clear hb9
  refine ⟨_, rfl, ⟨⟨_, hW⟩, rfl⟩, ?_⟩
  simp only [Act.put, List.setIfInBounds_toArray, List.set_cons_zero, List.set_cons_succ]
  refine quiet_at 21 (some 63) (.int .i64 CC) 24 (by kernel_rfl) (by kernel_rfl) (by kernel_rfl) (by kernel_rfl) (by kernel_rfl) (fun u _ => by kernel_rfl) ⟨⟨_, hW⟩, rfl⟩ ?_
  simp only [Act.put, List.setIfInBounds_toArray, List.set_cons_zero, List.set_cons_succ]
  refine call_at 24 (some 66) 19 #[.slice adx qx.length kx, .slice ady qy.length ky] 23 (by kernel_rfl) (by kernel_rfl) (by kernel_rfl) (by kernel_rfl) (by kernel_rfl) ?_
  refine (hspC _ (hAx.below hW) (hAy.below hW)).mono ?_
  rintro e w9 ⟨rfl, hb9⟩
  replace hW := hW.trans (hb9.mono hW.size)
  clear hb9
  refine ⟨_, rfl, ⟨⟨_, hW⟩, rfl⟩, ?_⟩
  simp only [Act.put, List.setIfInBounds_toArray, List.set_cons_zero, List.set_cons_succ]
  refine quiet_at 25 (some 67) (.int .i64 CC) 22 (by kernel_rfl) (by kernel_rfl) (by kernel_rfl) (by kernel_rfl) (by kernel_rfl) (fun u _ => by kernel_rfl) ⟨⟨_, hW⟩, rfl⟩ ?_
  simp only [Act.put, List.setIfInBounds_toArray, List.set_cons_zero, List.set_cons_succ]
  refine seg_range [(26, 5), (33, 2)] 15 (by kernel_rfl) (by kernel_rfl) (by kernel_rfl) (by kernel_rfl) (by kernel_rfl) ⟨⟨_, hW⟩, rfl⟩ ?_
  simp only [pickR, List.toList_toArray, List.flatMap_cons, List.flatMap_nil, List.drop_succ_cons, List.drop_zero, List.take_succ_cons, List.take_zero, List.cons_append, List.nil_append, List.append_nil]
  repeat go_big_quiet_step (fail)
  refine wpQuiet_nil ?_
  refine call_at 31 (some 73) 18 #[.slice adx qx.length kx, .slice ady qy.length ky] 14 (by kernel_rfl) (by kernel_rfl) (by kernel_rfl) (by kernel_rfl) (by kernel_rfl) ?_
  refine (himC _ (hAx.below hW) (hAy.below hW)).mono ?_
  rintro e w9 ⟨rfl, hb9⟩
  replace hW := hW.trans (hb9.mono hW.size)
  clear hb9
  refine ⟨_, rfl, ⟨⟨_, hW⟩, rfl⟩, ?_⟩
  simp only [Act.put, List.setIfInBounds_toArray, List.set_cons_zero, List.set_cons_succ]
  refine quiet_at 32 (some 74) (.int .i64 CV) 13 (by kernel_rfl) (by kernel_rfl) (by kernel_rfl) (by kernel_rfl) (by kernel_rfl) (fun u _ => by kernel_rfl) ⟨⟨_, hW⟩, rfl⟩ ?_
  simp only [Act.put, List.setIfInBounds_toArray, List.set_cons_zero, List.set_cons_succ]
  refine call_at 35 (some 77) 19 #[.slice adx qx.length kx, .slice ady qy.length ky] 12 (by kernel_rfl) (by kernel_rfl) (by kernel_rfl) (by kernel_rfl) (by kernel_rfl) ?_
  refine (hspC _ (hAx.below hW) (hAy.below hW)).mono ?_
  rintro e w9 ⟨rfl, hb9⟩
  replace hW := hW.trans (hb9.mono hW.size)
  clear hb9
  refine ⟨_, rfl, ⟨⟨_, hW⟩, rfl⟩, ?_⟩
  simp only [Act.put, List.setIfInBounds_toArray, List.set_cons_zero, List.set_cons_succ]
  refine quiet_at 36 (some 78) (.int .i64 CV) 11 (by kernel_rfl) (by kernel_rfl) (by kernel_rfl) (by kernel_rfl) (by kernel_rfl) (fun u _ => by kernel_rfl) ⟨⟨_, hW⟩, rfl⟩ ?_
  simp only [Act.put, List.setIfInBounds_toArray, List.set_cons_zero, List.set_cons_succ]
  refine seg_range [(37, 5), (43, 2)] 4 (by kernel_rfl) (by kernel_rfl) (by kernel_rfl) (by kernel_rfl) (by kernel_rfl) ⟨⟨_, hW⟩, rfl⟩ ?_
  simp only [pickR, List.toList_toArray, List.flatMap_cons, List.flatMap_nil, List.drop_succ_cons, List.drop_zero, List.take_succ_cons, List.take_zero, List.cons_append, List.nil_append, List.append_nil]
  repeat go_big_quiet_step (fail)
  refine wpQuiet_nil ?_
  refine call_at 42 (some 84) 20 #[.slice adl ql.length kl, .agg #[.int .i64 ti, .int .i64 ts, .int .i64 tq, .slice ta txs.length tc]] 3 (by kernel_rfl) (by kernel_rfl) (by kernel_rfl) (by kernel_rfl) (by kernel_rfl) ?_
  refine (himH _ (hAl.below hW)).mono ?_
  rintro e w9 ⟨rfl, hb9⟩
  replace hW := hW.trans (hb9.mono hW.size)
  clear hb9
  refine ⟨_, rfl, ⟨⟨_, hW⟩, rfl⟩, ?_⟩
  simp only [Act.put, List.setIfInBounds_toArray, List.set_cons_zero, List.set_cons_succ]
  refine call_at 45 (some 87) 21 #[.slice adl ql.length kl, .agg #[.int .i64 ti, .int .i64 ts, .int .i64 tq, .slice ta txs.length tc]] 2 (by kernel_rfl) (by kernel_rfl) (by kernel_rfl) (by kernel_rfl) (by kernel_rfl) ?_
  refine (hspH _ (hAl.below hW)).mono ?_
  rintro e w9 ⟨rfl, hb9⟩
  replace hW := hW.trans (hb9.mono hW.size)
  clear hb9
  refine ⟨_, rfl, ⟨⟨_, hW⟩, rfl⟩, ?_⟩
  simp only [Act.put, List.setIfInBounds_toArray, List.set_cons_zero, List.set_cons_succ]
  refine seg_range [(46, 2)] 0 (by kernel_rfl) (by kernel_rfl) (by kernel_rfl) (by kernel_rfl) (by kernel_rfl) ⟨⟨_, hW⟩, rfl⟩ ?_
  simp only [pickR, List.toList_toArray, List.flatMap_cons, List.flatMap_nil, List.drop_succ_cons, List.drop_zero, List.take_succ_cons, List.take_zero, List.cons_append, List.nil_append, List.append_nil]
  repeat go_big_quiet_step (fail)
  refine wpQuiet_nil ?_
  refine text_end (by kernel_rfl) ?_
  replace P0 := P0.below hW
  replace b0 := b0.trans (hW.mono b0.size)
  replace hAt := hAt.below hW
  replace hAf := hAf.below hW
  replace hAg := hAg.below hW
  replace hAk := hAk.below hW
  clear x0 x1 y0 y1 y2 y3 hnn hW hspW himC hspC himH hspH B0 T0 hAa hAb hAw hAx hAy hAl n1 n2 n3 n4
  rename World => X2
  have z0 := P0.cell 0 _ rfl
  by_cases hC : C = 0
  · obtain ⟨hK1, ⟨hK2, hK3⟩, hK4, hK5, hN1, hN2⟩ := HPL.out hC
    subst hC
    clear hspP himL hspL HPL
    have hTK := com_take (qt.map TxnQ.e) (qf.map TxnQ.e)
    have hn1 : comN (qt.map TxnQ.e) (qf.map TxnQ.e) ≤ qt.length := by simpa using (com_le (qt.map TxnQ.e) (qf.map TxnQ.e)).1
    have hn2 : comN (qt.map TxnQ.e) (qf.map TxnQ.e) ≤ qf.length := by simpa using (com_le (qt.map TxnQ.e) (qf.map TxnQ.e)).2
    generalize comN (qt.map TxnQ.e) (qf.map TxnQ.e) = n at *
    subst hN1
    have HTK : Hid ((qt.map TxnQ.e).take n = (qf.map TxnQ.e).take n) := hTK
    have HK1 : Hid (lstF (qk.map TxnQ.e) = 0) := hK1
    have HK2 : Hid (wiL (qk.map TxnQ.e) (qf.map TxnQ.e) = qk.map TxnQ.e ∧ bthF (qk.map TxnQ.e) (qf.map TxnQ.e) = 0) := ⟨hK2, hK3⟩
    have HK4 : Hid (∀ t ∈ qt.map TxnQ.e, knw (qf.map TxnQ.e) t = false → knw (qk.map TxnQ.e) t = true) := hK4
    have HK5 : Hid (VB ≠ 0 → 0 < qg.length) := fun h => by simpa using hK5 h
    have HN2 : Hid (qg.map TxnQ.e = (qf.map TxnQ.e).drop n) := hN2
    clear hK1 hK2 hK3 hK4 hK5 hN2 hTK eg ek
    obtain ⟨hct1, hct2⟩ : qt.length ≤ kt ∧ kt ≤ maxLen := ct
    obtain ⟨hcf1, hcf2⟩ : qf.length ≤ kf ∧ kf ≤ maxLen := cf
    have z1 := P0.cell 1 _ rfl
    have m0 : ¬ (n : Int) < 0 := by omega
    have m1 : ¬ (qt.length : Int) < (n : Int) := by omega
    have m2 : ¬ (qf.length : Int) < (n : Int) := by omega
    go_wp2
    clear z0 z1
    go_loopw [13] (fun j wr => ∃ k : Nat, k ≤ qt.length ∧ j = .int .i64 k ∧ Below X2.heap.size X2 wr) (fun j _ => qt.length - (intOf j).toNat)
    case atStart => exact ⟨0, Nat.zero_le _, rfl, Below.refl _ _⟩
    case round =>
      obtain ⟨k, hk, rfl, hb⟩ := hrel
      have P1 := P0.below hb
      have hAt' := hAt.below hb
      have hAf' := hAf.below hb
      have hAg' := hAg.below hb
      have hAk' := hAk.below hb
      have hW : Below wr.heap.size wr wr.drew := (Below.refl _ _).drew
      have hnn : Nonempty (Lat wr) := ⟨⟨wr, Below.refl _ _⟩⟩
      by_cases hltk : k < qt.length
      · have hki : (k : Int) < (qt.length : Int) := by omega
        obtain ⟨bb, off, rfl, hbs, hcm, hrd⟩ := hAt'.cell (by decide) k hltk
        have hc' : ∀ j x, (txnK.cells qt[k])[j]? = some x → wr.cell? ⟨bb, off + k * 4 + j, none⟩ = some x := hcm
        have c0 := hc' 0 (.int .i64 qt[k].i) rfl
        have c1 := hc' 1 (.int .i64 qt[k].s) rfl
        have c2 := hc' 2 (.int .i64 qt[k].q) rfl
        have c3 := hc' 3 (qt[k].va) rfl
        rw [Nat.add_zero] at c0
        have HKK : Hid (knw (qf.map TxnQ.e) (TxnQ.e qt[k]) = false → knw (qk.map TxnQ.e) (TxnQ.e qt[k]) = true) := fun hx => HK4.out _ (List.mem_map.2 ⟨_, List.getElem_mem hltk, rfl⟩) hx
        clear hcm hc'
        generalize qt[k] = z at *
        obtain ⟨zi, zs_, zq, zva, zacts⟩ := z
        replace hrd : actK.At wr zva zacts := hrd
        obtain ⟨za, zc, rfl⟩ := hrd.shape
        have himF := fun w h => implHasTxn_any (.slice adf qf.length kf) qf ⟨zi, zs_, zq, zacts⟩ za zacts.length zc w h (by omega)
        have himK := fun w h => implHasTxn_any (.slice adk qk.length kk) qk ⟨zi, zs_, zq, zacts⟩ za zacts.length zc w h (by omega)
        dsimp only [TxnQ.e] at c0 c1 c2 c3 HKK himF himK
        generalize knw (qf.map TxnQ.e) ⟨zi, zs_, zq, zacts⟩ = K1 at *
        generalize knw (qk.map TxnQ.e) ⟨zi, zs_, zq, zacts⟩ = K2 at *
        replace c0 := lat_cell c0
        replace c1 := lat_cell c1
        replace c2 := lat_cell c2
        replace c3 := lat_cell c3
        have y4 := P1.lat 4 _ rfl
        clear hrd HK1 HK2 HK4 HK5 HN2 HTK hAt' hAg'
        go_wp2_with fail
        refine text_begin (S := fun w' => ∃ u : Lat wr, w' = u.val) (by kernel_rfl) ?_
        cases K1 with
        | true =>
          refine seg_range [(0, 5)] 12 (by kernel_rfl) (by kernel_rfl) (by kernel_rfl) (by kernel_rfl) (by kernel_rfl) ⟨⟨_, hW⟩, rfl⟩ ?_
          simp only [pickR, List.toList_toArray, List.flatMap_cons, List.flatMap_nil, List.drop_succ_cons, List.drop_zero, List.take_succ_cons, List.take_zero, List.cons_append, List.nil_append, List.append_nil]
          repeat go_big_quiet_step (fail)
          refine wpQuiet_nil ?_
          refine call_at 5 (some 135) 20 #[.slice adf qf.length kf, .agg #[.int .i64 zi, .int .i64 zs_, .int .i64 zq, .slice za zacts.length zc]] 11 (by kernel_rfl) (by kernel_rfl) (by kernel_rfl) (by kernel_rfl) (by kernel_rfl) ?_
          refine (himF _ (hAf'.below hW)).mono ?_
          rintro e w9 ⟨rfl, hb9⟩
          replace hW := hW.trans (hb9.mono hW.size)
          clear hb9
          refine ⟨_, rfl, ⟨⟨_, hW⟩, rfl⟩, ?_⟩
          simp only [Act.put, List.setIfInBounds_toArray, List.set_cons_zero, List.set_cons_succ]
          refine seg_range [(6, 8)] 3 (by kernel_rfl) (by kernel_rfl) (by kernel_rfl) (by kernel_rfl) (by kernel_rfl) ⟨⟨_, hW⟩, rfl⟩ ?_
          simp only [pickR, List.toList_toArray, List.flatMap_cons, List.flatMap_nil, List.drop_succ_cons, List.drop_zero, List.take_succ_cons, List.take_zero, List.cons_append, List.nil_append, List.append_nil]
          repeat go_big_quiet_step (fail)
          refine wpQuiet_nil ?_
          refine skip_at 14 (some 144) 2 (by kernel_rfl) (by kernel_rfl) (by kernel_rfl) (by kernel_rfl) (by kernel_rfl) ⟨⟨_, hW⟩, rfl⟩ ?_
          simp only [Act.put, List.setIfInBounds_toArray, List.set_cons_zero, List.set_cons_succ]
          refine seg_range [(15, 2)] 0 (by kernel_rfl) (by kernel_rfl) (by kernel_rfl) (by kernel_rfl) (by kernel_rfl) ⟨⟨_, hW⟩, rfl⟩ ?_
          simp only [pickR, List.toList_toArray, List.flatMap_cons, List.flatMap_nil, List.drop_succ_cons, List.drop_zero, List.take_succ_cons, List.take_zero, List.cons_append, List.nil_append, List.append_nil]
          repeat go_big_quiet_step (fail)
          refine wpQuiet_nil ?_
          refine text_end (by kernel_rfl) ?_
          replace hb := hb.trans (hW.mono hb.size)
          clear c0 c1 c2 c3 y4 hW hnn himF himK P1 hAf' hAk'
          go_wp2
          go_roundw
          case rel => exact ⟨k + 1, by omega, by go_num, hb⟩
          case measure => simp [intOf]; omega
        | false =>
          have hK2t := HKK.out rfl
          subst hK2t
          refine seg_range [(0, 5)] 12 (by kernel_rfl) (by kernel_rfl) (by kernel_rfl) (by kernel_rfl) (by kernel_rfl) ⟨⟨_, hW⟩, rfl⟩ ?_
          simp only [pickR, List.toList_toArray, List.flatMap_cons, List.flatMap_nil, List.drop_succ_cons, List.drop_zero, List.take_succ_cons, List.take_zero, List.cons_append, List.nil_append, List.append_nil]
          repeat go_big_quiet_step (fail)
          refine wpQuiet_nil ?_
          refine call_at 5 (some 135) 20 #[.slice adf qf.length kf, .agg #[.int .i64 zi, .int .i64 zs_, .int .i64 zq, .slice za zacts.length zc]] 11 (by kernel_rfl) (by kernel_rfl) (by kernel_rfl) (by kernel_rfl) (by kernel_rfl) ?_
          refine (himF _ (hAf'.below hW)).mono ?_
          rintro e w9 ⟨rfl, hb9⟩
          replace hW := hW.trans (hb9.mono hW.size)
          clear hb9
          refine ⟨_, rfl, ⟨⟨_, hW⟩, rfl⟩, ?_⟩
          simp only [Act.put, List.setIfInBounds_toArray, List.set_cons_zero, List.set_cons_succ]
          refine seg_range [(6, 8)] 3 (by kernel_rfl) (by kernel_rfl) (by kernel_rfl) (by kernel_rfl) (by kernel_rfl) ⟨⟨_, hW⟩, rfl⟩ ?_
          simp only [pickR, List.toList_toArray, List.flatMap_cons, List.flatMap_nil, List.drop_succ_cons, List.drop_zero, List.take_succ_cons, List.take_zero, List.cons_append, List.nil_append, List.append_nil]
          repeat go_big_quiet_step (fail)
          refine wpQuiet_nil ?_
          refine call_at 14 (some 144) 20 #[.slice adk qk.length kk, .agg #[.int .i64 zi, .int .i64 zs_, .int .i64 zq, .slice za zacts.length zc]] 2 (by kernel_rfl) (by kernel_rfl) (by kernel_rfl) (by kernel_rfl) (by kernel_rfl) ?_
          refine (himK _ (hAk'.below hW)).mono ?_
          rintro e w9 ⟨rfl, hb9⟩
          replace hW := hW.trans (hb9.mono hW.size)
          clear hb9
          refine ⟨_, rfl, ⟨⟨_, hW⟩, rfl⟩, ?_⟩
          simp only [Act.put, List.setIfInBounds_toArray, List.set_cons_zero, List.set_cons_succ]
          refine seg_range [(15, 2)] 0 (by kernel_rfl) (by kernel_rfl) (by kernel_rfl) (by kernel_rfl) (by kernel_rfl) ⟨⟨_, hW⟩, rfl⟩ ?_
          simp only [pickR, List.toList_toArray, List.flatMap_cons, List.flatMap_nil, List.drop_succ_cons, List.drop_zero, List.take_succ_cons, List.take_zero, List.cons_append, List.nil_append, List.append_nil]
          repeat go_big_quiet_step (fail)
          refine wpQuiet_nil ?_
          refine text_end (by kernel_rfl) ?_
          replace hb := hb.trans (hW.mono hb.size)
          clear c0 c1 c2 c3 y4 hW hnn himF himK P1 hAf' hAk'
          go_wp2
          go_roundw
          case rel => exact ⟨k + 1, by omega, by go_num, hb⟩
          case measure => simp [intOf]; omega
      · have hki : ¬ (k : Int) < (qt.length : Int) := by omega
        have y1 := P1.lat 1 _ rfl
        have y2 := P1.lat 2 _ rfl
        have y3 := P1.lat 3 _ rfl
        have y4 := P1.lat 4 _ rfl
        have hn0i : (0 : Int) ≤ (n : Int) := by omega
        obtain ⟨rtq, hrtq⟩ : ∃ l, l = qt.take n := ⟨_, rfl⟩
        obtain ⟨rfq, hrfq⟩ : ∃ l, l = qf.take n := ⟨_, rfl⟩
        obtain ⟨rdq, hrdq⟩ : ∃ l, l = qf.drop n := ⟨_, rfl⟩
        have hl1 : rtq.length = n := by rw [hrtq, List.length_take]; omega
        have hl2 : rfq.length = n := by rw [hrfq, List.length_take]; omega
        have hl3 : rdq.length = qf.length - n := by rw [hrdq, List.length_drop]
        obtain ⟨rt, rct, hst, hArt⟩ : ∃ rt rct, (∀ u : Lat wr, (Instr.sliceAt 24 (.slice adt qt.length kt) none (some (.int .i64 n)) none).run Try.prog u.val = .ok (.slice rt rtq.length rct) u.val) ∧ ∀ w, txnK.At w (.slice adt qt.length kt) qt → txnK.At w (.slice rt rtq.length rct) rtq := by
          refine ⟨adt, kt, fun u => ?_, fun w h => by rw [hl1, hrtq]; exact h.takeK n hn1⟩
          rw [run_sliceAt_slice u.val 24 _ _ _ _ (by kernel_rfl), run_slice_h u.val 24 adt qt.length kt (by kernel_rfl) .i64 (n : Int) hn0i (by omega), hl1]
          refine Eq.trans (b := .ok (.slice (if kt = 0 then adt else adt.map (fun x => x.add (0 * 4))) (n - 0) (kt - 0)) u.val) rfl ?_
          rw [slice0, Nat.sub_zero, Nat.sub_zero]
        obtain ⟨rf, rcf, hsf, hArf⟩ : ∃ rt rct, (∀ u : Lat wr, (Instr.sliceAt 24 (.slice adf qf.length kf) none (some (.int .i64 n)) none).run Try.prog u.val = .ok (.slice rt rfq.length rct) u.val) ∧ ∀ w, txnK.At w (.slice adf qf.length kf) qf → txnK.At w (.slice rt rfq.length rct) rfq := by
          refine ⟨adf, kf, fun u => ?_, fun w h => by rw [hl2, hrfq]; exact h.takeK n hn2⟩
          rw [run_sliceAt_slice u.val 24 _ _ _ _ (by kernel_rfl), run_slice_h u.val 24 adf qf.length kf (by kernel_rfl) .i64 (n : Int) hn0i (by omega), hl2]
          refine Eq.trans (b := .ok (.slice (if kf = 0 then adf else adf.map (fun x => x.add (0 * 4))) (n - 0) (kf - 0)) u.val) rfl ?_
          rw [slice0, Nat.sub_zero, Nat.sub_zero]
        obtain ⟨rd, rcd, hsd, hArd⟩ : ∃ rt rct, (∀ u : Lat wr, (Instr.sliceAt 24 (.slice adf qf.length kf) (some (.int .i64 n)) none none).run Try.prog u.val = .ok (.slice rt rdq.length rct) u.val) ∧ ∀ w, txnK.At w (.slice adf qf.length kf) qf → txnK.At w (.slice rt rdq.length rct) rdq := by
          refine ⟨_, _, fun u => ?_, fun w h => by rw [hrdq]; exact h.dropS n hn2 hcf1 (kf - n)⟩
          rw [run_sliceAt_slice u.val 24 _ _ _ _ (by kernel_rfl), run_slice_l u.val 24 adf qf.length kf (by kernel_rfl) .i64 (n : Int) hn0i (by omega), hl3]
          rfl
        have ertf : rtq.map TxnQ.e = rfq.map TxnQ.e := by rw [hrtq, hrfq, List.map_take, List.map_take]; exact HTK.out
        have egd : qg.map TxnQ.e = rdq.map TxnQ.e := by rw [hrdq, List.map_drop]; exact HN2.out
        have hlrt : rtq.length + nmL TxnQ.n rtq ≤ 1048576 := by rw [hrtq, List.length_take]; have := nmL_le TxnQ.n qt n; omega
        have hlrf : rfq.length + nmL TxnQ.n rfq ≤ 1048576 := by rw [hrfq, List.length_take]; have := nmL_le TxnQ.n qf n; omega
        have hlrd : rdq.length + nmL TxnQ.n rdq ≤ 1048576 := by rw [hrdq]; have := drop_n qf n; omega
        have himLk := fun w h => implListFault_any (.slice adk qk.length kk) qk w h hlk
        rw [HK1.out] at himLk
        have himWk := fun w h h' => implWithout_any (.slice adk qk.length kk) (.slice adf qf.length kf) qk qf w h h' hlk hlf
        rw [HK2.out.1, HK2.out.2] at himWk
        have hK7 : Hid (∀ q7 : List TxnQ, q7.map TxnQ.e = qk.map TxnQ.e → q7.length = qk.length) := fun q7 h7 => by simpa using congrArg List.length h7
        have HE1 : Hid _ := ertf
        have HE2 : Hid _ := egd
        clear hrtq hrfq hrdq hl1 hl2 hl3 HTK HN2 HK1 HK2 HK4 ertf egd
        by_cases hv : VB = 0
        · have hvb : (VB == 0) = true := by rw [hv]; rfl
          clear HK5 hv
          go_wp2_with fail
          refine text_begin (S := fun w' => ∃ u : Lat wr, w' = u.val) (by kernel_rfl) ?_
          refine seg_range [(0, 3), (4, 3)] 42 (by kernel_rfl) (by kernel_rfl) (by kernel_rfl) (by kernel_rfl) (by kernel_rfl) ⟨⟨_, hW⟩, rfl⟩ ?_
          simp only [pickR, List.toList_toArray, List.flatMap_cons, List.flatMap_nil, List.drop_succ_cons, List.drop_zero, List.take_succ_cons, List.take_zero, List.cons_append, List.nil_append, List.append_nil]
          repeat go_big_quiet_step (fail)
          refine wpQuiet_nil ?_
          refine quiet_at 3 (some 150) (.slice rt rtq.length rct) 41 (by kernel_rfl) (by kernel_rfl) (by kernel_rfl) (by kernel_rfl) (by kernel_rfl) (fun u hu => ?_) ⟨⟨_, hW⟩, rfl⟩ ?_
          · obtain ⟨u, rfl⟩ := hu
            refine Eq.trans (b := some (((Instr.sliceAt 24 (.slice adt qt.length kt) none (some (.int .i64 n)) none) >>= fun x => pure (Next.value x) : Sem Next).run Try.prog u.val)) (by kernel_rfl) ?_
            rw [Sem.run_bind, hst u]
            rfl
          simp only [Act.put, List.setIfInBounds_toArray, List.set_cons_zero, List.set_cons_succ]
          refine quiet_at 7 (some 154) (.slice rf rfq.length rcf) 40 (by kernel_rfl) (by kernel_rfl) (by kernel_rfl) (by kernel_rfl) (by kernel_rfl) (fun u hu => ?_) ⟨⟨_, hW⟩, rfl⟩ ?_
          · obtain ⟨u, rfl⟩ := hu
            refine Eq.trans (b := some (((Instr.sliceAt 24 (.slice adf qf.length kf) none (some (.int .i64 n)) none) >>= fun x => pure (Next.value x) : Sem Next).run Try.prog u.val)) (by kernel_rfl) ?_
            rw [Sem.run_bind, hsf u]
            rfl
          simp only [Act.put, List.setIfInBounds_toArray, List.set_cons_zero, List.set_cons_succ]
          refine call_at 8 (some 155) 17 #[.slice rt rtq.length rct, .slice rf rfq.length rcf] 39 (by kernel_rfl) (by kernel_rfl) (by kernel_rfl) (by kernel_rfl) (by kernel_rfl) ?_
          refine (hsame _ _ rtq rfq HE1.out _ (hArt _ (hAt'.below hW)) (hArf _ (hAf'.below hW)) hlrt hlrf).mono ?_
          rintro e w9 ⟨rfl, hb9⟩
          replace hW := hW.trans (hb9.mono hW.size)
          clear hb9
          refine ⟨_, rfl, ⟨⟨_, hW⟩, rfl⟩, ?_⟩
          simp only [Act.put, List.setIfInBounds_toArray, List.set_cons_zero, List.set_cons_succ]
          refine seg_range [(9, 6)] 33 (by kernel_rfl) (by kernel_rfl) (by kernel_rfl) (by kernel_rfl) (by kernel_rfl) ⟨⟨_, hW⟩, rfl⟩ ?_
          simp only [pickR, List.toList_toArray, List.flatMap_cons, List.flatMap_nil, List.drop_succ_cons, List.drop_zero, List.take_succ_cons, List.take_zero, List.cons_append, List.nil_append, List.append_nil]
          repeat go_big_quiet_step (fail)
          refine wpQuiet_nil ?_
          refine quiet_at 15 (some 162) (.slice rd rdq.length rcd) 32 (by kernel_rfl) (by kernel_rfl) (by kernel_rfl) (by kernel_rfl) (by kernel_rfl) (fun u hu => ?_) ⟨⟨_, hW⟩, rfl⟩ ?_
          · obtain ⟨u, rfl⟩ := hu
            refine Eq.trans (b := some (((Instr.sliceAt 24 (.slice adf qf.length kf) (some (.int .i64 n)) none none) >>= fun x => pure (Next.value x) : Sem Next).run Try.prog u.val)) (by kernel_rfl) ?_
            rw [Sem.run_bind, hsd u]
            rfl
          simp only [Act.put, List.setIfInBounds_toArray, List.set_cons_zero, List.set_cons_succ]
          refine call_at 16 (some 163) 17 #[.slice adg qg.length kg, .slice rd rdq.length rcd] 31 (by kernel_rfl) (by kernel_rfl) (by kernel_rfl) (by kernel_rfl) (by kernel_rfl) ?_
          refine (hsame _ _ qg rdq HE2.out _ (hAg'.below hW) (hArd _ (hAf'.below hW)) hlg hlrd).mono ?_
          rintro e w9 ⟨rfl, hb9⟩
          replace hW := hW.trans (hb9.mono hW.size)
          clear hb9
          refine ⟨_, rfl, ⟨⟨_, hW⟩, rfl⟩, ?_⟩
          simp only [Act.put, List.setIfInBounds_toArray, List.set_cons_zero, List.set_cons_succ]
          refine seg_range [(17, 8)] 23 (by kernel_rfl) (by kernel_rfl) (by kernel_rfl) (by kernel_rfl) (by kernel_rfl) ⟨⟨_, hW⟩, rfl⟩ ?_
          simp only [pickR, List.toList_toArray, List.flatMap_cons, List.flatMap_nil, List.drop_succ_cons, List.drop_zero, List.take_succ_cons, List.take_zero, List.cons_append, List.nil_append, List.append_nil]
          repeat go_big_quiet_step (fail)
          refine wpQuiet_nil ?_
          refine skip_at 25 (some 172) 22 (by kernel_rfl) (by kernel_rfl) (by kernel_rfl) (by kernel_rfl) (by kernel_rfl) ⟨⟨_, hW⟩, rfl⟩ ?_
          simp only [Act.put, List.setIfInBounds_toArray, List.set_cons_zero, List.set_cons_succ]
          refine seg_range [(26, 6)] 16 (by kernel_rfl) (by kernel_rfl) (by kernel_rfl) (by kernel_rfl) (by kernel_rfl) ⟨⟨_, hW⟩, rfl⟩ ?_
          simp only [pickR, List.toList_toArray, List.flatMap_cons, List.flatMap_nil, List.drop_succ_cons, List.drop_zero, List.take_succ_cons, List.take_zero, List.cons_append, List.nil_append, List.append_nil]
          repeat go_big_quiet_step (fail)
          refine wpQuiet_nil ?_
          refine call_at 32 (some 179) 23 #[.slice adk qk.length kk] 15 (by kernel_rfl) (by kernel_rfl) (by kernel_rfl) (by kernel_rfl) (by kernel_rfl) ?_
          refine (himLk _ (hAk'.below hW)).mono ?_
          rintro e w9 ⟨rfl, hb9⟩
          replace hW := hW.trans (hb9.mono hW.size)
          clear hb9
          refine ⟨_, rfl, ⟨⟨_, hW⟩, rfl⟩, ?_⟩
          simp only [Act.put, List.setIfInBounds_toArray, List.set_cons_zero, List.set_cons_succ]
          refine seg_range [(33, 6), (42, 2)] 7 (by kernel_rfl) (by kernel_rfl) (by kernel_rfl) (by kernel_rfl) (by kernel_rfl) ⟨⟨_, hW⟩, rfl⟩ ?_
          simp only [pickR, List.toList_toArray, List.flatMap_cons, List.flatMap_nil, List.drop_succ_cons, List.drop_zero, List.take_succ_cons, List.take_zero, List.cons_append, List.nil_append, List.append_nil]
          repeat go_big_quiet_step (fail)
          refine wpQuiet_nil ?_
          refine quiet_at 44 (some 191) (.int .i64 qk.length) 6 (by kernel_rfl) (by kernel_rfl) (by kernel_rfl) (by kernel_rfl) (by kernel_rfl) (fun u _ => by kernel_rfl) ⟨⟨_, hW⟩, rfl⟩ ?_
          simp only [Act.put, List.setIfInBounds_toArray, List.set_cons_zero, List.set_cons_succ]
          refine call_at 39 (some 186) 13 #[.slice adk qk.length kk, .slice adf qf.length kf] 5 (by kernel_rfl) (by kernel_rfl) (by kernel_rfl) (by kernel_rfl) (by kernel_rfl) ?_
          refine (himWk _ (hAk'.below hW) (hAf'.below hW)).mono ?_
          rintro e w9 ⟨v7, q7, rfl, e7, o7, n7, g7, hb9⟩
          replace hW := hW.trans (hb9.mono hW.size)
          clear n7 g7
          obtain ⟨a7, k7, rfl⟩ := o7.shape
          have hq7 : ((q7.length : Int) == (qk.length : Int)) = true := by rw [hK7.out q7 e7]; simp
          clear e7 o7
          clear hb9
          refine ⟨_, rfl, ⟨⟨_, hW⟩, rfl⟩, ?_⟩
          simp only [Act.put, List.setIfInBounds_toArray, List.set_cons_zero, List.set_cons_succ]
          refine quiet_at 40 (some 187) (.slice a7 q7.length k7) 4 (by kernel_rfl) (by kernel_rfl) (by kernel_rfl) (by kernel_rfl) (by kernel_rfl) (fun u _ => by kernel_rfl) ⟨⟨_, hW⟩, rfl⟩ ?_
          simp only [Act.put, List.setIfInBounds_toArray, List.set_cons_zero, List.set_cons_succ]
          refine quiet_at 41 (some 188) (.int .i64 q7.length) 3 (by kernel_rfl) (by kernel_rfl) (by kernel_rfl) (by kernel_rfl) (by kernel_rfl) (fun u _ => by kernel_rfl) ⟨⟨_, hW⟩, rfl⟩ ?_
          simp only [Act.put, List.setIfInBounds_toArray, List.set_cons_zero, List.set_cons_succ]
          refine seg_range [(45, 3)] 0 (by kernel_rfl) (by kernel_rfl) (by kernel_rfl) (by kernel_rfl) (by kernel_rfl) ⟨⟨_, hW⟩, rfl⟩ ?_
          simp only [pickR, List.toList_toArray, List.flatMap_cons, List.flatMap_nil, List.drop_succ_cons, List.drop_zero, List.take_succ_cons, List.take_zero, List.cons_append, List.nil_append, List.append_nil]
          repeat go_big_quiet_step (fail)
          refine wpQuiet_nil ?_
          refine text_end (by kernel_rfl) ?_
          replace hb := hb.trans (hW.mono hb.size)
          replace b0 := b0.trans (hb.mono b0.size)
          go_wp2
          go_ret
          exact ⟨rfl, b0⟩
        · have hvb : (VB == 0) = false := by simpa using hv
          have hg0 : (0 : Int) < (qg.length : Int) := by have := HK5.out hv; omega
          have hg0' : 0 < qg.length := by omega
          clear HK5 hv
          go_wp2_with fail
          refine text_begin (S := fun w' => ∃ u : Lat wr, w' = u.val) (by kernel_rfl) ?_
          refine seg_range [(0, 3), (4, 3)] 42 (by kernel_rfl) (by kernel_rfl) (by kernel_rfl) (by kernel_rfl) (by kernel_rfl) ⟨⟨_, hW⟩, rfl⟩ ?_
          simp only [pickR, List.toList_toArray, List.flatMap_cons, List.flatMap_nil, List.drop_succ_cons, List.drop_zero, List.take_succ_cons, List.take_zero, List.cons_append, List.nil_append, List.append_nil]
          repeat go_big_quiet_step (fail)
          refine wpQuiet_nil ?_
          refine quiet_at 3 (some 150) (.slice rt rtq.length rct) 41 (by kernel_rfl) (by kernel_rfl) (by kernel_rfl) (by kernel_rfl) (by kernel_rfl) (fun u hu => ?_) ⟨⟨_, hW⟩, rfl⟩ ?_
          · obtain ⟨u, rfl⟩ := hu
            refine Eq.trans (b := some (((Instr.sliceAt 24 (.slice adt qt.length kt) none (some (.int .i64 n)) none) >>= fun x => pure (Next.value x) : Sem Next).run Try.prog u.val)) (by kernel_rfl) ?_
            rw [Sem.run_bind, hst u]
            rfl
          simp only [Act.put, List.setIfInBounds_toArray, List.set_cons_zero, List.set_cons_succ]
          refine quiet_at 7 (some 154) (.slice rf rfq.length rcf) 40 (by kernel_rfl) (by kernel_rfl) (by kernel_rfl) (by kernel_rfl) (by kernel_rfl) (fun u hu => ?_) ⟨⟨_, hW⟩, rfl⟩ ?_
          · obtain ⟨u, rfl⟩ := hu
            refine Eq.trans (b := some (((Instr.sliceAt 24 (.slice adf qf.length kf) none (some (.int .i64 n)) none) >>= fun x => pure (Next.value x) : Sem Next).run Try.prog u.val)) (by kernel_rfl) ?_
            rw [Sem.run_bind, hsf u]
            rfl
          simp only [Act.put, List.setIfInBounds_toArray, List.set_cons_zero, List.set_cons_succ]
          refine call_at 8 (some 155) 17 #[.slice rt rtq.length rct, .slice rf rfq.length rcf] 39 (by kernel_rfl) (by kernel_rfl) (by kernel_rfl) (by kernel_rfl) (by kernel_rfl) ?_
          refine (hsame _ _ rtq rfq HE1.out _ (hArt _ (hAt'.below hW)) (hArf _ (hAf'.below hW)) hlrt hlrf).mono ?_
          rintro e w9 ⟨rfl, hb9⟩
          replace hW := hW.trans (hb9.mono hW.size)
          clear hb9
          refine ⟨_, rfl, ⟨⟨_, hW⟩, rfl⟩, ?_⟩
          simp only [Act.put, List.setIfInBounds_toArray, List.set_cons_zero, List.set_cons_succ]
          refine seg_range [(9, 6)] 33 (by kernel_rfl) (by kernel_rfl) (by kernel_rfl) (by kernel_rfl) (by kernel_rfl) ⟨⟨_, hW⟩, rfl⟩ ?_
          simp only [pickR, List.toList_toArray, List.flatMap_cons, List.flatMap_nil, List.drop_succ_cons, List.drop_zero, List.take_succ_cons, List.take_zero, List.cons_append, List.nil_append, List.append_nil]
          repeat go_big_quiet_step (fail)
          refine wpQuiet_nil ?_
          refine quiet_at 15 (some 162) (.slice rd rdq.length rcd) 32 (by kernel_rfl) (by kernel_rfl) (by kernel_rfl) (by kernel_rfl) (by kernel_rfl) (fun u hu => ?_) ⟨⟨_, hW⟩, rfl⟩ ?_
          · obtain ⟨u, rfl⟩ := hu
            refine Eq.trans (b := some (((Instr.sliceAt 24 (.slice adf qf.length kf) (some (.int .i64 n)) none none) >>= fun x => pure (Next.value x) : Sem Next).run Try.prog u.val)) (by kernel_rfl) ?_
            rw [Sem.run_bind, hsd u]
            rfl
          simp only [Act.put, List.setIfInBounds_toArray, List.set_cons_zero, List.set_cons_succ]
          refine call_at 16 (some 163) 17 #[.slice adg qg.length kg, .slice rd rdq.length rcd] 31 (by kernel_rfl) (by kernel_rfl) (by kernel_rfl) (by kernel_rfl) (by kernel_rfl) ?_
          refine (hsame _ _ qg rdq HE2.out _ (hAg'.below hW) (hArd _ (hAf'.below hW)) hlg hlrd).mono ?_
          rintro e w9 ⟨rfl, hb9⟩
          replace hW := hW.trans (hb9.mono hW.size)
          clear hb9
          refine ⟨_, rfl, ⟨⟨_, hW⟩, rfl⟩, ?_⟩
          simp only [Act.put, List.setIfInBounds_toArray, List.set_cons_zero, List.set_cons_succ]
          refine seg_range [(17, 8)] 23 (by kernel_rfl) (by kernel_rfl) (by kernel_rfl) (by kernel_rfl) (by kernel_rfl) ⟨⟨_, hW⟩, rfl⟩ ?_
          simp only [pickR, List.toList_toArray, List.flatMap_cons, List.flatMap_nil, List.drop_succ_cons, List.drop_zero, List.take_succ_cons, List.take_zero, List.cons_append, List.nil_append, List.append_nil]
          repeat go_big_quiet_step (fail)
          refine wpQuiet_nil ?_
          refine quiet_at 25 (some 172) (.int .i64 qg.length) 22 (by kernel_rfl) (by kernel_rfl) (by kernel_rfl) (by kernel_rfl) (by kernel_rfl) (fun u _ => by kernel_rfl) ⟨⟨_, hW⟩, rfl⟩ ?_
          simp only [Act.put, List.setIfInBounds_toArray, List.set_cons_zero, List.set_cons_succ]
          refine seg_range [(26, 6)] 16 (by kernel_rfl) (by kernel_rfl) (by kernel_rfl) (by kernel_rfl) (by kernel_rfl) ⟨⟨_, hW⟩, rfl⟩ ?_
          simp only [pickR, List.toList_toArray, List.flatMap_cons, List.flatMap_nil, List.drop_succ_cons, List.drop_zero, List.take_succ_cons, List.take_zero, List.cons_append, List.nil_append, List.append_nil]
          repeat go_big_quiet_step (fail)
          refine wpQuiet_nil ?_
          refine call_at 32 (some 179) 23 #[.slice adk qk.length kk] 15 (by kernel_rfl) (by kernel_rfl) (by kernel_rfl) (by kernel_rfl) (by kernel_rfl) ?_
          refine (himLk _ (hAk'.below hW)).mono ?_
          rintro e w9 ⟨rfl, hb9⟩
          replace hW := hW.trans (hb9.mono hW.size)
          clear hb9
          refine ⟨_, rfl, ⟨⟨_, hW⟩, rfl⟩, ?_⟩
          simp only [Act.put, List.setIfInBounds_toArray, List.set_cons_zero, List.set_cons_succ]
          refine seg_range [(33, 6), (42, 2)] 7 (by kernel_rfl) (by kernel_rfl) (by kernel_rfl) (by kernel_rfl) (by kernel_rfl) ⟨⟨_, hW⟩, rfl⟩ ?_
          simp only [pickR, List.toList_toArray, List.flatMap_cons, List.flatMap_nil, List.drop_succ_cons, List.drop_zero, List.take_succ_cons, List.take_zero, List.cons_append, List.nil_append, List.append_nil]
          repeat go_big_quiet_step (fail)
          refine wpQuiet_nil ?_
          refine quiet_at 44 (some 191) (.int .i64 qk.length) 6 (by kernel_rfl) (by kernel_rfl) (by kernel_rfl) (by kernel_rfl) (by kernel_rfl) (fun u _ => by kernel_rfl) ⟨⟨_, hW⟩, rfl⟩ ?_
          simp only [Act.put, List.setIfInBounds_toArray, List.set_cons_zero, List.set_cons_succ]
          refine call_at 39 (some 186) 13 #[.slice adk qk.length kk, .slice adf qf.length kf] 5 (by kernel_rfl) (by kernel_rfl) (by kernel_rfl) (by kernel_rfl) (by kernel_rfl) ?_
          refine (himWk _ (hAk'.below hW) (hAf'.below hW)).mono ?_
          rintro e w9 ⟨v7, q7, rfl, e7, o7, n7, g7, hb9⟩
          replace hW := hW.trans (hb9.mono hW.size)
          clear n7 g7
          obtain ⟨a7, k7, rfl⟩ := o7.shape
          have hq7 : ((q7.length : Int) == (qk.length : Int)) = true := by rw [hK7.out q7 e7]; simp
          clear e7 o7
          clear hb9
          refine ⟨_, rfl, ⟨⟨_, hW⟩, rfl⟩, ?_⟩
          simp only [Act.put, List.setIfInBounds_toArray, List.set_cons_zero, List.set_cons_succ]
          refine quiet_at 40 (some 187) (.slice a7 q7.length k7) 4 (by kernel_rfl) (by kernel_rfl) (by kernel_rfl) (by kernel_rfl) (by kernel_rfl) (fun u _ => by kernel_rfl) ⟨⟨_, hW⟩, rfl⟩ ?_
          simp only [Act.put, List.setIfInBounds_toArray, List.set_cons_zero, List.set_cons_succ]
          refine quiet_at 41 (some 188) (.int .i64 q7.length) 3 (by kernel_rfl) (by kernel_rfl) (by kernel_rfl) (by kernel_rfl) (by kernel_rfl) (fun u _ => by kernel_rfl) ⟨⟨_, hW⟩, rfl⟩ ?_
          simp only [Act.put, List.setIfInBounds_toArray, List.set_cons_zero, List.set_cons_succ]
          refine seg_range [(45, 3)] 0 (by kernel_rfl) (by kernel_rfl) (by kernel_rfl) (by kernel_rfl) (by kernel_rfl) ⟨⟨_, hW⟩, rfl⟩ ?_
          simp only [pickR, List.toList_toArray, List.flatMap_cons, List.flatMap_nil, List.drop_succ_cons, List.drop_zero, List.take_succ_cons, List.take_zero, List.cons_append, List.nil_append, List.append_nil]
          repeat go_big_quiet_step (fail)
          refine wpQuiet_nil ?_
          refine text_end (by kernel_rfl) ?_
          replace hb := hb.trans (hW.mono hb.size)
          replace b0 := b0.trans (hb.mono b0.size)
          go_wp2
          go_ret
          exact ⟨rfl, b0⟩
  · have hC' : (C != 0) = true := by simpa using hC
    have e1 : (C == C) = true := by simp
    generalize lstF (qt.map TxnQ.e) = LT at *
    have e2 : (LT == LT) = true := by simp
    go_wp2_with fail
    clear z0
    have z0 := P0.lat 0 _ rfl
    have hW : Below X2.heap.size X2 X2.drew := (Below.refl _ _).drew
    have hnn : Nonempty (Lat X2) := ⟨⟨X2, Below.refl _ _⟩⟩
    refine text_begin (S := fun w' => ∃ u : Lat X2, w' = u.val) (by kernel_rfl) ?_
    refine seg_range [(0, 2), (4, 2)] 11 (by kernel_rfl) (by kernel_rfl) (by kernel_rfl) (by kernel_rfl) (by kernel_rfl) ⟨⟨_, hW⟩, rfl⟩ ?_
    simp only [pickR, List.toList_toArray, List.flatMap_cons, List.flatMap_nil, List.drop_succ_cons, List.drop_zero, List.take_succ_cons, List.take_zero, List.cons_append, List.nil_append, List.append_nil]
    repeat go_big_quiet_step (fail)
    refine wpQuiet_nil ?_
    refine call_at 2 (some 95) 22 #[.slice adt qt.length kt, .slice adf qf.length kf] 10 (by kernel_rfl) (by kernel_rfl) (by kernel_rfl) (by kernel_rfl) (by kernel_rfl) ?_
    refine (hspP _ (hAt.below hW) (hAf.below hW)).mono ?_
    rintro e w9 ⟨v5, v6, q5, q6, rfl, e5, e6, o5, o6, n5, g5, hb9⟩
    replace hW := hW.trans (hb9.mono hW.size)
    clear n5 g5 e5 e6
    obtain ⟨a5, k5, rfl⟩ := o5.shape
    obtain ⟨a6, k6, rfl⟩ := o6.shape
    clear hb9
    refine ⟨_, rfl, ⟨⟨_, hW⟩, rfl⟩, ?_⟩
    simp only [Act.put, List.setIfInBounds_toArray, List.set_cons_zero, List.set_cons_succ]
    refine quiet_at 3 (some 96) (.int .i64 C) 9 (by kernel_rfl) (by kernel_rfl) (by kernel_rfl) (by kernel_rfl) (by kernel_rfl) (fun u _ => by kernel_rfl) ⟨⟨_, hW⟩, rfl⟩ ?_
    simp only [Act.put, List.setIfInBounds_toArray, List.set_cons_zero, List.set_cons_succ]
    refine seg_range [(6, 3), (10, 1)] 5 (by kernel_rfl) (by kernel_rfl) (by kernel_rfl) (by kernel_rfl) (by kernel_rfl) ⟨⟨_, hW⟩, rfl⟩ ?_
    simp only [pickR, List.toList_toArray, List.flatMap_cons, List.flatMap_nil, List.drop_succ_cons, List.drop_zero, List.take_succ_cons, List.take_zero, List.cons_append, List.nil_append, List.append_nil]
    repeat go_big_quiet_step (fail)
    refine wpQuiet_nil ?_
    refine call_at 9 (some 102) 23 #[.slice adt qt.length kt] 4 (by kernel_rfl) (by kernel_rfl) (by kernel_rfl) (by kernel_rfl) (by kernel_rfl) ?_
    refine (himL _ (hAt.below hW)).mono ?_
    rintro e w9 ⟨rfl, hb9⟩
    replace hW := hW.trans (hb9.mono hW.size)
    clear hb9
    refine ⟨_, rfl, ⟨⟨_, hW⟩, rfl⟩, ?_⟩
    simp only [Act.put, List.setIfInBounds_toArray, List.set_cons_zero, List.set_cons_succ]
    refine call_at 11 (some 104) 24 #[.slice adt qt.length kt] 3 (by kernel_rfl) (by kernel_rfl) (by kernel_rfl) (by kernel_rfl) (by kernel_rfl) ?_
    refine (hspL _ (hAt.below hW)).mono ?_
    rintro e w9 ⟨rfl, hb9⟩
    replace hW := hW.trans (hb9.mono hW.size)
    clear hb9
    refine ⟨_, rfl, ⟨⟨_, hW⟩, rfl⟩, ?_⟩
    simp only [Act.put, List.setIfInBounds_toArray, List.set_cons_zero, List.set_cons_succ]
    refine seg_range [(12, 3)] 0 (by kernel_rfl) (by kernel_rfl) (by kernel_rfl) (by kernel_rfl) (by kernel_rfl) ⟨⟨_, hW⟩, rfl⟩ ?_
    simp only [pickR, List.toList_toArray, List.flatMap_cons, List.flatMap_nil, List.drop_succ_cons, List.drop_zero, List.take_succ_cons, List.take_zero, List.cons_append, List.nil_append, List.append_nil]
    repeat go_big_quiet_step (fail)
    refine wpQuiet_nil ?_
    refine text_end (by kernel_rfl) ?_
    replace b0 := b0.trans (hW.mono b0.size)
    go_wp2
    go_ret
    exact ⟨rfl, b0⟩

end Go.Proofs.Ytbdphnmkpkgdeaa
