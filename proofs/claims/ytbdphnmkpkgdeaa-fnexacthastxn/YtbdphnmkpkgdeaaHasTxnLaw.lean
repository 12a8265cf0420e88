/- The law FnExactHasTxn, walked: at every list of transactions and every transaction that can be read it answers true, and it writes into nothing that was there. -/
import Derived.Test.YtbdphnmkpkgdeaaH8
import Derived.Test.YtbdphnmkpkgdeaaR8
import Derived.Test.YtbdphnmkpkgdeaaSl8
namespace Go.Proofs.Ytbdphnmkpkgdeaa
open Go.RowKit
open Go.BigFrame
set_option linter.unusedVariables false
set_option linter.unusedSimpArgs false

theorem specHasTxn_e (v : Value) (ps : List TxnQ) (p : TxnQ) (ds : List TxnD) (x : TxnD) (hx : ps.map TxnQ.e = ds) (hx' : TxnQ.e p = x) (w : World) (h : txnK.Own w v ps) (h' : txnK.own w p) (hl : ps.length + nmL TxnQ.n ps ≤ 1048576) :
    Calls Try.prog 21 #[v, .agg #[.int .i64 p.i, .int .i64 p.s, .int .i64 p.q, p.va]] w fun e w' => e = .returned (.bool (knw ds x)) ∧ Below w.heap.size w w' := by
  subst hx hx'
  obtain ⟨i, s, q, va, acts⟩ := p
  have hT : actK.At w va acts := txnK.own_rd h'
  obtain ⟨aa, ac, rfl⟩ := hT.shape
  exact specHasTxn_any v ps (TxnQ.e ⟨i, s, q, .slice aa acts.length ac, acts⟩) aa acts.length ac w h.at (by omega)
theorem implHasTxn_e (v : Value) (ps : List TxnQ) (p : TxnQ) (ds : List TxnD) (x : TxnD) (hx : ps.map TxnQ.e = ds) (hx' : TxnQ.e p = x) (w : World) (h : txnK.Own w v ps) (h' : txnK.own w p) (hl : ps.length + nmL TxnQ.n ps ≤ 1048576) :
    Calls Try.prog 20 #[v, .agg #[.int .i64 p.i, .int .i64 p.s, .int .i64 p.q, p.va]] w fun e w' => e = .returned (.bool (knw ds x)) ∧ Below w.heap.size w w' := by
  subst hx hx'
  obtain ⟨i, s, q, va, acts⟩ := p
  have hT : actK.At w va acts := txnK.own_rd h'
  obtain ⟨aa, ac, rfl⟩ := hT.shape
  exact implHasTxn_any v ps (TxnQ.e ⟨i, s, q, .slice aa acts.length ac, acts⟩) aa acts.length ac w h.at (by omega)

set_option maxRecDepth 100000 in
set_option maxHeartbeats 16000000 in
theorem hasTxnLaw (v : Value) (ps : List TxnQ) (p : TxnQ) (w : World) (h : txnK.At w v ps) (hn : ps.length ≤ 9223372036854775807) (hwf : ∀ p ∈ ps, TxnQ.wf p) (hp : txnK.rd w p) (hpw : TxnQ.wf p) :
    Calls Try.prog 8 #[v, .agg #[.int .i64 p.i, .int .i64 p.s, .int .i64 p.q, p.va]] w fun e w' => e = .returned (.bool true) ∧ Below w.heap.size w w' := by
  have hsz := fun w h => szTxns_k v ps 1048576 w h hn hwf (by omega) (by omega)
  have hszT := fun c w h h0 h1 => szTxn_k p c w h hpw h0 h1
  have hto := fun w h hl => toTxns_k v ps w h hl
  have htoT := fun w h hl => toTxn_k p w h hl
  have hsp := fun v qs q (hq : qs.map TxnQ.e = ps.map TxnQ.e) (hq' : TxnQ.e q = TxnQ.e p) w h h' hl => specHasTxn_e v qs q _ _ hq hq' w h h' hl
  have him := fun v qs q (hq : qs.map TxnQ.e = ps.map TxnQ.e) (hq' : TxnQ.e q = TxnQ.e p) w h h' hl => implHasTxn_e v qs q _ _ hq hq' w h h' hl
  have hqn : ∀ qs : List TxnQ, qs.map TxnQ.e = ps.map TxnQ.e → qs.length + nmL TxnQ.n qs = ps.length + nmL TxnQ.n ps := fun qs hq => txns_n hq
  have hqm : ∀ q : TxnQ, TxnQ.e q = TxnQ.e p → TxnQ.n q = TxnQ.n p := fun q hq => by
    have := congrArg (fun d : TxnD => d.acts.length) hq
    exact this
  have hrb := fun (w' : World) hb => Kind.At.below (w' := w') h hb
  have hrbT := fun (w' : World) hb => txnK.rd_below (w' := w') hp hb
  have heq := fun v v' (q q' : List TxnQ) (hq : q.map TxnQ.e = ps.map TxnQ.e) (hq' : q'.map TxnQ.e = ps.map TxnQ.e) w h h' hl => eqTxns_k v v' q q' w h h' (hq.trans hq'.symm) hl
  generalize knw (ps.map TxnQ.e) (TxnQ.e p) = D at *
  generalize ps.map TxnQ.e = ds at *
  generalize TxnQ.e p = pe at *
  generalize hpn : ps.length + nmL TxnQ.n ps = pn at *
  generalize hpm : TxnQ.n p = pm at *
  obtain ⟨a, cap, rfl⟩ := h.shape
  obtain ⟨i, s, q, va, acts⟩ := p
  have hT : actK.At w va acts := hp
  obtain ⟨aa, ac, rfl⟩ := hT.shape
  dsimp only at hszT htoT hrbT ⊢
  clear hT
  have b0 : Below w.heap.size w (w.alloc (.cells #[.int .i64 i, .int .i64 s, .int .i64 q, .slice aa acts.length ac] 57)) := by go_grown
  have A0 := Blk.new w 57 #[.int .i64 i, .int .i64 s, .int .i64 q, .slice aa acts.length ac]
  go_enter Try.func8, Try.ntmps8
  go_wp2_with fail
  generalize w.alloc (.cells #[.int .i64 i, .int .i64 s, .int .i64 q, .slice aa acts.length ac] 57) = W at *
  refine (hsz W (hrb W b0)).mono ?_
  rintro e w1 ⟨r, rfl, hr, hb⟩
  replace A0 := A0.below hb
  replace b0 := b0.trans (hb.mono b0.size)
  clear hb
  clear hsz
  by_cases hneg : r < 0
  · go_wp2
    go_ret
    exact ⟨rfl, b0⟩
  have hl : (pn : Int) + r = 1048576 := hr (by omega)
  clear hr
  have p0 := A0.cell 0 _ rfl
  have p1 := A0.cell 1 _ rfl
  have p2 := A0.cell 2 _ rfl
  have p3 := A0.cell 3 _ rfl
  go_wp2_with fail
  clear p0 p1 p2 p3
  refine (hszT r w1 (hrbT w1 b0) (by omega) (by omega)).mono ?_
  rintro e X ⟨r', rfl, hr, hb⟩
  replace A0 := A0.below hb
  replace b0 := b0.trans (hb.mono b0.size)
  clear hb
  clear hszT
  by_cases hneg' : r' < 0
  · go_wp2
    go_ret
    exact ⟨rfl, b0⟩
  have hl' : (pm : Int) + r' = r := hr (by omega)
  clear hr
  replace hl' : pm ≤ 1048576 := by omega
  replace hl : pn ≤ 1048576 := by omega
  go_wp2_with fail
  clear hneg hneg'
  have c0 := A0.lat 0 _ rfl
  have c1 := A0.lat 1 _ rfl
  have c2 := A0.lat 2 _ rfl
  have c3 := A0.lat 3 _ rfl
  have hW : Below X.heap.size X X.drew := (Below.refl _ _).drew
  have hnn : Nonempty (Lat X) := ⟨⟨X, Below.refl _ _⟩⟩
  refine text_begin (S := fun w' => ∃ u : Lat X, w' = u.val) (by kernel_rfl) ?_
  refine seg_range [(0, 1), (2, 1)] 4 (by kernel_rfl) (by kernel_rfl) (by kernel_rfl) (by kernel_rfl) (by kernel_rfl) ⟨⟨_, hW⟩, rfl⟩ ?_
  simp only [pickR, List.toList_toArray, List.flatMap_cons, List.flatMap_nil, List.drop_succ_cons, List.drop_zero, List.take_succ_cons, List.take_zero, List.cons_append, List.nil_append, List.append_nil]
  repeat go_big_quiet_step (fail)
  refine wpQuiet_nil ?_
  refine call_at 1 (some 21) 26 #[.slice a ps.length cap] 3 (by kernel_rfl) (by kernel_rfl) (by kernel_rfl) (by kernel_rfl) (by kernel_rfl) ?_
  refine (hto _ (hrb _ (b0.trans (hW.mono b0.size))) hl).mono ?_
  rintro e wz ⟨v1, q1, rfl, e1, o1, n1, g1, hb9⟩
  replace hW := hW.trans (hb9.mono hW.size)
  clear n1 g1
  obtain ⟨a1, k1, rfl⟩ := o1.shape
  clear hb9
  refine ⟨_, rfl, ⟨⟨_, hW⟩, rfl⟩, ?_⟩
  simp only [Act.put, List.setIfInBounds_toArray, List.set_cons_zero, List.set_cons_succ]
  refine call_at 3 (some 23) 37 #[.agg #[.int .i64 i, .int .i64 s, .int .i64 q, .slice aa acts.length ac]] 2 (by kernel_rfl) (by kernel_rfl) (by kernel_rfl) (by kernel_rfl) (by kernel_rfl) ?_
  refine (htoT _ (hrbT _ (b0.trans (hW.mono b0.size))) hl').mono ?_
  rintro e wz ⟨q2, rfl, e2, o2, n2, g2, hb9⟩
  replace hW := hW.trans (hb9.mono hW.size)
  clear n2 g2
  replace o1 := o1.below hb9
  clear hb9
  refine ⟨_, rfl, ⟨⟨_, hW⟩, rfl⟩, ?_⟩
  simp only [Act.put, List.setIfInBounds_toArray, List.set_cons_zero, List.set_cons_succ]
  refine call_at 4 (some 24) 21 #[.slice a1 q1.length k1, .agg #[.int .i64 q2.i, .int .i64 q2.s, .int .i64 q2.q, q2.va]] 1 (by kernel_rfl) (by kernel_rfl) (by kernel_rfl) (by kernel_rfl) (by kernel_rfl) ?_
  refine (hsp _ q1 q2 e1 e2 _ o1 o2 (by rw [hqn q1 e1]; exact hl)).mono ?_
  rintro e wz ⟨rfl, hb9⟩
  replace hW := hW.trans (hb9.mono hW.size)
  clear o1 o2 e1 e2
  clear hb9
  refine ⟨_, rfl, ⟨⟨_, hW⟩, rfl⟩, ?_⟩
  simp only [Act.put, List.setIfInBounds_toArray, List.set_cons_zero, List.set_cons_succ]
  refine seg_range [(5, 1)] 0 (by kernel_rfl) (by kernel_rfl) (by kernel_rfl) (by kernel_rfl) (by kernel_rfl) ⟨⟨_, hW⟩, rfl⟩ ?_
  simp only [pickR, List.toList_toArray, List.flatMap_cons, List.flatMap_nil, List.drop_succ_cons, List.drop_zero, List.take_succ_cons, List.take_zero, List.cons_append, List.nil_append, List.append_nil]
  repeat go_big_quiet_step (fail)
  refine wpQuiet_nil ?_
  refine text_end (by kernel_rfl) ?_
  clear c0 c1 c2 c3 hnn hsp
  replace A0 := A0.below hW
  replace b0 := b0.trans (hW.mono b0.size)
  clear hW
  rename World => w5
  go_wp2_with fail
  refine (hto w5 (hrb w5 b0) hl).mono ?_
  rintro e w6 ⟨v3, q3, rfl, e3, o3, n3, g3, hb⟩
  replace A0 := A0.below hb
  replace b0 := b0.trans (hb.mono b0.size)
  clear hb
  clear g3 n3
  have hl3 : q3.length + nmL TxnQ.n q3 ≤ 1048576 := by rw [hqn q3 e3]; exact hl
  have hi3 := fun p hp w h h' => him v3 q3 p e3 hp w h h' hl3
  obtain ⟨a3, k3, rfl⟩ := o3.shape
  have p0 := A0.cell 0 _ rfl
  have p1 := A0.cell 1 _ rfl
  have p2 := A0.cell 2 _ rfl
  have p3 := A0.cell 3 _ rfl
  go_wp2_with fail
  clear p0 p1 p2 p3
  refine (htoT w6 (hrbT w6 b0) hl').mono ?_
  rintro e w7 ⟨q4, rfl, e4, o4, n4, g4, hb⟩
  replace A0 := A0.below hb
  replace o3 := o3.below hb
  replace b0 := b0.trans (hb.mono b0.size)
  clear hb
  clear g4 n4
  have hl4 : TxnQ.n q4 ≤ 1048576 := by rw [hqm q4 e4]; exact hl'
  have hi4 := fun w h h' => hi3 q4 e4 w h h'
  obtain ⟨i4, s4, q4, va4, acts4⟩ := q4
  have hT4 : actK.At w7 va4 acts4 := txnK.own_rd o4
  obtain ⟨aa4, ac4, rfl⟩ := hT4.shape
  clear hT4
  dsimp only at hi4
  have X0 := Blk.new w7 35 #[.int .i64 i4, .int .i64 s4, .int .i64 q4, .slice aa4 acts4.length ac4]
  have hb : Below w7.heap.size w7 (w7.alloc (.cells #[.int .i64 i4, .int .i64 s4, .int .i64 q4, .slice aa4 acts4.length ac4] 35)) := by go_grown
  replace A0 := A0.below hb
  replace o3 := o3.below hb
  replace o4 := txnK.own_out (F := []) o4 (Out.of_below hb) (fun _ _ => by simp)
  replace b0 := b0.trans (hb.mono b0.size)
  clear hb
  have p0 := X0.cell 0 _ rfl
  have p1 := X0.cell 1 _ rfl
  have p2 := X0.cell 2 _ rfl
  have p3 := X0.cell 3 _ rfl
  go_wp2_with fail
  clear p0 p1 p2 p3
  generalize w7.alloc (.cells #[.int .i64 i4, .int .i64 s4, .int .i64 q4, .slice aa4 acts4.length ac4] 35) = W7 at *
  refine (hi4 W7 o3 o4).mono ?_
  rintro e w8 ⟨rfl, hb⟩
  replace A0 := A0.below hb
  replace X0 := X0.below hb
  replace o3 := o3.below hb
  replace o4 := txnK.own_out (F := []) o4 (Out.of_below hb) (fun _ _ => by simp)
  replace b0 := b0.trans (hb.mono b0.size)
  clear hb
  clear hi3 hi4 him
  have hne : (D != D) = false := by simp
  go_wp2_with fail
  refine (hto w8 (hrb w8 b0) hl).mono ?_
  rintro e w10 ⟨v5, q5, rfl, e5, o5, n5, g5, hb⟩
  replace A0 := A0.below hb
  replace X0 := X0.below hb
  replace o3 := o3.below hb
  replace o4 := txnK.own_out (F := []) o4 (Out.of_below hb) (fun _ _ => by simp)
  replace b0 := b0.trans (hb.mono b0.size)
  clear hb
  clear n5 g5
  obtain ⟨a5, k5, rfl⟩ := o5.shape
  go_wp2_with fail
  refine (heq (.slice a3 q3.length k3) (.slice a5 q5.length k5) q3 q5 e3 e5 w10 o3.at o5.at hl3).mono ?_
  rintro e w11 ⟨rfl, hb⟩
  replace A0 := A0.below hb
  replace X0 := X0.below hb
  replace o3 := o3.below hb
  replace o4 := txnK.own_out (F := []) o4 (Out.of_below hb) (fun _ _ => by simp)
  replace b0 := b0.trans (hb.mono b0.size)
  clear hb
  clear o5 e5 heq
  go_wp2_with fail
  have hW : Below w11.heap.size w11 w11.drew := (Below.refl _ _).drew
  have hnn : Nonempty (Lat w11) := ⟨⟨w11, Below.refl _ _⟩⟩
  have c0 := A0.lat 0 _ rfl
  have c1 := A0.lat 1 _ rfl
  have c2 := A0.lat 2 _ rfl
  have c3 := A0.lat 3 _ rfl
  have d0 := X0.lat 0 _ rfl
  have d1 := X0.lat 1 _ rfl
  have d2 := X0.lat 2 _ rfl
  have d3 := X0.lat 3 _ rfl
  refine text_begin (S := fun w' => ∃ u : Lat w11, w' = u.val) (by kernel_rfl) ?_
  refine seg_range [(0, 2)] 3 (by kernel_rfl) (by kernel_rfl) (by kernel_rfl) (by kernel_rfl) (by kernel_rfl) ⟨⟨_, hW⟩, rfl⟩ ?_
  simp only [pickR, List.toList_toArray, List.flatMap_cons, List.flatMap_nil, List.drop_succ_cons, List.drop_zero, List.take_succ_cons, List.take_zero, List.cons_append, List.nil_append, List.append_nil]
  repeat go_big_quiet_step (fail)
  refine wpQuiet_nil ?_
  refine call_at 2 (some 42) 37 #[.agg #[.int .i64 i, .int .i64 s, .int .i64 q, .slice aa acts.length ac]] 2 (by kernel_rfl) (by kernel_rfl) (by kernel_rfl) (by kernel_rfl) (by kernel_rfl) ?_
  refine (htoT _ (hrbT _ (b0.trans (hW.mono b0.size))) hl').mono ?_
  rintro e wz ⟨q9, rfl, e9, o9, n9, g9, hb9⟩
  replace hW := hW.trans (hb9.mono hW.size)
  clear n9 g9
  clear hb9
  refine ⟨_, rfl, ⟨⟨_, hW⟩, rfl⟩, ?_⟩
  simp only [Act.put, List.setIfInBounds_toArray, List.set_cons_zero, List.set_cons_succ]
  refine call_at 3 (some 43) 38 #[.agg #[.int .i64 i4, .int .i64 s4, .int .i64 q4, .slice aa4 acts4.length ac4], .agg #[.int .i64 q9.i, .int .i64 q9.s, .int .i64 q9.q, q9.va]] 1 (by kernel_rfl) (by kernel_rfl) (by kernel_rfl) (by kernel_rfl) (by kernel_rfl) ?_
  refine (eqTxn_k ⟨i4, s4, q4, .slice aa4 acts4.length ac4, acts4⟩ q9 _ (txnK.rd_below (txnK.own_rd o4) hW) (txnK.own_rd o9) (e4.trans e9.symm) hl4).mono ?_
  rintro e wz ⟨rfl, hb9⟩
  replace hW := hW.trans (hb9.mono hW.size)
  clear hb9
  refine ⟨_, rfl, ⟨⟨_, hW⟩, rfl⟩, ?_⟩
  simp only [Act.put, List.setIfInBounds_toArray, List.set_cons_zero, List.set_cons_succ]
  refine seg_range [(4, 1)] 0 (by kernel_rfl) (by kernel_rfl) (by kernel_rfl) (by kernel_rfl) (by kernel_rfl) ⟨⟨_, hW⟩, rfl⟩ ?_
  simp only [pickR, List.toList_toArray, List.flatMap_cons, List.flatMap_nil, List.drop_succ_cons, List.drop_zero, List.take_succ_cons, List.take_zero, List.cons_append, List.nil_append, List.append_nil]
  repeat go_big_quiet_step (fail)
  refine wpQuiet_nil ?_
  refine text_end (by kernel_rfl) ?_
  clear c0 c1 c2 c3 d0 d1 d2 d3 hnn o9 e9
  replace A0 := A0.below hW
  replace X0 := X0.below hW
  replace o3 := o3.below hW
  replace o4 := txnK.own_out (F := []) o4 (Out.of_below hW) (fun _ _ => by simp)
  replace b0 := b0.trans (hW.mono b0.size)
  clear hW
  go_wp2
  go_ret
  exact ⟨rfl, b0⟩

end Go.Proofs.Ytbdphnmkpkgdeaa
