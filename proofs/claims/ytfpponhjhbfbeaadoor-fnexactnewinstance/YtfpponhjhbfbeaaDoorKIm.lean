/- What the helpers of the laws do with an instance and with an answer that holds one, in the form of kinds: mark, held, compare. No condition. -/
import Derived.Test.YtfpponhjhbfbeaaDoorKI
import Derived.Test.YtfpponhjhbfbeaaDoorKTh
import Derived.Test.YtfpponhjhbfbeaaDoorKRh
import Derived.Test.YtfpponhjhbfbeaaDoorChR
namespace Go.Proofs.YtfpponhjhbfbeaaDoor
open Go.RowKit
open Go.BigFrame
set_option linter.unusedVariables false
set_option linter.unusedSimpArgs false

def mkInst (c : Int) (p : InstQ) : InstQ := ⟨p.has, p.vb, mkL mkTxn nmTxn c p.batch, p.vr, mkL mkRound nmRound (c + (nmL nmTxn p.batch : Int)) p.rounds, p.vd, mkInts (c + (nmL nmTxn p.batch : Int) + (nmL nmRound p.rounds : Int)) p.dec⟩
def nmInst (p : InstQ) : Nat := nmL nmTxn p.batch + nmL nmRound p.rounds + p.dec.length
theorem mkInst_foot (c : Int) (p : InstQ) : instK.foot (mkInst c p) = instK.foot p := by
  simp only [mkInst, show ∀ p : InstQ, instK.foot p = txnK.fp p.vb p.batch ++ (roundK.fp p.vr p.rounds ++ intK.fp p.vd p.dec) from fun _ => rfl, fp_mkL mkTxn_foot, fp_mkL mkRound_foot, mkInts_fp]
theorem nmTxn_le (ps : List TxnQ) : nmL nmTxn ps ≤ 3 * (ps.length + nmL TxnQ.n ps) := by
  induction ps with
  | nil => simp [nmL]
  | cons p r ih =>
    simp only [nmL, List.map_cons, List.sum_cons, List.length_cons] at ih ⊢
    simp only [nmTxn, TxnQ.n] at ih ⊢
    omega
theorem nmRound_le (ps : List RoundQ) : nmL nmRound ps ≤ nmL RoundQ.n ps := by
  induction ps with
  | nil => simp [nmL]
  | cons p r ih =>
    simp only [nmL, List.map_cons, List.sum_cons] at ih ⊢
    simp only [nmRound, RoundQ.n] at ih ⊢
    omega
theorem nmInst_le (p : InstQ) : nmInst p ≤ 3 * p.n := by
  have h1 := nmTxn_le p.batch
  have h2 := nmRound_le p.rounds
  unfold nmInst InstQ.n
  omega

theorem inst_n {q p : InstQ} (h : q.e = p.e) : q.n = p.n := by
  simp only [InstQ.e, InstE.mk.injEq] at h
  obtain ⟨_, h1, h2, h3⟩ := h
  have t1 : q.batch.length = p.batch.length := by simpa using congrArg List.length h1
  have t2 : nmL TxnQ.n q.batch = nmL TxnQ.n p.batch := by
    have := congrArg (fun l => nmL (fun d : TxnD => d.acts.length) l) h1
    simp only [nmL, List.map_map] at this
    exact this
  have t3 : q.rounds.length = p.rounds.length := by simpa using congrArg List.length h2
  have t4 : nmL RoundQ.n q.rounds = nmL RoundQ.n p.rounds := by
    have := congrArg (fun l => nmL (fun d : RoundE => d.rep.length + d.pro.length) l) h2
    simp only [nmL, List.map_map] at this
    exact this
  unfold InstQ.n
  rw [t1, t2, t3, t4, h3]

set_option maxHeartbeats 2000000 in
theorem markInstance_k (p : InstQ) (c : Int) (w : World) (h : instK.own w p) (hnd : (instK.foot p).Nodup) (hl : InstQ.n p ≤ 1048576) (h0 : 0 ≤ c) (h1 : c ≤ 1000000000) :
    Calls Tryd.prog 14 #[.agg #[.bool p.has, p.vb, p.vr, p.vd], .int .i64 c] w fun e w' => e = .returned (.int .i64 (c + (nmInst p : Int))) ∧ instK.own w' (mkInst c p) ∧ Out (instK.foot p) w w' := by
  have hm := nmInst_le p
  obtain ⟨has, vb, batch, vr, rounds, vd, dec⟩ := p
  obtain ⟨o1, o2, o3⟩ : txnK.Own w vb batch ∧ roundK.Own w vr rounds ∧ intK.Own w vd dec := h
  obtain ⟨n1, n23, d1⟩ := List.nodup_append.1 hnd
  obtain ⟨n2, n3, d2⟩ := List.nodup_append.1 n23
  have d12 : ∀ k ∈ roundK.fp vr rounds, k ∉ txnK.fp vb batch := fun k hk hk2 => d1 k hk2 k (List.mem_append_left _ hk) rfl
  have d13 : ∀ k ∈ intK.fp vd dec, k ∉ txnK.fp vb batch := fun k hk hk2 => d1 k hk2 k (List.mem_append_right _ hk) rfl
  have d21 : ∀ k ∈ txnK.fp vb batch, k ∉ roundK.fp vr rounds := fun k hk hk2 => d1 k hk k (List.mem_append_left _ hk2) rfl
  have d23 : ∀ k ∈ intK.fp vd dec, k ∉ roundK.fp vr rounds := fun k hk hk2 => d2 k hk2 k hk rfl
  have d31 : ∀ k ∈ txnK.fp vb batch, k ∉ intK.fp vd dec := fun k hk hk2 => d1 k hk k (List.mem_append_right _ hk2) rfl
  have d32 : ∀ k ∈ roundK.fp vr rounds, k ∉ intK.fp vd dec := fun k hk hk2 => d2 k hk k hk2 rfl
  have n1 : (txnK.fp vb batch).Nodup := n1
  have n2 : (roundK.fp vr rounds).Nodup := n2
  clear hnd d1 d2 n23 n3
  dsimp only [InstQ.n, nmInst] at hl hm
  have hF : Hid (∀ {w w' : World}, Out (txnK.fp vb batch) w w' → Out (instK.foot ⟨has, vb, batch, vr, rounds, vd, dec⟩) w w') := fun h => h.mono (fun k hk => List.mem_append_left _ hk)
  have hF2 : Hid (∀ {w w' : World}, Out (roundK.fp vr rounds) w w' → Out (instK.foot ⟨has, vb, batch, vr, rounds, vd, dec⟩) w w') := fun h => h.mono (fun k hk => List.mem_append_right _ (List.mem_append_left _ hk))
  have hF3 : Hid (∀ {w w' : World}, Out (intK.fp vd dec) w w' → Out (instK.foot ⟨has, vb, batch, vr, rounds, vd, dec⟩) w w') := fun h => h.mono (fun k hk => List.mem_append_right _ (List.mem_append_right _ hk))
  have hm1 := fun w h => markTxns_k vb batch c w h n1 (by omega) h0 (by omega)
  have hm2 := fun w h => markRounds_k vr rounds (c + (nmL nmTxn batch : Int)) w h n2 (by omega) (by omega) (by omega)
  have hm3 := fun w h => markInts_k vd dec (c + (nmL nmTxn batch : Int) + (nmL nmRound rounds : Int)) w h (by omega) (by omega) (by omega)
  have e1 : txnK.fp vb (mkL mkTxn nmTxn c batch) = txnK.fp vb batch := fp_mkL mkTxn_foot _ _ _
  have e2 : ∀ c, roundK.fp vr (mkL mkRound nmRound c rounds) = roundK.fp vr rounds := fun c => fp_mkL mkRound_foot _ _ _
  obtain ⟨a1, k1, rfl⟩ := o1.shape
  obtain ⟨a2, k2, rfl⟩ := o2.shape
  obtain ⟨a3, k3, rfl⟩ := o3.shape
  have B := Blk.new w 28 #[.bool has, .slice a1 batch.length k1, .slice a2 rounds.length k2, .slice a3 dec.length k3]
  have hB : Below w.heap.size w (w.alloc (.cells #[.bool has, .slice a1 batch.length k1, .slice a2 rounds.length k2, .slice a3 dec.length k3] 28)) := by go_grown
  have hlt1 := o1.lt
  have hlt2 := o2.lt
  have hlt3 := o3.lt
  have HB : Hid (w.heap.size ∉ txnK.fp (.slice a1 batch.length k1) batch ∧ w.heap.size ∉ roundK.fp (.slice a2 rounds.length k2) rounds) := And.intro (fun e => Nat.lt_irrefl _ (hlt1 _ e)) (fun e => Nat.lt_irrefl _ (hlt2 _ e))
  clear hlt1 hlt2 hlt3
  replace o1 := o1.below hB
  replace o2 := o2.below hB
  replace o3 := o3.below hB
  have HU : Hid (Out (instK.foot ⟨has, .slice a1 batch.length k1, batch, .slice a2 rounds.length k2, rounds, .slice a3 dec.length k3, dec⟩) w _) := Out.of_below hB
  clear hB
  go_enter Tryd.func14, Tryd.ntmps14
  go_wp2_with fail
  generalize w.alloc (.cells #[.bool has, .slice a1 batch.length k1, .slice a2 rounds.length k2, .slice a3 dec.length k3] 28) = W at *
  refine (hm1 W o1).mono ?_
  rintro e w1 ⟨rfl, O1, u1⟩
  replace o2 := o2.out u1 d12
  replace o3 := o3.out u1 d13
  replace B : Blk w1 _ _ _ := (u1.block _ B.lt HB.out.1).trans B
  have HU1 : Hid (Out (instK.foot ⟨has, .slice a1 batch.length k1, batch, .slice a2 rounds.length k2, rounds, .slice a3 dec.length k3, dec⟩) w w1) := HU.out.trans (hF.out u1)
  clear hm1 o1 HU u1
  have p2 := B.cell 2 _ rfl
  generalize hC1 : (nmL nmTxn batch : Int) = C1 at *
  go_wp2_with fail
  clear p2
  refine (hm2 w1 o2).mono ?_
  rintro e w2 ⟨rfl, O2, u2⟩
  replace O1 := O1.out u2 (by rw [e1]; exact d21)
  replace o3 := o3.out u2 d23
  replace B : Blk w2 _ _ _ := (u2.block _ B.lt HB.out.2).trans B
  have HU2 : Hid (Out (instK.foot ⟨has, .slice a1 batch.length k1, batch, .slice a2 rounds.length k2, rounds, .slice a3 dec.length k3, dec⟩) w w2) := HU1.out.trans (hF2.out u2)
  clear hm2 o2 HU1 u2
  have p3 := B.cell 3 _ rfl
  generalize hC2 : (nmL nmRound rounds : Int) = C2 at *
  go_wp2_with fail
  clear p3
  refine (hm3 w2 o3).mono ?_
  rintro e w3 ⟨rfl, O3, u3⟩
  replace O1 := O1.out u3 (by rw [e1]; exact d31)
  replace O2 := O2.out u3 (by rw [e2]; exact d32)
  have HU3 : Hid (Out (instK.foot ⟨has, .slice a1 batch.length k1, batch, .slice a2 rounds.length k2, rounds, .slice a3 dec.length k3, dec⟩) w w3) := HU2.out.trans (hF3.out u3)
  have R : Hid (instK.own w3 (mkInst c ⟨has, .slice a1 batch.length k1, batch, .slice a2 rounds.length k2, rounds, .slice a3 dec.length k3, dec⟩)) := by
    refine ⟨O1, ?_, ?_⟩
    · dsimp only [mkInst]
      rw [hC1]
      exact O2
    · dsimp only [mkInst]
      rw [hC1, hC2]
      exact O3
  clear hm3 o3 HU2 u3 B O1 O2 O3 HB hF hF2 hF3 e1 e2
  go_wp2
  go_ret
  refine ⟨?_, R.out, HU3.out⟩
  dsimp only [nmInst]
  have e : c + C1 + C2 + (dec.length : Int) = c + ((nmL nmTxn batch + nmL nmRound rounds + dec.length : Nat) : Int) := by omega
  rw [e]
  rfl

set_option maxHeartbeats 2000000 in
theorem heldInstance_k (p : InstQ) (c : Int) (w : World) (h : instK.rd w (mkInst c p)) (hl : InstQ.n p ≤ 1048576) (h0 : 0 ≤ c) (h1 : c ≤ 1000000000) :
    Calls Tryd.prog 15 #[.agg #[.bool p.has, p.vb, p.vr, p.vd], .int .i64 c] w fun e w' => e = .returned (.int .i64 (c + (nmInst p : Int))) ∧ Below w.heap.size w w' := by
  have hm := nmInst_le p
  obtain ⟨has, vb, batch, vr, rounds, vd, dec⟩ := p
  obtain ⟨o1, o2, o3⟩ : txnK.At w vb (mkL mkTxn nmTxn c batch) ∧ roundK.At w vr (mkL mkRound nmRound (c + (nmL nmTxn batch : Int)) rounds) ∧ intK.At w vd (mkInts (c + (nmL nmTxn batch : Int) + (nmL nmRound rounds : Int)) dec) := h
  dsimp only [InstQ.n, nmInst] at hl hm
  have hm1 := fun w h => heldTxns_k vb batch c w h (by omega) h0 (by omega)
  have hm2 := fun w h => heldRounds_k vr rounds (c + (nmL nmTxn batch : Int)) w h (by omega) (by omega) (by omega)
  have hm3 := fun w h => heldInts_k vd dec (c + (nmL nmTxn batch : Int) + (nmL nmRound rounds : Int)) w h (by omega) (by omega) (by omega)
  generalize mkL mkTxn nmTxn c batch = M1 at *
  obtain ⟨a1, k1, rfl⟩ := o1.shape
  obtain ⟨a2, k2, rfl⟩ := o2.shape
  obtain ⟨a3, k3, rfl⟩ := o3.shape
  generalize hL2 : (mkL mkRound nmRound (c + (nmL nmTxn batch : Int)) rounds).length = L2 at *
  generalize hL3 : (mkInts (c + (nmL nmTxn batch : Int) + (nmL nmRound rounds : Int)) dec).length = L3 at *
  clear hL2 hL3
  have B := Blk.new w 28 #[.bool has, .slice a1 M1.length k1, .slice a2 L2 k2, .slice a3 L3 k3]
  have hB : Below w.heap.size w (w.alloc (.cells #[.bool has, .slice a1 M1.length k1, .slice a2 L2 k2, .slice a3 L3 k3] 28)) := by go_grown
  have g1 : ¬ c + (nmL nmTxn batch : Int) < 0 := by omega
  have g2 : ¬ c + (nmL nmTxn batch : Int) + (nmL nmRound rounds : Int) < 0 := by omega
  have g3 : ¬ c + (nmL nmTxn batch : Int) + (nmL nmRound rounds : Int) + (dec.length : Int) < 0 := by omega
  go_enter Tryd.func15, Tryd.ntmps15
  go_wp2_with fail
  generalize w.alloc (.cells #[.bool has, .slice a1 M1.length k1, .slice a2 L2 k2, .slice a3 L3 k3] 28) = W at *
  refine (hm1 W (o1.below hB)).mono ?_
  rintro e w1 ⟨rfl, hb⟩
  replace B := B.below hb
  replace hB := hB.trans (hb.mono hB.size)
  clear hm1 hb
  have p2 := B.cell 2 _ rfl
  generalize hC1 : (nmL nmTxn batch : Int) = C1 at *
  go_wp2_with fail
  clear p2
  refine (hm2 w1 (o2.below hB)).mono ?_
  rintro e w2 ⟨rfl, hb⟩
  replace B := B.below hb
  replace hB := hB.trans (hb.mono hB.size)
  clear hm2 hb
  have p3 := B.cell 3 _ rfl
  generalize hC2 : (nmL nmRound rounds : Int) = C2 at *
  go_wp2_with fail
  clear p3
  refine (hm3 w2 (o3.below hB)).mono ?_
  rintro e w3 ⟨rfl, hb⟩
  replace hB := hB.trans (hb.mono hB.size)
  clear hm3 hb B
  go_wp2
  go_ret
  refine ⟨?_, hB⟩
  dsimp only [nmInst]
  have e : c + C1 + C2 + (dec.length : Int) = c + ((nmL nmTxn batch + nmL nmRound rounds + dec.length : Nat) : Int) := by omega
  rw [e]
  rfl

/-- An answer that holds an instance: the cells. -/
abbrev resC (code cc : Int) (cd ck : Bool) (cx : Int) (p : InstQ) : Array Value := #[.int .i64 code, .int .i64 cc, .bool cd, .bool ck, .int .i64 cx, .bool p.has, p.vb, p.vr, p.vd]

set_option maxHeartbeats 2000000 in
theorem eqIR6_k (code cc : Int) (cd ck : Bool) (cx : Int) (p p' : InstQ) (w : World) (h : instK.rd w p) (h' : instK.rd w p') (he : p.e = p'.e) (hl : InstQ.n p ≤ 1048576) :
    Calls Tryd.prog 6 #[.agg (resC code cc cd ck cx p), .agg (resC code cc cd ck cx p')] w fun e w' => e = .returned (.bool true) ∧ Below w.heap.size w w' := by
  have hq := fun w h1 h2 => eqInstance_k p p' w h1 h2 he hl
  have hc := fun w => eqCH_true cc cd ck cx w
  have hb1 := fun (w' : World) hb => instK.rd_below (w' := w') h hb
  have hb2 := fun (w' : World) hb => instK.rd_below (w' := w') h' hb
  obtain ⟨has, vb, batch, vr, rounds, vd, dec⟩ := p
  obtain ⟨has', vb', batch', vr', rounds', vd', dec'⟩ := p'
  have hh : has = has' := by
    have := congrArg InstE.has he
    exact this
  obtain ⟨o1, o2, o3⟩ : txnK.At w vb batch ∧ roundK.At w vr rounds ∧ intK.At w vd dec := h
  obtain ⟨q1, q2, q3⟩ : txnK.At w vb' batch' ∧ roundK.At w vr' rounds' ∧ intK.At w vd' dec' := h'
  subst hh
  dsimp only at hq
  obtain ⟨a1, k1, rfl⟩ := o1.shape
  obtain ⟨a2, k2, rfl⟩ := o2.shape
  obtain ⟨a3, k3, rfl⟩ := o3.shape
  obtain ⟨b1, m1, rfl⟩ := q1.shape
  obtain ⟨b2, m2, rfl⟩ := q2.shape
  obtain ⟨b3, m3, rfl⟩ := q3.shape
  clear o1 o2 o3 q1 q2 q3 he hl
  have n0 : (code != code) = false := by simp
  have B := (Blk.new w 30 #[.int .i64 code, .int .i64 cc, .bool cd, .bool ck, .int .i64 cx, .bool has, .slice a1 batch.length k1, .slice a2 rounds.length k2, .slice a3 dec.length k3]).below (w' := (w.alloc (.cells #[.int .i64 code, .int .i64 cc, .bool cd, .bool ck, .int .i64 cx, .bool has, .slice a1 batch.length k1, .slice a2 rounds.length k2, .slice a3 dec.length k3] 30)).alloc (.cells #[.int .i64 code, .int .i64 cc, .bool cd, .bool ck, .int .i64 cx, .bool has, .slice b1 batch'.length m1, .slice b2 rounds'.length m2, .slice b3 dec'.length m3] 30)) (by go_grown)
  have C := Blk.new (w.alloc (.cells #[.int .i64 code, .int .i64 cc, .bool cd, .bool ck, .int .i64 cx, .bool has, .slice a1 batch.length k1, .slice a2 rounds.length k2, .slice a3 dec.length k3] 30)) 30 #[.int .i64 code, .int .i64 cc, .bool cd, .bool ck, .int .i64 cx, .bool has, .slice b1 batch'.length m1, .slice b2 rounds'.length m2, .slice b3 dec'.length m3]
  have hB : Below w.heap.size w ((w.alloc (.cells #[.int .i64 code, .int .i64 cc, .bool cd, .bool ck, .int .i64 cx, .bool has, .slice a1 batch.length k1, .slice a2 rounds.length k2, .slice a3 dec.length k3] 30)).alloc (.cells #[.int .i64 code, .int .i64 cc, .bool cd, .bool ck, .int .i64 cx, .bool has, .slice b1 batch'.length m1, .slice b2 rounds'.length m2, .slice b3 dec'.length m3] 30)) := by go_grown
  rw [World.size_alloc] at C
  go_enter Tryd.func6, Tryd.ntmps6
  go_wp2_with fail
  generalize (w.alloc (.cells #[.int .i64 code, .int .i64 cc, .bool cd, .bool ck, .int .i64 cx, .bool has, .slice a1 batch.length k1, .slice a2 rounds.length k2, .slice a3 dec.length k3] 30)).alloc (.cells #[.int .i64 code, .int .i64 cc, .bool cd, .bool ck, .int .i64 cx, .bool has, .slice b1 batch'.length m1, .slice b2 rounds'.length m2, .slice b3 dec'.length m3] 30) = W at *
  refine (hc W).mono ?_
  rintro e w1 ⟨rfl, hb⟩
  replace B := B.below hb
  replace C := C.below hb
  replace hB := hB.trans (hb.mono hB.size)
  clear hb hc
  have p5 := B.cell 5 _ rfl
  have p6 := B.cell 6 _ rfl
  have p7 := B.cell 7 _ rfl
  have p8 := B.cell 8 _ rfl
  have r5 := C.cell 5 _ rfl
  have r6 := C.cell 6 _ rfl
  have r7 := C.cell 7 _ rfl
  have r8 := C.cell 8 _ rfl
  go_wp2_with fail
  clear p5 p6 p7 p8 r5 r6 r7 r8
  refine (hq w1 (hb1 _ hB) (hb2 _ hB)).mono ?_
  rintro e w2 ⟨rfl, hb⟩
  replace hB := hB.trans (hb.mono hB.size)
  clear hb hq B C
  go_wp2
  go_ret
  exact ⟨rfl, hB⟩

set_option maxHeartbeats 2000000 in
theorem markIR6_k (code cc : Int) (cd ck : Bool) (cx : Int) (p : InstQ) (c : Int) (w : World) (h : instK.own w p) (hnd : (instK.foot p).Nodup) (hl : InstQ.n p ≤ 1048576) (h0 : 0 ≤ c) (h1 : c ≤ 1000000000) :
    Calls Tryd.prog 7 #[.agg (resC code cc cd ck cx p), .int .i64 c] w fun e w' => e = .returned (.int .i64 (c + (nmInst p : Int))) ∧ instK.own w' (mkInst c p) ∧ Out (instK.foot p) w w' := by
  have hm := fun w h => markInstance_k p c w h hnd hl h0 h1
  generalize (nmInst p : Int) = N at *
  have hf : Hid (∀ w', instK.own w' (mkInst c p) → instK.own w' (mkInst c p)) := fun _ h => h
  have hb1 := fun (w' : World) (hb : Below w.heap.size w w') => instK.own_out (F := []) h (Out.of_below hb) (fun _ _ => by simp)
  obtain ⟨has, vb, batch, vr, rounds, vd, dec⟩ := p
  obtain ⟨o1, o2, o3⟩ : txnK.Own w vb batch ∧ roundK.Own w vr rounds ∧ intK.Own w vd dec := h
  dsimp only at hm
  obtain ⟨a1, k1, rfl⟩ := o1.shape
  obtain ⟨a2, k2, rfl⟩ := o2.shape
  obtain ⟨a3, k3, rfl⟩ := o3.shape
  clear o1 o2 o3 hl hnd
  have hB : Below w.heap.size w (w.alloc (.cells #[.int .i64 code, .int .i64 cc, .bool cd, .bool ck, .int .i64 cx, .bool has, .slice a1 batch.length k1, .slice a2 rounds.length k2, .slice a3 dec.length k3] 30)) := by go_grown
  go_enter Tryd.func7, Tryd.ntmps7
  go_wp2_with fail
  generalize w.alloc (.cells #[.int .i64 code, .int .i64 cc, .bool cd, .bool ck, .int .i64 cx, .bool has, .slice a1 batch.length k1, .slice a2 rounds.length k2, .slice a3 dec.length k3] 30) = W at *
  refine (hm W (hb1 _ hB)).mono ?_
  rintro e w1 ⟨rfl, O, u⟩
  have HU : Hid (Out (instK.foot ⟨has, .slice a1 batch.length k1, batch, .slice a2 rounds.length k2, rounds, .slice a3 dec.length k3, dec⟩) w w1) := (Out.of_below hB).trans u
  have HO : Hid (instK.own w1 (mkInst c ⟨has, .slice a1 batch.length k1, batch, .slice a2 rounds.length k2, rounds, .slice a3 dec.length k3, dec⟩)) := O
  clear O u hm hb1 hf
  go_wp2
  go_ret
  exact ⟨rfl, HO.out, HU.out⟩

set_option maxHeartbeats 2000000 in
theorem heldIR6_k (code cc : Int) (cd ck : Bool) (cx : Int) (p : InstQ) (c : Int) (w : World) (h : instK.rd w (mkInst c p)) (hl : InstQ.n p ≤ 1048576) (h0 : 0 ≤ c) (h1 : c ≤ 1000000000) :
    Calls Tryd.prog 8 #[.agg (resC code cc cd ck cx p), .int .i64 c] w fun e w' => e = .returned (.int .i64 (c + (nmInst p : Int))) ∧ Below w.heap.size w w' := by
  have hm := fun w h => heldInstance_k p c w h hl h0 h1
  have g1 : ¬ c + (nmInst p : Int) < 0 := by omega
  generalize (nmInst p : Int) = N at *
  have hb1 := fun (w' : World) hb => instK.rd_below (w' := w') h hb
  obtain ⟨has, vb, batch, vr, rounds, vd, dec⟩ := p
  obtain ⟨o1, o2, o3⟩ : txnK.At w vb (mkL mkTxn nmTxn c batch) ∧ roundK.At w vr (mkL mkRound nmRound (c + (nmL nmTxn batch : Int)) rounds) ∧ intK.At w vd (mkInts (c + (nmL nmTxn batch : Int) + (nmL nmRound rounds : Int)) dec) := h
  dsimp only at hm
  obtain ⟨a1, k1, e1⟩ := o1.shape
  obtain ⟨a2, k2, e2⟩ := o2.shape
  obtain ⟨a3, k3, e3⟩ := o3.shape
  clear o1 o2 o3 hl
  generalize (mkL mkTxn nmTxn c batch).length = l1 at *
  generalize (mkL mkRound nmRound (c + (nmL nmTxn batch : Int)) rounds).length = l2 at *
  generalize (mkInts (c + (nmL nmTxn batch : Int) + (nmL nmRound rounds : Int)) dec).length = l3 at *
  subst e1 e2 e3
  have hB : Below w.heap.size w (w.alloc (.cells #[.int .i64 code, .int .i64 cc, .bool cd, .bool ck, .int .i64 cx, .bool has, .slice a1 l1 k1, .slice a2 l2 k2, .slice a3 l3 k3] 30)) := by go_grown
  go_enter Tryd.func8, Tryd.ntmps8
  go_wp2_with fail
  generalize w.alloc (.cells #[.int .i64 code, .int .i64 cc, .bool cd, .bool ck, .int .i64 cx, .bool has, .slice a1 l1 k1, .slice a2 l2 k2, .slice a3 l3 k3] 30) = W at *
  refine (hm W (hb1 _ hB)).mono ?_
  rintro e w1 ⟨rfl, hb⟩
  replace hB := hB.trans (hb.mono hB.size)
  clear hb hm hb1
  go_wp2
  go_ret
  exact ⟨rfl, hB⟩

end Go.Proofs.YtfpponhjhbfbeaaDoor
