/- Texts joined, with what the law reaches alone. -/
import Derived.Test.YtdcjefgafckmgaaGreatDoorSAG
import Derived.Test.YtdcjefgafckmgaaGreatDoorSAH
namespace Go.Proofs.YtdcjefgafckmgaaGreatDoor
open Go.RowKit
open Go.BigFrame
set_option linter.unusedVariables false
set_option maxRecDepth 100000
set_option linter.unusedSimpArgs false
abbrev mkTxns (c : Int) (ps : List TxnQ) : List TxnQ := mkL mkTxn nmTxn c ps

abbrev mkRounds (c : Int) (ps : List RoundQ) : List RoundQ := mkL mkRound nmRound c ps

theorem mkTxns_fp (v : Value) (c : Int) (ps : List TxnQ) : txnK.fp v (mkTxns c ps) = txnK.fp v ps := fp_mkL mkTxn_foot _ _ _

theorem mkRounds_fp (v : Value) (c : Int) (ps : List RoundQ) : roundK.fp v (mkRounds c ps) = roundK.fp v ps := fp_mkL mkRound_foot _ _ _

def mkInsS (c : Int) (p : InstQ) : InstQ := ⟨((c) % 3 == 0), p.vb, mkTxns (c + 1) p.batch, p.vr, mkRounds (c + 1 + ((nmL nmTxn p.batch : Nat) : Int)) p.rounds, p.vd, mkInts (c + 1 + ((nmL nmTxn p.batch : Nat) : Int) + ((nmL nmRound p.rounds : Nat) : Int)) p.dec⟩

def nmInsS (p : InstQ) : Nat := 1 + nmL nmTxn p.batch + nmL nmRound p.rounds + p.dec.length

theorem mkInsS_foot (c : Int) (p : InstQ) : instK.foot (mkInsS c p) = instK.foot p := by
  simp only [mkInsS, show ∀ p : InstQ, instK.foot p = txnK.fp p.vb p.batch ++ (roundK.fp p.vr p.rounds ++ intK.fp p.vd p.dec) from fun _ => rfl, mkTxns_fp, mkRounds_fp, mkInts_fp]

set_option maxHeartbeats 4000000 in
theorem markInstances_k (v : Value) (ps : List InstQ) (c : Int) (w : World) (h : instK.Own w v ps) (hnd : (instK.fp v ps).Nodup) (hl : (ps.length + nmL InstQ.n ps) ≤ 1048576) (h0 : 0 ≤ c) (h1 : c + (nmL nmInsS ps : Int) ≤ 1099511627776) :
    Calls Tryz.prog 31 #[v, .int .i64 c] w fun e w' => e = .returned (.int .i64 (c + (nmL nmInsS ps : Int))) ∧ instK.Own w' v (mkL mkInsS nmInsS c ps) ∧ Out (instK.fp v ps) w w' := by
  obtain ⟨a, cap, rfl⟩ := h.shape
  have hfph : ∀ k, k ≤ ps.length → instK.fp (.slice a ps.length cap) (half mkInsS nmInsS c ps k) = instK.fp (.slice a ps.length cap) ps := fun k hk => fp_half mkInsS_foot _ c ps k
  have HF : Hid (∀ k, k ≤ ps.length → instK.fp (.slice a ps.length cap) (half mkInsS nmInsS c ps k) = instK.fp (.slice a ps.length cap) ps) := hfph
  have HA : Hid (instK.Own w (.slice a ps.length cap) (half mkInsS nmInsS c ps 0)) := by rw [half_zero]; exact h
  clear hfph h
  go_enter Tryz.func31, Tryz.ntmps31
  go_wp2
  go_loopw [1, 5] (fun j i wr => ∃ k : Nat, k ≤ ps.length ∧ j = .int .i64 (c + (nmL nmInsS (ps.take k) : Int)) ∧ i = .int .i64 k ∧ Hid (instK.Own wr (.slice a ps.length cap) (half mkInsS nmInsS c ps k)) ∧ Hid (Out (instK.fp (.slice a ps.length cap) ps) w wr)) (fun _ i _ => ps.length - (intOf i).toNat)
  case atStart => exact ⟨0, Nat.zero_le _, by simp [nmL], rfl, HA, Out.refl _ _⟩
  case round =>
    clear HA
    obtain ⟨k, hk, rfl, rfl, HO, HU⟩ := hrel
    by_cases hlt : k < ps.length
    · have hhl : (half mkInsS nmInsS c ps k).length = ps.length := half_length _ _ _ _ _ hk
      have hO := HO.out
      obtain ⟨g, rfl⟩ := hO.blkOf (by omega)
      have hndk : (instK.fp (.slice (some ⟨g, 0, none⟩) ps.length cap) (half mkInsS nmInsS c ps k)).Nodup := by rw [HF.out k hk]; exact hnd
      have hsub : Hid (∀ x ∈ instK.foot ps[k], x ∈ instK.fp (.slice (some ⟨g, 0, none⟩) ps.length cap) ps) := fun x hx => by
        simp only [Kind.fp, List.mem_append, List.mem_flatMap]
        exact Or.inr ⟨_, List.getElem_mem hlt, hx⟩
      have hg0 : Hid (∀ x ∈ [g], x ∈ instK.fp (.slice (some ⟨g, 0, none⟩) ps.length cap) ps) := fun x hx => by
        simp only [List.mem_singleton] at hx
        subst hx
        simp [Kind.fp, blk, Value.ownBlock]
      have hltH : k < (half mkInsS nmInsS c ps k).length := by omega
      have hget := half_get mkInsS nmInsS c ps k hlt
      have hOk : instK.Own wr (.slice (some ⟨g, 0, none⟩) ps.length cap) ((half mkInsS nmInsS c ps k).set k ps[k]) := by
        have e : (half mkInsS nmInsS c ps k).set k ps[k] = half mkInsS nmInsS c ps k := by
          rw [← hget, List.set_getElem_self]
        rw [e]; exact hO
      have hnk : (instK.fp (.slice (some ⟨g, 0, none⟩) ps.length cap) ((half mkInsS nmInsS c ps k).set k ps[k])).Nodup := by
        have e : (half mkInsS nmInsS c ps k).set k ps[k] = half mkInsS nmInsS c ps k := by
          rw [← hget, List.set_getElem_self]
        rw [e]; exact hndk
      clear hget hO hndk
      have hset := half_set mkInsS nmInsS c ps k hlt
      have hsu := nmL_succ nmInsS ps k hlt
      have hle := nmL_le nmInsS ps (k + 1)
      have hzl := nm_le InstQ.n ps k hlt
      have HSU : Hid ((nmL nmInsS (ps.take (k + 1)) : Int) = (nmL nmInsS (ps.take k) : Int) + (nmInsS ps[k] : Int)) := show _ = _ by omega
      have hyb : (nmL nmInsS (ps.take k) : Int) + (nmInsS ps[k] : Int) ≤ nmL nmInsS ps := by omega
      have HSET : Hid ((half mkInsS nmInsS c ps k).set k (mkInsS (c + (nmL nmInsS (ps.take k) : Int)) ps[k]) = half mkInsS nmInsS c ps (k + 1)) := hset
      clear hset hsu hle HO
      generalize half mkInsS nmInsS c ps k = hs at *
      generalize hpk : ps[k] = p at *
      clear hpk
      obtain ⟨z_has, z_vb, d_batch, z_vr, d_rounds, z_vd, d_dec⟩ := p
      have hkL : k < hs.length := hltH
      dsimp only [nmInsS, InstQ.n] at HSU hyb hzl
      generalize hy : (nmL nmInsS (ps.take k) : Int) = y at *
      have hy0 : 0 ≤ y := by omega
      clear hy
      obtain ⟨c0, f0⟩ := hOk.cell' hkL 0 (.bool z_has) rfl
      obtain ⟨c1, f1⟩ := hOk.cell' hkL 1 (z_vb) rfl
      have c0 : wr.cell? ⟨g, k * 4, none⟩ = _ := c0
      have f0 : wr.frozen? ⟨g, k * 4, none⟩ = _ := f0
      have c1 : wr.cell? ⟨g, k * 4 + 1, none⟩ = _ := c1
      have f1 : wr.frozen? ⟨g, k * 4 + 1, none⟩ = _ := f1
      obtain ⟨hOn, hnn⟩ := hOk.store' hnk hkL (⟨((c + y) % 3 == 0), z_vb, d_batch, z_vr, d_rounds, z_vd, d_dec⟩ : InstQ) 0 (.bool ((c + y) % 3 == 0)) (by decide) rfl rfl (fun _ h => h)
      have hOk : instK.Own (wr.setCell ⟨g, k * 4, none⟩ (.bool ((c + y) % 3 == 0))) (.slice (some ⟨g, 0, none⟩) ps.length cap) (hs.set k (⟨((c + y) % 3 == 0), z_vb, d_batch, z_vr, d_rounds, z_vd, d_dec⟩ : InstQ)) := hOn
      have hnk := hnn
      have HU : Hid (Out (instK.fp (.slice (some ⟨g, 0, none⟩) ps.length cap) ps) w (wr.setCell ⟨g, k * 4, none⟩ (.bool ((c + y) % 3 == 0)))) := (HU.out.trans ((Out.setCell _ g (k * 4) (.bool ((c + y) % 3 == 0))).mono hg0.out))
      have he1 := hOk.elem' hkL
      have hl1 : txnK.Own (wr.setCell ⟨g, k * 4, none⟩ (.bool ((c + y) % 3 == 0))) z_vb d_batch := he1.1
      have hmk := markTxns_k z_vb d_batch (c + y + 1) _ hl1 (List.nodup_append.1 (foot_nodup hnk hkL)).1 (by omega) (by omega) (by omega)
      obtain ⟨sa1, sc1, hsh1⟩ := hl1.shape
      subst hsh1

      clear he1 hl1
      go_wp2_with fail
      refine hmk.mono ?_
      rintro e w21 ⟨rfl, hm1, ho1⟩
      clear hmk
      obtain ⟨hOn, hnn⟩ := hOk.turn' hnk hkL (⟨((c + y) % 3 == 0), .slice sa1 d_batch.length sc1, mkTxns (c + y + 1) d_batch, z_vr, d_rounds, z_vd, d_dec⟩ : InstQ) ho1 (fun x hx => List.mem_append_left _ hx) rfl (by simp only [show ∀ p : InstQ, instK.foot p = txnK.fp p.vb p.batch ++ (roundK.fp p.vr p.rounds ++ intK.fp p.vd p.dec) from fun _ => rfl, mkTxns_fp, mkRounds_fp, mkInts_fp]) (⟨hm1, (hOk.elem' hkL).2.1.out ho1 (fun k hk => nd_right (foot_nodup hnk hkL) k (List.mem_append_left _ hk)), (hOk.elem' hkL).2.2.out ho1 (fun k hk => nd_right (foot_nodup hnk hkL) k (List.mem_append_right _ hk))⟩)
      have HU : Hid (Out (instK.fp (.slice (some ⟨g, 0, none⟩) ps.length cap) ps) w w21) := HU.out.trans (ho1.mono (fun x hx => hsub.out x (show x ∈ instK.foot _ from (fun x hx => List.mem_append_left _ hx) x hx)))
      have hOk := hOn
      have hnk := hnn
      obtain ⟨c2, f2⟩ := hOk.cell' hkL 2 (z_vr) rfl
      have c2 : w21.cell? ⟨g, k * 4 + 2, none⟩ = _ := c2
      have f2 : w21.frozen? ⟨g, k * 4 + 2, none⟩ = _ := f2
      have he2 := hOk.elem' hkL
      have hl2 : roundK.Own w21 z_vr d_rounds := he2.2.1
      have hmk := markRounds_k z_vr d_rounds (c + y + 1 + ((nmL nmTxn d_batch : Nat) : Int)) _ hl2 (List.nodup_append.1 (List.nodup_append.1 (foot_nodup hnk hkL)).2.1).1 (by omega) (by omega) (by omega)
      obtain ⟨sa2, sc2, hsh2⟩ := hl2.shape
      subst hsh2

      clear he2 hl2
      go_wp2_with fail
      refine hmk.mono ?_
      rintro e w22 ⟨rfl, hm2, ho2⟩
      clear hmk
      obtain ⟨hOn, hnn⟩ := hOk.turn' hnk hkL (⟨((c + y) % 3 == 0), .slice sa1 d_batch.length sc1, mkTxns (c + y + 1) d_batch, .slice sa2 d_rounds.length sc2, mkRounds (c + y + 1 + ((nmL nmTxn d_batch : Nat) : Int)) d_rounds, z_vd, d_dec⟩ : InstQ) ho2 (fun x hx => List.mem_append_right _ (List.mem_append_left _ hx)) rfl (by simp only [show ∀ p : InstQ, instK.foot p = txnK.fp p.vb p.batch ++ (roundK.fp p.vr p.rounds ++ intK.fp p.vd p.dec) from fun _ => rfl, mkTxns_fp, mkRounds_fp, mkInts_fp]) (⟨(hOk.elem' hkL).1.out ho2 (fun k hk hk2 => nd_left (foot_nodup hnk hkL) k hk (List.mem_append_left _ hk2)), hm2, (hOk.elem' hkL).2.2.out ho2 (nd_right (List.nodup_append.1 (foot_nodup hnk hkL)).2.1)⟩)
      have HU : Hid (Out (instK.fp (.slice (some ⟨g, 0, none⟩) ps.length cap) ps) w w22) := HU.out.trans (ho2.mono (fun x hx => hsub.out x (show x ∈ instK.foot _ from (fun x hx => List.mem_append_right _ (List.mem_append_left _ hx)) x hx)))
      have hOk := hOn
      have hnk := hnn
      obtain ⟨c3, f3⟩ := hOk.cell' hkL 3 (z_vd) rfl
      have c3 : w22.cell? ⟨g, k * 4 + 3, none⟩ = _ := c3
      have f3 : w22.frozen? ⟨g, k * 4 + 3, none⟩ = _ := f3
      have he3 := hOk.elem' hkL
      have hl3 : intK.Own w22 z_vd d_dec := he3.2.2
      have hmk := markInts_k z_vd d_dec (c + y + 1 + ((nmL nmTxn d_batch : Nat) : Int) + ((nmL nmRound d_rounds : Nat) : Int)) _ hl3  (by omega) (by omega) (by omega)
      obtain ⟨sa3, sc3, hsh3⟩ := hl3.shape
      subst hsh3

      clear he3 hl3
      go_wp2_with fail
      refine hmk.mono ?_
      rintro e w23 ⟨rfl, hm3, ho3⟩
      clear hmk
      obtain ⟨hOn, hnn⟩ := hOk.turn' hnk hkL (⟨((c + y) % 3 == 0), .slice sa1 d_batch.length sc1, mkTxns (c + y + 1) d_batch, .slice sa2 d_rounds.length sc2, mkRounds (c + y + 1 + ((nmL nmTxn d_batch : Nat) : Int)) d_rounds, .slice sa3 d_dec.length sc3, mkInts (c + y + 1 + ((nmL nmTxn d_batch : Nat) : Int) + ((nmL nmRound d_rounds : Nat) : Int)) d_dec⟩ : InstQ) ho3 (fun x hx => List.mem_append_right _ (List.mem_append_right _ (hx))) rfl (by simp only [show ∀ p : InstQ, instK.foot p = txnK.fp p.vb p.batch ++ (roundK.fp p.vr p.rounds ++ intK.fp p.vd p.dec) from fun _ => rfl, mkTxns_fp, mkRounds_fp, mkInts_fp]) (⟨(hOk.elem' hkL).1.out ho3 (fun k hk hk2 => nd_left (foot_nodup hnk hkL) k hk (List.mem_append_right _ hk2)), (hOk.elem' hkL).2.1.out ho3 (nd_left (List.nodup_append.1 (foot_nodup hnk hkL)).2.1), hm3⟩)
      have HU : Hid (Out (instK.fp (.slice (some ⟨g, 0, none⟩) ps.length cap) ps) w w23) := HU.out.trans (ho3.mono (fun x hx => hsub.out x (show x ∈ instK.foot _ from (fun x hx => List.mem_append_right _ (List.mem_append_right _ (hx))) x hx)))
      have hOk := hOn
      have hnk := hnn
      have R : Hid (instK.Own w23 (.slice (some ⟨g, 0, none⟩) ps.length cap) (half mkInsS nmInsS c ps (k + 1))) := by rw [← HSET.out]; exact hOk
      clear hOk hnk HSET hsub hg0
      go_wp2
      go_roundw
      case rel => exact ⟨k + 1, by omega, by rw [HSU.out]; congr 1; omega, by go_num, R.out, HU.out⟩
      case measure => simp [intOf]; omega
    · have hkl : k = ps.length := by omega
      subst hkl
      have hO := HO.out
      rw [half_all] at hO
      rw [List.take_length]
      clear HF HO
      go_wp2
      go_ret
      exact ⟨rfl, hO, HU.out⟩

end Go.Proofs.YtdcjefgafckmgaaGreatDoor
namespace Go.Proofs.YtdcjefgafckmgaaGreatDoor
open Go.RowKit
open Go.BigFrame
set_option linter.unusedVariables false
set_option maxRecDepth 100000
set_option linter.unusedSimpArgs false
end Go.Proofs.YtdcjefgafckmgaaGreatDoor
namespace Go.Proofs.YtdcjefgafckmgaaGreatDoor
open Go.RowKit
open Go.BigFrame
set_option linter.unusedVariables false
set_option maxRecDepth 100000
set_option linter.unusedSimpArgs false
theorem nmInsS_le (ps : List InstQ) : nmL nmInsS ps ≤ 3 * (ps.length + nmL InstQ.n ps) := by
  induction ps with
  | nil => simp [nmL]
  | cons p r ih =>
    have h1 := nmTxn_le p.batch
    have h2 := nmRound_le p.rounds
    simp only [nmL, List.map_cons, List.sum_cons, List.length_cons] at ih ⊢
    simp only [nmInsS, InstQ.n] at ih ⊢
    simp only [nmL] at h1 h2 ih ⊢
    omega

theorem insts_n {qs ps : List InstQ} (h : qs.map InstQ.e = ps.map InstQ.e) : qs.length + nmL InstQ.n qs = ps.length + nmL InstQ.n ps := by
  induction qs generalizing ps with
  | nil =>
    cases ps with
    | nil => rfl
    | cons p r => simp at h
  | cons q s ih =>
    cases ps with
    | nil => simp at h
    | cons p r =>
      simp only [List.map_cons, List.cons.injEq] at h
      have h1 := inst_n h.1
      have h2 := ih h.2
      simp only [nmL, List.map_cons, List.sum_cons, List.length_cons] at h2 ⊢
      omega

set_option maxHeartbeats 1000000 in
theorem eqTXR_k (c : Int) (v v' : Value) (ps qs : List TxnQ) (w : World) (h : txnK.At w v ps) (h' : txnK.At w v' qs) (he : ps.map TxnQ.e = qs.map TxnQ.e) (hl : (ps.length + nmL TxnQ.n ps) ≤ 1048576) :
    Calls Tryz.prog 29 #[.agg #[.int .i64 c, v], .agg #[.int .i64 c, v']] w fun e w' => e = .returned (.bool true) ∧ Below w.heap.size w w' := by
  have hq := fun w h1 h2 => eqTxns_k v v' ps qs w h1 h2 he hl
  clear he
  obtain ⟨a, k0, rfl⟩ := h.shape
  obtain ⟨a', k0', rfl⟩ := h'.shape
  have hB : Below w.heap.size w ((w.alloc (.cells #[.int .i64 c, .slice a ps.length k0] 29)).alloc (.cells #[.int .i64 c, .slice a' qs.length k0'] 29)) := by go_grown
  have n0 : (c != c) = false := by simp
  go_enter Tryz.func29, Tryz.ntmps29
  go_wp2_with fail
  generalize (w.alloc (.cells #[.int .i64 c, .slice a ps.length k0] 29)).alloc (.cells #[.int .i64 c, .slice a' qs.length k0'] 29) = W at *
  refine (hq W (h.below hB) (h'.below hB)).mono ?_
  rintro e w1 ⟨rfl, hb⟩
  replace hB := hB.trans (hb.mono hB.size)
  go_wp2
  go_ret
  exact ⟨rfl, hB⟩

set_option maxHeartbeats 1000000 in
theorem markTXR_k (c : Int) (v : Value) (ps : List TxnQ) (k : Int) (w : World) (h : txnK.Own w v ps) (hnd : (txnK.fp v ps).Nodup) (hl : (ps.length + nmL TxnQ.n ps) ≤ 1048576) (h0 : 0 ≤ k) (h1 : k + (nmL nmTxn ps : Int) ≤ 1099511627776) :
    Calls Tryz.prog 32 #[.agg #[.int .i64 c, v], .int .i64 k] w fun e w' => e = .returned (.int .i64 (k + (nmL nmTxn ps : Int))) ∧ txnK.Own w' v (mkL mkTxn nmTxn k ps) ∧ Out (txnK.fp v ps) w w' := by
  have hq := fun w h => markTxns_k v ps k w h hnd hl h0 h1
  obtain ⟨a, k0, rfl⟩ := h.shape
  have hB : Below w.heap.size w (w.alloc (.cells #[.int .i64 c, .slice a ps.length k0] 29)) := by go_grown
  generalize (nmL nmTxn ps : Int) = M at *
  go_enter Tryz.func32, Tryz.ntmps32
  go_wp2_with fail
  generalize w.alloc (.cells #[.int .i64 c, .slice a ps.length k0] 29) = W at *
  refine (hq W (h.below hB)).mono ?_
  rintro e w1 ⟨rfl, ho, hu⟩
  have HU := (Out.of_below (F := txnK.fp (.slice a ps.length k0) ps) hB).trans hu
  clear hB hu
  go_wp2
  go_ret
  exact ⟨rfl, ho, HU⟩

set_option maxHeartbeats 1000000 in
theorem heldTXR_k (c : Int) (v : Value) (ps : List TxnQ) (k : Int) (w : World) (h : txnK.At w v (mkL mkTxn nmTxn k ps)) (hl : (ps.length + nmL TxnQ.n ps) ≤ 1048576) (h0 : 0 ≤ k) (h1 : k + (nmL nmTxn ps : Int) ≤ 1099511627776) :
    Calls Tryz.prog 33 #[.agg #[.int .i64 c, v], .int .i64 k] w fun e w' => e = .returned (.int .i64 (k + (nmL nmTxn ps : Int))) ∧ Below w.heap.size w w' := by
  have hq := fun w h => heldTxns_k v ps k w h hl h0 h1
  obtain ⟨a, k0, rfl⟩ := h.shape
  rw [mkL_length] at h hq ⊢
  have hB : Below w.heap.size w (w.alloc (.cells #[.int .i64 c, .slice a ps.length k0] 29)) := by go_grown
  generalize hM : (nmL nmTxn ps : Int) = M at *
  have hn : ¬ (k + M < 0) := by omega
  clear hM
  go_enter Tryz.func33, Tryz.ntmps33
  go_wp2_with fail
  generalize w.alloc (.cells #[.int .i64 c, .slice a ps.length k0] 29) = W at *
  refine (hq W (h.below hB)).mono ?_
  rintro e w1 ⟨rfl, hb⟩
  replace hB := hB.trans (hb.mono hB.size)
  go_wp2
  go_ret
  exact ⟨rfl, hB⟩

end Go.Proofs.YtdcjefgafckmgaaGreatDoor
namespace Go.Proofs.YtdcjefgafckmgaaGreatDoor
open Go.RowKit
open Go.BigFrame
set_option linter.unusedVariables false
set_option maxRecDepth 100000
set_option linter.unusedSimpArgs false
def txnNo' : TxnD := ⟨0, 0, 0, []⟩

theorem txn_get (xs : List TxnQ) (k : Nat) (hk : k < xs.length) : (xs.map TxnQ.e).getD k txnNo' = TxnQ.e xs[k] := by simp [List.getD, hk]

theorem knw_yes {acc : List TxnD} {t : TxnD} (k : Nat) (hk : k < acc.length) (h : stF (acc.getD k txnNo') t = true) : knw acc t = true := by
  unfold knw
  rw [List.any_eq_true]
  exact ⟨acc[k], List.getElem_mem hk, by simpa [List.getD, hk] using h⟩

theorem knw_no {acc : List TxnD} {t : TxnD} (h : ∀ j, j < acc.length → stF (acc.getD j txnNo') t = false) : knw acc t = false := by
  cases hc : knw acc t with
  | false => rfl
  | true =>
    unfold knw at hc
    rw [List.any_eq_true] at hc
    obtain ⟨x, hx, hs⟩ := hc
    obtain ⟨j, hj, rfl⟩ := List.getElem_of_mem hx
    have := h j hj
    have e : acc.getD j txnNo' = acc[j] := by simp [List.getD, hj]
    rw [e, hs] at this
    exact absurd this (by decide)

set_option maxHeartbeats 4000000 in
theorem l7Known_any (v : Value) (acc : List TxnQ) (b o : Nat) (x : TxnD) (va : Value) (w : World) (h : txnK.At w v acc) (hB : Box4 w b o (.int .i64 x.id) (.int .i64 x.session) (.int .i64 x.seq) va) (hl : acc.length ≤ 1048576) :
    Calls Tryz.prog 86 #[v, .pointer (some ⟨b, o, none⟩)] w fun e w' => e = .returned (.bool (knw (acc.map TxnQ.e) x)) ∧ Below w.heap.size w w' := by
  obtain ⟨a, cap, rfl⟩ := h.shape
  obtain ⟨d0, d1, d2, d3⟩ := hB
  generalize hE : knw (acc.map TxnQ.e) x = E
  have HE : Hid (knw (acc.map TxnQ.e) x = E) := hE
  clear hE
  obtain ⟨xi, xs, xq, xa⟩ := x
  dsimp only at d0 d1 d2 d3
  go_enter Tryz.func86, Tryz.ntmps86
  go_wp2
  go_loopw [5] (fun j wr => ∃ k m : Nat, k ≤ acc.length ∧ j = .int .i64 k ∧ wr = w.drewN m ∧ Hid (∀ j, j < k → stF ((acc.map TxnQ.e).getD j txnNo') ⟨xi, xs, xq, xa⟩ = false)) (fun j _ => acc.length - (intOf j).toNat)
  case atStart => exact ⟨0, 0, Nat.zero_le _, rfl, rfl, fun j hj => absurd hj (Nat.not_lt_zero _)⟩
  case round =>
    obtain ⟨k, m, hk, rfl, rfl, HA⟩ := hrel
    by_cases hlt : k < acc.length
    · obtain ⟨b', off, rfl, hbs, hc, hrd⟩ := h.cell (by decide) k hlt
      have hc' : ∀ j x, (txnK.cells acc[k])[j]? = some x → w.cell? ⟨b', off + k * 4 + j, none⟩ = some x := hc
      have c0 := hc' 0 (.int .i64 acc[k].i) rfl
      have c1 := hc' 1 (.int .i64 acc[k].s) rfl
      have c2 := hc' 2 (.int .i64 acc[k].q) rfl
      rw [Nat.add_zero] at c0
      have HY : Hid (stF (TxnQ.e acc[k]) ⟨xi, xs, xq, xa⟩ = true → E = true) := fun hx => by rw [← HE.out]; exact knw_yes k (by simpa using hlt) (by rw [txn_get acc k hlt]; exact hx)
      have HN : Hid (stF (TxnQ.e acc[k]) ⟨xi, xs, xq, xa⟩ = false → ∀ j, j < k + 1 → stF ((acc.map TxnQ.e).getD j txnNo') ⟨xi, xs, xq, xa⟩ = false) := fun hx j hj => by
        by_cases hjm : j = k
        · subst hjm
          rw [txn_get acc j hlt]
          exact hx
        · exact HA.out j (by omega)
      clear HA hc hc' hrd
      generalize acc[k] = p at *
      obtain ⟨i, s, q, va', acts⟩ := p
      dsimp only [TxnQ.e, stF] at c0 c1 c2 HY HN
      have hlti : (k : Int) < (acc.length : Int) := by omega
      cases h1 : (i == xi)
      · cases h2 : (s == xs)
        · have HR := HN.out (by rw [h1, h2]; rfl)
          have HR' : Hid _ := HR
          clear HY HN HR
          go_wp2
          go_quiet (fail)
          go_wp2
          go_roundw
          case rel => exact ⟨k + 1, _, by omega, by go_num, rfl, HR'.out⟩
          case measure => simp [intOf]; omega
        · cases h3 : (q == xq)
          · have HR := HN.out (by rw [h1, h2, h3]; rfl)
            have HR' : Hid _ := HR
            clear HY HN HR
            go_wp2
            go_quiet (fail)
            go_wp2
            go_roundw
            case rel => exact ⟨k + 1, _, by omega, by go_num, rfl, HR'.out⟩
            case measure => simp [intOf]; omega
          · have E1 : Hid (E = true) := HY.out (by rw [h1, h2, h3]; rfl)
            clear HY HN
            go_wp2
            go_quiet (fail)
            go_wp2
            go_ret
            rw [E1.out]
            exact ⟨rfl, ⟨rfl, rfl, rfl, Nat.le_refl _, fun _ _ => rfl⟩⟩
      · have E1 : Hid (E = true) := HY.out (by rw [h1]; rfl)
        clear HY HN
        go_wp2
        go_quiet (fail)
        go_wp2
        go_ret
        rw [E1.out]
        exact ⟨rfl, ⟨rfl, rfl, rfl, Nat.le_refl _, fun _ _ => rfl⟩⟩
    · have E1 : Hid (E = false) := by rw [← HE.out]; exact knw_no (fun j hj => HA.out j (by simp at hj; omega))
      have hlti : ¬ (k : Int) < (acc.length : Int) := by omega
      clear HA HE
      go_wp2
      go_ret
      rw [E1.out]
      exact ⟨rfl, ⟨rfl, rfl, rfl, Nat.le_refl _, fun _ _ => rfl⟩⟩

theorem takF_succ (ds : List InstE) (k : Nat) (hk : k < ds.length) : takF (ds.take (k + 1)) = takF (ds.take k) ++ (if outV (ds.getD k instNo).dec = 1 then (ds.getD k instNo).batch else []) := by
  rw [List.take_succ_eq_append_getElem hk]
  unfold takF
  rw [List.flatMap_append]
  have e : ds.getD k instNo = ds[k] := by simp [List.getD, hk]
  simp only [List.flatMap_cons, List.flatMap_nil, List.append_nil, e]

theorem onc_snoc (xs acc : List TxnD) (t : TxnD) : onc acc (xs ++ [t]) = if knw (onc acc xs) t then onc acc xs else onc acc xs ++ [t] := by
  rw [onc_append]
  simp only [onc]

set_option maxHeartbeats 16000000 in
theorem l7Definite_any (v : Value) (ps : List InstQ) (n : Nat) (w : World) (h : instK.At w v ps) (hlow : (∀ p ∈ ps, (∀ t ∈ p.batch, 0 < t.acts.length) ∧ (∀ r ∈ p.rounds, 0 < r.rep.length ∧ 0 < r.pro.length) ∧ 0 < p.dec.length)) (hbat : ∀ p ∈ ps, p.batch.length ≤ 4) (hn : n ≤ ps.length) (h4 : ps.length ≤ 4) (hl : (ps.length + nmL InstQ.n ps) ≤ 1048576) :
    Calls Tryz.prog 53 #[v, .int .i64 n] w fun e w' => ∃ v' qs, e = .returned v' ∧ qs.map TxnQ.e = defL (ps.map InstQ.e) n ∧ txnK.Own w' v' qs ∧ (txnK.fp v' qs).Nodup ∧ (∀ k ∈ txnK.fp v' qs, w.heap.size ≤ k) ∧ Below w.heap.size w w' := by
  obtain ⟨a, cap, rfl⟩ := h.shape
  obtain ⟨i0, hi, hz0, hz1, hz2⟩ := info_parts infoTxn
  have ho := World.ownsRow_lit (e := 44) (size := 4) w #[] 0 (Nat.le_refl _) (by decide) rfl
  have hn1 : txnK.Own (w.alloc (.cells #[] 44)) (.slice (some ⟨w.heap.size, 0, none⟩) 0 0) ([] : List TxnQ) := ⟨(own_zero ho).1, fun p hp => by simp at hp⟩
  have hb0 : Below w.heap.size w (w.alloc (.cells #[] 44)) := by go_grown
  have HN0 : Hid ((txnK.fp (.slice (some ⟨w.heap.size, 0, none⟩) 0 0) ([] : List TxnQ)).Nodup ∧ ∀ k ∈ txnK.fp (.slice (some ⟨w.heap.size, 0, none⟩) 0 0) ([] : List TxnQ), w.heap.size ≤ k) := by
    refine ⟨?_, ?_⟩
    · simp [Kind.fp, blk, Value.ownBlock]
    · simp [Kind.fp, blk, Value.ownBlock]
  clear ho
  have HE0 : Hid (([] : List TxnQ).map TxnQ.e = defL (ps.map InstQ.e) 0) := by show _ = _; simp [defL, takF, onc]
  have HL0 : Hid (([] : List TxnQ).length ≤ 4 * 0) := by show _ ≤ _; simp
  go_enter Tryz.func53, Tryz.ntmps53
  go_wp2
  go_loopw [5, 6] (fun v j wr => ∃ (k : Nat) (qs : List TxnQ), k ≤ n ∧ j = .int .i64 k ∧ Hid (qs.map TxnQ.e = defL (ps.map InstQ.e) k) ∧ Hid (qs.length ≤ 4 * k) ∧ txnK.Own wr v qs ∧ Hid ((txnK.fp v qs).Nodup ∧ ∀ k ∈ txnK.fp v qs, w.heap.size ≤ k) ∧ Below w.heap.size w wr) (fun _ j _ => n - (intOf j).toNat)
  case atStart => exact ⟨0, [], Nat.zero_le _, rfl, HE0, HL0, hn1, HN0, hb0⟩
  case round =>
    clear HN0 hn1 hb0 HE0 HL0
    obtain ⟨k, qs, hk, rfl, HE, HL, hO, HN, hb⟩ := hrel
    obtain ⟨sa, sc, rfl⟩ := hO.shape
    by_cases hlt : k < n
    · have hltp : k < ps.length := by omega
      have HT := takF_succ (ps.map InstQ.e) k (by simpa using hltp)
      rw [inst_at ps k hltp] at HT
      have HT1 : Hid (outV ps[k].dec ≠ 1 → defL (ps.map InstQ.e) (k + 1) = defL (ps.map InstQ.e) k) := fun hx => by
        unfold defL
        rw [HT, if_neg (show ¬ outV (InstQ.e ps[k]).dec = 1 from hx), List.append_nil]
      have HT2 : Hid (outV ps[k].dec = 1 → ∀ m, onc (defL (ps.map InstQ.e) k) ((ps[k].batch.map TxnQ.e).take m) = onc [] (takF ((ps.map InstQ.e).take k) ++ (ps[k].batch.map TxnQ.e).take m)) := fun _ m => by
        rw [onc_append]
        rfl
      have HT3 : Hid (outV ps[k].dec = 1 → defL (ps.map InstQ.e) (k + 1) = onc (defL (ps.map InstQ.e) k) (ps[k].batch.map TxnQ.e)) := fun hx => by
        unfold defL
        rw [HT, if_pos (show outV (InstQ.e ps[k]).dec = 1 from hx), onc_append]
        rfl
      clear HT
      obtain ⟨b, off, rfl, hbs, hP⟩ := instP_at h k hltp
      have hnk : InstQ.n ps[k] ≤ 1048576 := by have := nmI_le ps k hltp; omega
      have hho := l6Outcome_any b (off + k * 4) ps[k] wr (hP.below hb) hnk
      have hbs' : b < wr.heap.size := Nat.lt_of_lt_of_le hbs hb.size
      have hlow1 := hlow _ (List.getElem_mem hltp)
      have hb4 := hbat _ (List.getElem_mem hltp)
      generalize outV ps[k].dec = OV at *
      have hlti : (k : Int) < (n : Int) := by omega
      have hltpi : (k : Int) < (ps.length : Int) := by omega
      go_wp2_with fail
      refine hho.mono ?_
      rintro e w' ⟨rfl, hw⟩
      replace hw := hw.symm
      subst hw
      clear hho
      by_cases hO1 : OV = 1
      case neg =>
        have e1 : (OV != 1) = true := by simpa using hO1
        have HR : Hid (qs.map TxnQ.e = defL (ps.map InstQ.e) (k + 1)) := show _ = _ by rw [HT1.out hO1]; exact HE.out
        have HR2 : Hid (qs.length ≤ 4 * (k + 1)) := show _ ≤ _ by have := HL.out; omega
        clear HT1 HT2 HT3 HE HL hO1
        go_wp2
        go_roundw
        case rel => exact ⟨k + 1, qs, by omega, by go_num, HR, HR2, hO, HN, hb⟩
        case measure => simp [intOf]; omega
      case pos =>
        have e1 : (OV != 1) = false := by simp [hO1]
        have HI : Hid (qs.map TxnQ.e = onc (defL (ps.map InstQ.e) k) ((ps[k].batch.map TxnQ.e).take 0)) := show _ = _ by rw [List.take_zero]; exact HE.out
        have HI2 : Hid (qs.length ≤ 4 * k + 0) := HL.out
        have HT4 : Hid (defL (ps.map InstQ.e) (k + 1) = onc (defL (ps.map InstQ.e) k) (ps[k].batch.map TxnQ.e)) := HT3.out hO1
        clear HT1 HT2 HT3 HE HL hO1
        generalize ps[k] = p at *
        obtain ⟨has, vb, batch, vr, rounds, vd, dec⟩ := p
        have hT : txnK.At w vb batch := hP.batch
        have cc := (hP.below hb).box.c1
        dsimp only at cc
        obtain ⟨ba, bk, rfl⟩ := hT.shape
        dsimp only at HI HT4 hlow1 hb4
        have hne := hlow1.1
        have hbn : nmL TxnQ.n batch ≤ 1048576 := by
          have h9 := hnk
          dsimp only [InstQ.n] at h9
          omega
        generalize defL (ps.map InstQ.e) k = acc at *
        go_wp2
        clear cc
        go_loopw [5, 7] (fun v j wx => ∃ (m : Nat) (qs : List TxnQ), m ≤ batch.length ∧ j = .int .i64 m ∧ Hid (qs.map TxnQ.e = onc acc ((batch.map TxnQ.e).take m)) ∧ Hid (qs.length ≤ 4 * k + m) ∧ txnK.Own wx v qs ∧ Hid ((txnK.fp v qs).Nodup ∧ ∀ k ∈ txnK.fp v qs, w.heap.size ≤ k) ∧ Below w.heap.size w wx) (fun _ j _ => batch.length - (intOf j).toNat)
        case atStart => exact ⟨0, qs, Nat.zero_le _, rfl, HI, HI2, hO, HN, hb⟩
        case round =>
          clear HI HI2 hO HN hb
          obtain ⟨m, qs, hm, rfl, HI, HI2, hO, HN, hb⟩ := hrel
          obtain ⟨sa, sc, rfl⟩ := hO.shape
          have hP2 := hP.below hb
          have c0' := hP2.box.c1
          dsimp only at c0'
          by_cases hltm : m < batch.length
          · have hltmi : (m : Int) < (batch.length : Int) := by omega
            have hHS : batch.length ≤ 4 := hb4
            obtain ⟨b2, o2, rfl, hbs2, hc, hrd⟩ := (hT.below hb).cell (by decide) m hltm
            have hc' : ∀ j x, (txnK.cells batch[m])[j]? = some x → wr.cell? ⟨b2, o2 + m * 4 + j, none⟩ = some x := hc
            have t0 := hc' 0 (.int .i64 batch[m].i) rfl
            have t1 := hc' 1 (.int .i64 batch[m].s) rfl
            have t2 := hc' 2 (.int .i64 batch[m].q) rfl
            have t3 := hc' 3 (batch[m].va) rfl
            rw [Nat.add_zero] at t0
            have hzl := nm_le TxnQ.n batch m hltm
            have hpos := hne _ (List.getElem_mem hltm)
            have HS : (batch.map TxnQ.e).take (m + 1) = (batch.map TxnQ.e).take m ++ [TxnQ.e batch[m]] := by
              rw [List.take_succ_eq_append_getElem (by simpa using hltm), List.getElem_map]
            have HK1 : Hid (knw (qs.map TxnQ.e) (TxnQ.e batch[m]) = true → qs.map TxnQ.e = onc acc ((batch.map TxnQ.e).take (m + 1))) := fun hx => by
              rw [HS, onc_snoc, ← HI.out, if_pos hx]
            have HK2 : Hid (knw (qs.map TxnQ.e) (TxnQ.e batch[m]) = false → ∀ p' : TxnQ, p'.e = TxnQ.e batch[m] → (qs ++ [p']).map TxnQ.e = onc acc ((batch.map TxnQ.e).take (m + 1))) := fun hx p' hp' => by
              rw [HS, onc_snoc, ← HI.out, if_neg (by rw [hx]; decide), List.map_append, List.map_singleton, hp']
            clear hc hc' HS
            generalize batch[m] = p at *
            obtain ⟨i, s, q, va, acts⟩ := p
            replace hrd : actK.At wr va acts := hrd
            replace hzl : acts.length ≤ nmL TxnQ.n batch := hzl
            obtain ⟨aa, ac, rfl⟩ := hrd.shape
            dsimp only at t0 t1 t2 t3 hpos
            obtain ⟨ab, ao, haa⟩ : ∃ ab ao, aa = some ⟨ab, ao, none⟩ := by
              rcases (actK_at hrd).2 with h0 | ⟨ab, ao, e, _⟩
              · have := actCells_length acts
                rw [h0] at this
                simp at this
                omega
              · exact ⟨ab, ao, e⟩
            subst haa
            have hcl := l2Copy_any i s q ab ao ac acts _ (actK_at hrd).2 hpos (by omega)
            go_wp2_with fail
            clear t0 t1 t2 t3 c0'
            have HLT : Hid (∀ x ∈ txnK.fp (.slice sa qs.length sc) qs, x < wr.heap.size) := hO.lt
            have HYS : Hid (w.heap.size ≤ wr.heap.size) := hb.size
            refine hcl.mono ?_
            rintro e w2 ⟨a2, c2, rfl, ho2, hb2⟩
            replace hO := hO.below hb2
            replace hb := hb.trans (hb2.mono hb.size)
            have h2s := hb2.size
            obtain ⟨o2', hk2⟩ := own_zero ho2
            have hP' : txnK.own w2 (⟨i, s, q, .slice a2 acts.length c2, acts⟩ : TxnQ) := ⟨o2', fun _ _ => trivial⟩
            have hPlo : ∀ x ∈ txnK.foot (⟨i, s, q, .slice a2 acts.length c2, acts⟩ : TxnQ), wr.heap.size ≤ x := fun x hx => hk2 x (by rw [← actK_fp (.slice a2 acts.length c2) acts]; exact hx)
            have hPn : (txnK.foot (⟨i, s, q, .slice a2 acts.length c2, acts⟩ : TxnQ)).Nodup := by
              show (actK.fp _ _).Nodup
              rw [actK_fp]; exact blk_nodup _
            have hPl := txnK.own_lt hP'
            have hbA : Below w2.heap.size w2 (w2.alloc (.cells #[.int .i64 i, .int .i64 s, .int .i64 q, .slice a2 acts.length c2] 44)) := by go_grown
            have Tb := Blk.new w2 44 #[.int .i64 i, .int .i64 s, .int .i64 q, .slice a2 acts.length c2]
            replace hO := hO.below hbA
            replace hP' := txnK.own_out (F := []) hP' (Out.of_below hbA) (fun _ _ => by simp)
            replace hb := hb.trans (hbA.mono hb.size)
            have hkn := fun w h hB => l7Known_any (.slice sa qs.length sc) qs w2.heap.size 0 (TxnQ.e (⟨i, s, q, .slice a2 acts.length c2, acts⟩ : TxnQ)) (.slice a2 acts.length c2) w h hB (by have := HI2.out; omega)
            have hBx : Box4 (w2.alloc (.cells #[.int .i64 i, .int .i64 s, .int .i64 q, .slice a2 acts.length c2] 44)) w2.heap.size 0 (.int .i64 i) (.int .i64 s) (.int .i64 q) (.slice a2 acts.length c2) := ⟨Tb.cell 0 _ rfl, Tb.cell 1 _ rfl, Tb.cell 2 _ rfl, Tb.cell 3 _ rfl⟩
            have hkc := hkn _ hO.at hBx
            have hKe : TxnQ.e (⟨i, s, q, .slice a2 acts.length c2, acts⟩ : TxnQ) = TxnQ.e ⟨i, s, q, .slice (some ⟨ab, ao, none⟩) acts.length ac, acts⟩ := rfl
            rw [hKe] at hkc
            clear hcl ho2 hk2 hkn hKe hBx
            generalize knw (qs.map TxnQ.e) (TxnQ.e ⟨i, s, q, .slice (some ⟨ab, ao, none⟩) acts.length ac, acts⟩) = KN at *
            go_wp2_with fail
            generalize hwA : w2.alloc (.cells #[.int .i64 i, .int .i64 s, .int .i64 q, .slice a2 acts.length c2] 44) = WA at *
            clear hwA
            refine hkc.mono ?_
            rintro e w3 ⟨rfl, hb3⟩
            replace hO := hO.below hb3
            replace hP' := txnK.own_out (F := []) hP' (Out.of_below hb3) (fun _ _ => by simp)
            replace hb := hb.trans (hb3.mono hb.size)
            replace Tb := Tb.below hb3
            have h3s := hb3.size
            have hAs := hbA.size
            clear hb3 hkc
            cases KN with
            | true =>
              have HR := HK1.out rfl
              have HR' : Hid _ := HR
              have HR2 : Hid (qs.length ≤ 4 * k + (m + 1)) := show _ ≤ _ by have := HI2.out; omega
              clear HK1 HK2 HR HI HI2 Tb hP'
              go_wp2
              go_roundw
              case rel => exact ⟨m + 1, qs, by omega, by go_num, HR', HR2, hO, HN, hb⟩
              case measure => simp [intOf]; omega
            | false =>
              have HPE := HK2.out rfl
              have HPE' : Hid _ := HPE
              have HQL : Hid (qs.length ≤ 20) := show _ ≤ _ by have := HI2.out; omega
              have HR2 : Hid (qs.length + 1 ≤ 4 * k + (m + 1)) := show _ ≤ _ by have := HI2.out; omega
              have u0 := Tb.cell 0 _ rfl
              have u1 := Tb.cell 1 _ rfl
              have u2 := Tb.cell 2 _ rfl
              have u3 := Tb.cell 3 _ rfl
              have hbA3 : Below w3.heap.size w3 (w3.alloc (.cells #[.int .i64 i, .int .i64 s, .int .i64 q, .slice a2 acts.length c2] 44)) := by go_grown
              have hOA := hO.below hbA3
              have hPA := txnK.own_out (F := []) hP' (Out.of_below hbA3) (fun _ _ => by simp)
              have hbB := hb.trans (hbA3.mono hb.size)
              have hYA : wr.heap.size ≤ (w3.alloc (.cells #[.int .i64 i, .int .i64 s, .int .i64 q, .slice a2 acts.length c2] 44)).heap.size := by have := hbA3.size; omega
              clear hO hP' HK1 HK2 HPE
              have hrow0 := hOA.1
              go_wp2_with (at_builtin; refine wpList_append_own_at _ rfl _ _ 27 rfl 0 44 i0 (.agg #[.int .i64 0, .int .i64 0, .int .i64 0, .slice none 0 0]) 4 48 Tryz.underlying27 hi hz0 hz1 hz2 rfl (by decide) _ qs.length (txnK.row qs) rfl hrow0 ⟨w3.heap.size, 0, none⟩ 1 1 [.int .i64 i, .int .i64 s, .int .i64 q, .slice a2 acts.length c2] rfl rfl ?c1 ?c2 ?c3 ?c4 ?c5 ?_)
              all_goals try (case c1 => intro j u hj; match j, hj with | 0, hj => simp at hj; subst hj; simp [Addr.add] | 1, hj => simp at hj; subst hj; simp [Addr.add] | 2, hj => simp at hj; subst hj; simp [Addr.add] | 3, hj => simp at hj; subst hj; simp [Addr.add])
              all_goals try (case c2 => intro u hu; simp at hu; rcases hu with rfl | rfl | rfl | rfl <;> rfl)
              all_goals try (case c3 => have := HQL.out; unfold maxLen; omega)
              all_goals try (case c4 => have := HQL.out; omega)
              all_goals try (case c5 => first | omega | simp)
              intro v' w5 hown hgrow hnil hat
              clear hnil hrow0 u0 u1 u2 u3 Tb
              rw [show w3.heap.size + 1 = (w3.alloc (.cells #[.int .i64 i, .int .i64 s, .int .i64 q, .slice a2 acts.length c2] 44)).heap.size from (World.size_alloc _ _).symm] at hat
              generalize hwB : w3.alloc (.cells #[.int .i64 i, .int .i64 s, .int .i64 q, .slice a2 acts.length c2] 44) = WB at *
              clear hwB
              obtain ⟨hO5, hn5, hlo5, hou⟩ := hOA.snoc (p := (⟨i, s, q, .slice a2 acts.length c2, acts⟩ : TxnQ)) HN.out.1 HN.out.2 hPA hPn (fun x hx hx' => by have := HLT.out x hx'; have := hPlo x hx; omega) (fun x hx => by have := hPlo x hx; have := HYS.out; omega) hbB.size hown hgrow hat
              have hb5 : Below w.heap.size w w5 := Out.keep hbB hou hbB.size (fun x hx => HN.out.2 x (by simp only [Kind.fp, List.mem_append]; exact Or.inl hx))
              have HE5 : Hid ((qs ++ [(⟨i, s, q, .slice a2 acts.length c2, acts⟩ : TxnQ)]).map TxnQ.e = onc acc ((batch.map TxnQ.e).take (m + 1))) := HPE'.out _ rfl
              have HN5 : Hid ((txnK.fp v' (qs ++ [(⟨i, s, q, .slice a2 acts.length c2, acts⟩ : TxnQ)])).Nodup ∧ ∀ k ∈ txnK.fp v' (qs ++ [(⟨i, s, q, .slice a2 acts.length c2, acts⟩ : TxnQ)]), w.heap.size ≤ k) := ⟨hn5, hlo5⟩
              have HL5 : Hid ((qs ++ [(⟨i, s, q, .slice a2 acts.length c2, acts⟩ : TxnQ)]).length ≤ 4 * k + (m + 1)) := show _ ≤ _ by rw [List.length_append]; exact HR2.out
              clear HPE' HN HLT HYS hPA hOA hbB hown hgrow hat hou hn5 hlo5 hrd hb hbA hbA3 hzl hpos hYA hPlo hPn hPl HI HI2 HQL HR2 hb2
              go_wp2
              go_roundw
              case rel => exact ⟨m + 1, _, by omega, by go_num, HE5, HL5, hO5, HN5, hb5⟩
              case measure => simp [intOf]; omega
          · have hme : m = batch.length := by omega
            subst hme
            have HR : Hid (qs.map TxnQ.e = defL (ps.map InstQ.e) (k + 1)) := show _ = _ by
              have h8 := HI.out
              rw [List.take_of_length_le (by simp)] at h8
              rw [HT4.out]
              exact h8
            have HR2 : Hid (qs.length ≤ 4 * (k + 1)) := show _ ≤ _ by have := HI2.out; omega
            clear HI HI2 HT4
            go_wp2
            go_roundw
            case rel => exact ⟨k + 1, qs, by omega, by go_num, HR, HR2, hO, HN, hb⟩
            case measure => simp [intOf]; omega
    · have hkn : k = n := by omega
      subst hkn
      have hlti : ¬ (k : Int) < (k : Int) := by omega
      go_wp2
      go_ret
      first | exact ⟨_, qs, rfl, HE.out, hO, HN.out.1, HN.out.2, hb⟩ | exact ⟨_, rfl, qs, HE.out, hO, HN.out.1, HN.out.2, hb⟩

end Go.Proofs.YtdcjefgafckmgaaGreatDoor
namespace Go.Proofs.YtdcjefgafckmgaaGreatDoor
open Go.RowKit
open Go.BigFrame
set_option linter.unusedVariables false
set_option maxRecDepth 100000
set_option linter.unusedSimpArgs false
end Go.Proofs.YtdcjefgafckmgaaGreatDoor
namespace Go.Proofs.YtdcjefgafckmgaaGreatDoor
open Go.RowKit
open Go.BigFrame
set_option linter.unusedVariables false
set_option maxRecDepth 100000
set_option linter.unusedSimpArgs false
end Go.Proofs.YtdcjefgafckmgaaGreatDoor
namespace Go.Proofs.YtdcjefgafckmgaaGreatDoor
open Go.RowKit
open Go.BigFrame
set_option linter.unusedVariables false
set_option maxRecDepth 100000
set_option linter.unusedSimpArgs false
end Go.Proofs.YtdcjefgafckmgaaGreatDoor
namespace Go.Proofs.YtdcjefgafckmgaaGreatDoor
open Go.RowKit
open Go.BigFrame
set_option linter.unusedVariables false
set_option maxRecDepth 100000
set_option linter.unusedSimpArgs false
theorem cellB {w w' : World} {b o : Nat} {v : Value} (h : w.cell? ⟨b, o, none⟩ = some v) (hb : Below w.heap.size w w') : w'.cell? ⟨b, o, none⟩ = some v := by
  have hlt : b < w.heap.size := by
    rcases Nat.lt_or_ge b w.heap.size with h1 | h1
    · exact h1
    · exfalso
      have : w.heap[b]? = none := Array.getElem?_eq_none h1
      simp [World.cell?, this] at h
  rw [hb.cell (p := ⟨b, o, none⟩) hlt]
  exact h

end Go.Proofs.YtdcjefgafckmgaaGreatDoor
namespace Go.Proofs.YtdcjefgafckmgaaGreatDoor
open Go.RowKit
open Go.BigFrame
set_option linter.unusedVariables false
set_option maxRecDepth 100000
set_option linter.unusedSimpArgs false
theorem Blk.outs {w w' : World} {b : Nat} {t : TypeId} {cs : Array Value} {F : List Nat} (h : Blk w b t cs) (hU : Out F w w') (hF : b ∉ F) : Blk w' b t cs := (hU.block b h.lt hF).trans h

end Go.Proofs.YtdcjefgafckmgaaGreatDoor
namespace Go.Proofs.YtdcjefgafckmgaaGreatDoor
open Go.RowKit
open Go.BigFrame
set_option linter.unusedVariables false
set_option maxRecDepth 100000
set_option linter.unusedSimpArgs false
/-- The variable openRow is as the program's text lays it. -/
def Opn (w : World) : Prop := ∀ j, j < 3 → w.cell? ⟨0, j, none⟩ = some (.int .i64 3)

theorem Opn.below {w w' : World} (h : Opn w) (hb : Below w.heap.size w w') : Opn w' := fun j hj => cellB (h j hj) hb

structure RulO (w : World) : Prop where
  r : Rul w
  o : Opn w

theorem RulO.below {w w' : World} (h : RulO w) (hb : Below w.heap.size w w') : RulO w' := ⟨h.r.below hb, h.o.below hb⟩

theorem Opn.range {w : World} (h : Opn w) : w.rangeAt 0 0 [.int .i64 3, .int .i64 3, .int .i64 3] := fun j v hv => by
  rw [Nat.zero_add]
  match j, hv with
  | 0, hv => simp at hv; subst hv; exact h 0 (by omega)
  | 1, hv => simp at hv; subst hv; exact h 1 (by omega)
  | 2, hv => simp at hv; subst hv; exact h 2 (by omega)

end Go.Proofs.YtdcjefgafckmgaaGreatDoor
namespace Go.Proofs.YtdcjefgafckmgaaGreatDoor
open Go.RowKit
open Go.BigFrame
set_option linter.unusedVariables false
set_option maxRecDepth 100000
set_option linter.unusedSimpArgs false
end Go.Proofs.YtdcjefgafckmgaaGreatDoor
