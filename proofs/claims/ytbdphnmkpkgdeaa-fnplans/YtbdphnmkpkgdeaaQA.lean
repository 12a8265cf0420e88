/- Texts that stand together: data, memory, helpers. No condition. -/
import Derived.Test.YtbdphnmkpkgdeaaKT
import Derived.Test.YtbdphnmkpkgdeaaBlk
import Derived.Lib.SmallJoins
import Derived.Test.YtbdphnmkpkgdeaaP8
namespace Go.Proofs.Ytbdphnmkpkgdeaa
open Go.RowKit
open Go.BigFrame
set_option linter.unusedVariables false
set_option linter.unusedSimpArgs false

def mkTxn (c : Int) (p : TxnQ) : TxnQ := ⟨c, c + 1, c + 1 + 1, p.va, mkActs (c + 1 + 1 + 1) p.acts⟩
def nmTxn (p : TxnQ) : Nat := 1 + 1 + 1 + p.acts.length * 3
theorem mkTxn_foot (c : Int) (p : TxnQ) : txnK.foot (mkTxn c p) = txnK.foot p := by
  simp only [mkTxn, show ∀ p : TxnQ, txnK.foot p = actK.fp p.va p.acts from fun _ => rfl, mkActs_fp]

set_option maxHeartbeats 4000000 in
theorem markTxns_k (v : Value) (ps : List TxnQ) (c : Int) (w : World) (h : txnK.Own w v ps) (hnd : (txnK.fp v ps).Nodup) (hl : (ps.length + nmL TxnQ.n ps) ≤ 1048576) (h0 : 0 ≤ c) (h1 : c + (nmL nmTxn ps : Int) ≤ 1099511627776) :
    Calls Try.prog 29 #[v, .int .i64 c] w fun e w' => e = .returned (.int .i64 (c + (nmL nmTxn ps : Int))) ∧ txnK.Own w' v (mkL mkTxn nmTxn c ps) ∧ Out (txnK.fp v ps) w w' := by
  obtain ⟨a, cap, rfl⟩ := h.shape
  have hfph : ∀ k, k ≤ ps.length → txnK.fp (.slice a ps.length cap) (half mkTxn nmTxn c ps k) = txnK.fp (.slice a ps.length cap) ps := fun k hk => fp_half mkTxn_foot _ c ps k
  have HF : Hid (∀ k, k ≤ ps.length → txnK.fp (.slice a ps.length cap) (half mkTxn nmTxn c ps k) = txnK.fp (.slice a ps.length cap) ps) := hfph
  have HA : Hid (txnK.Own w (.slice a ps.length cap) (half mkTxn nmTxn c ps 0)) := by rw [half_zero]; exact h
  clear hfph h
  go_enter Try.func29, Try.ntmps29
  go_wp2
  go_loopw [1, 5] (fun j i wr => ∃ k : Nat, k ≤ ps.length ∧ j = .int .i64 (c + (nmL nmTxn (ps.take k) : Int)) ∧ i = .int .i64 k ∧ Hid (txnK.Own wr (.slice a ps.length cap) (half mkTxn nmTxn c ps k)) ∧ Hid (Out (txnK.fp (.slice a ps.length cap) ps) w wr)) (fun _ i _ => ps.length - (intOf i).toNat)
  case atStart => exact ⟨0, Nat.zero_le _, by simp [nmL], rfl, HA, Out.refl _ _⟩
  case round =>
    clear HA
    obtain ⟨k, hk, rfl, rfl, HO, HU⟩ := hrel
    by_cases hlt : k < ps.length
    · have hhl : (half mkTxn nmTxn c ps k).length = ps.length := half_length _ _ _ _ _ hk
      have hO := HO.out
      obtain ⟨g, rfl⟩ := hO.blkOf (by omega)
      have hndk : (txnK.fp (.slice (some ⟨g, 0, none⟩) ps.length cap) (half mkTxn nmTxn c ps k)).Nodup := by rw [HF.out k hk]; exact hnd
      have hsub : Hid (∀ x ∈ txnK.foot ps[k], x ∈ txnK.fp (.slice (some ⟨g, 0, none⟩) ps.length cap) ps) := fun x hx => by
        simp only [Kind.fp, List.mem_append, List.mem_flatMap]
        exact Or.inr ⟨_, List.getElem_mem hlt, hx⟩
      have hg0 : Hid (∀ x ∈ [g], x ∈ txnK.fp (.slice (some ⟨g, 0, none⟩) ps.length cap) ps) := fun x hx => by
        simp only [List.mem_singleton] at hx
        subst hx
        simp [Kind.fp, blk, Value.ownBlock]
      have hltH : k < (half mkTxn nmTxn c ps k).length := by omega
      have hget := half_get mkTxn nmTxn c ps k hlt
      have hOk : txnK.Own wr (.slice (some ⟨g, 0, none⟩) ps.length cap) ((half mkTxn nmTxn c ps k).set k ps[k]) := by
        have e : (half mkTxn nmTxn c ps k).set k ps[k] = half mkTxn nmTxn c ps k := by
          rw [← hget, List.set_getElem_self]
        rw [e]; exact hO
      have hnk : (txnK.fp (.slice (some ⟨g, 0, none⟩) ps.length cap) ((half mkTxn nmTxn c ps k).set k ps[k])).Nodup := by
        have e : (half mkTxn nmTxn c ps k).set k ps[k] = half mkTxn nmTxn c ps k := by
          rw [← hget, List.set_getElem_self]
        rw [e]; exact hndk
      clear hget hO hndk
      have hset := half_set mkTxn nmTxn c ps k hlt
      have hsu := nmL_succ nmTxn ps k hlt
      have hle := nmL_le nmTxn ps (k + 1)
      have hzl := nm_le TxnQ.n ps k hlt
      have HSU : Hid ((nmL nmTxn (ps.take (k + 1)) : Int) = (nmL nmTxn (ps.take k) : Int) + (nmTxn ps[k] : Int)) := show _ = _ by omega
      have hyb : (nmL nmTxn (ps.take k) : Int) + (nmTxn ps[k] : Int) ≤ nmL nmTxn ps := by omega
      have HSET : Hid ((half mkTxn nmTxn c ps k).set k (mkTxn (c + (nmL nmTxn (ps.take k) : Int)) ps[k]) = half mkTxn nmTxn c ps (k + 1)) := hset
      clear hset hsu hle HO
      generalize half mkTxn nmTxn c ps k = hs at *
      generalize hpk : ps[k] = p at *
      clear hpk
      obtain ⟨z_i, z_s, z_q, z_va, d_acts⟩ := p
      have hkL : k < hs.length := hltH
      dsimp only [nmTxn, TxnQ.n] at HSU hyb hzl
      generalize hy : (nmL nmTxn (ps.take k) : Int) = y at *
      have hy0 : 0 ≤ y := by omega
      clear hy
      obtain ⟨c0, f0⟩ := hOk.cell' hkL 0 (.int .i64 z_i) rfl
      obtain ⟨c1, f1⟩ := hOk.cell' hkL 1 (.int .i64 z_s) rfl
      obtain ⟨c2, f2⟩ := hOk.cell' hkL 2 (.int .i64 z_q) rfl
      obtain ⟨c3, f3⟩ := hOk.cell' hkL 3 (z_va) rfl
      have c0 : wr.cell? ⟨g, k * 4, none⟩ = _ := c0
      have f0 : wr.frozen? ⟨g, k * 4, none⟩ = _ := f0
      have c1 : wr.cell? ⟨g, k * 4 + 1, none⟩ = _ := c1
      have f1 : wr.frozen? ⟨g, k * 4 + 1, none⟩ = _ := f1
      have c2 : wr.cell? ⟨g, k * 4 + 2, none⟩ = _ := c2
      have f2 : wr.frozen? ⟨g, k * 4 + 2, none⟩ = _ := f2
      have c3 : wr.cell? ⟨g, k * 4 + 3, none⟩ = _ := c3
      have f3 : wr.frozen? ⟨g, k * 4 + 3, none⟩ = _ := f3
      obtain ⟨hOn, hnn⟩ := hOk.store' hnk hkL (⟨c + y, z_s, z_q, z_va, d_acts⟩ : TxnQ) 0 (.int .i64 (c + y)) (by decide) rfl rfl (fun _ h => h)
      have hOk : txnK.Own (wr.setCell ⟨g, k * 4, none⟩ (.int .i64 (c + y))) (.slice (some ⟨g, 0, none⟩) ps.length cap) (hs.set k (⟨c + y, z_s, z_q, z_va, d_acts⟩ : TxnQ)) := hOn
      have hnk := hnn
      obtain ⟨hOn, hnn⟩ := hOk.store' hnk hkL (⟨c + y, c + y + 1, z_q, z_va, d_acts⟩ : TxnQ) 1 (.int .i64 (c + y + 1)) (by decide) rfl rfl (fun _ h => h)
      have hOk : txnK.Own ((wr.setCell ⟨g, k * 4, none⟩ (.int .i64 (c + y))).setCell ⟨g, k * 4 + 1, none⟩ (.int .i64 (c + y + 1))) (.slice (some ⟨g, 0, none⟩) ps.length cap) (hs.set k (⟨c + y, c + y + 1, z_q, z_va, d_acts⟩ : TxnQ)) := hOn
      have hnk := hnn
      obtain ⟨hOn, hnn⟩ := hOk.store' hnk hkL (⟨c + y, c + y + 1, c + y + 1 + 1, z_va, d_acts⟩ : TxnQ) 2 (.int .i64 (c + y + 1 + 1)) (by decide) rfl rfl (fun _ h => h)
      have hOk : txnK.Own (((wr.setCell ⟨g, k * 4, none⟩ (.int .i64 (c + y))).setCell ⟨g, k * 4 + 1, none⟩ (.int .i64 (c + y + 1))).setCell ⟨g, k * 4 + 2, none⟩ (.int .i64 (c + y + 1 + 1))) (.slice (some ⟨g, 0, none⟩) ps.length cap) (hs.set k (⟨c + y, c + y + 1, c + y + 1 + 1, z_va, d_acts⟩ : TxnQ)) := hOn
      have hnk := hnn
      have HU : Hid (Out (txnK.fp (.slice (some ⟨g, 0, none⟩) ps.length cap) ps) w (((wr.setCell ⟨g, k * 4, none⟩ (.int .i64 (c + y))).setCell ⟨g, k * 4 + 1, none⟩ (.int .i64 (c + y + 1))).setCell ⟨g, k * 4 + 2, none⟩ (.int .i64 (c + y + 1 + 1)))) := (((HU.out.trans ((Out.setCell _ g (k * 4) (.int .i64 (c + y))).mono hg0.out)).trans ((Out.setCell _ g (k * 4 + 1) (.int .i64 (c + y + 1))).mono hg0.out)).trans ((Out.setCell _ g (k * 4 + 2) (.int .i64 (c + y + 1 + 1))).mono hg0.out))
      have he3 := hOk.elem' hkL
      have hl3 : actK.Own (((wr.setCell ⟨g, k * 4, none⟩ (.int .i64 (c + y))).setCell ⟨g, k * 4 + 1, none⟩ (.int .i64 (c + y + 1))).setCell ⟨g, k * 4 + 2, none⟩ (.int .i64 (c + y + 1 + 1))) z_va d_acts := he3
      have hmk := markActs_k z_va d_acts (c + y + 1 + 1 + 1) _ hl3  (by omega) (by omega) (by omega)
      obtain ⟨sa3, sc3, hsh3⟩ := hl3.shape
      subst hsh3

      clear he3 hl3
      go_wp2_with fail
      refine hmk.mono ?_
      rintro e w23 ⟨rfl, hm3, ho3⟩
      clear hmk
      obtain ⟨hOn, hnn⟩ := hOk.turn' hnk hkL (⟨c + y, c + y + 1, c + y + 1 + 1, .slice sa3 d_acts.length sc3, mkActs (c + y + 1 + 1 + 1) d_acts⟩ : TxnQ) ho3 (fun x hx => hx) rfl (by exact mkActs_fp _ _ _) (hm3)
      have HU : Hid (Out (txnK.fp (.slice (some ⟨g, 0, none⟩) ps.length cap) ps) w w23) := HU.out.trans (ho3.mono (fun x hx => hsub.out x (show x ∈ txnK.foot _ from (fun x hx => hx) x hx)))
      have hOk := hOn
      have hnk := hnn
      have R : Hid (txnK.Own w23 (.slice (some ⟨g, 0, none⟩) ps.length cap) (half mkTxn nmTxn c ps (k + 1))) := by rw [← HSET.out]; exact hOk
      clear hOk hnk HSET hsub hg0
      go_wp2
      go_roundw
      case rel => exact ⟨k + 1, by omega, by rw [HSU.out]; congr 1; omega, by go_num, R.out, HU.out⟩
      case measure => simp [intOf]; omega
    · have hkl : k = ps.length := by omega
      subst hkl
      have hO := HO.out
      rw [half_all] at hO
      rw [List.take_length]
      clear HF HO
      go_wp2
      go_ret
      exact ⟨rfl, hO, HU.out⟩

end Go.Proofs.Ytbdphnmkpkgdeaa

namespace Go.Proofs.Ytbdphnmkpkgdeaa
open Go.RowKit
open Go.BigFrame
set_option linter.unusedVariables false
set_option linter.unusedSimpArgs false

set_option maxHeartbeats 2000000 in
theorem heldTxns_k (v : Value) (ps : List TxnQ) (c : Int) (w : World) (h : txnK.At w v (mkL mkTxn nmTxn c ps)) (hl : (ps.length + nmL TxnQ.n ps) ≤ 1048576) (h0 : 0 ≤ c) (h1 : c + (nmL nmTxn ps : Int) ≤ 1099511627776) :
    Calls Try.prog 58 #[v, .int .i64 c] w fun e w' => e = .returned (.int .i64 (c + (nmL nmTxn ps : Int))) ∧ Below w.heap.size w w' := by
  obtain ⟨a, cap, rfl⟩ := h.shape
  have hmk := mkL_length mkTxn nmTxn c ps
  rw [hmk] at h ⊢
  have HM : Hid ((mkL mkTxn nmTxn c ps).length = ps.length) := hmk
  clear hmk
  go_enter Try.func58, Try.ntmps58
  go_wp2
  go_loopw [1, 5] (fun j i wr => ∃ k : Nat, k ≤ ps.length ∧ j = .int .i64 (c + (nmL nmTxn (ps.take k) : Int)) ∧ i = .int .i64 k ∧ Below w.heap.size w wr) (fun _ i _ => ps.length - (intOf i).toNat)
  case atStart => exact ⟨0, Nat.zero_le _, by simp [nmL], rfl, Below.refl _ _⟩
  case round =>
    obtain ⟨k, hk, rfl, rfl, hb⟩ := hrel
    by_cases hlt : k < ps.length
    · have hltm : k < (mkL mkTxn nmTxn c ps).length := by have := HM.out; omega
      obtain ⟨b, off, rfl, hbs, hc, hrd⟩ := (h.below hb).cell (by decide) k hltm
      rw [mkL_get mkTxn nmTxn c ps k hlt] at hc hrd
      have hsu := nmL_succ nmTxn ps k hlt
      have hle := nmL_le nmTxn ps (k + 1)
      have hzl := nm_le TxnQ.n ps k hlt
      have HSU : Hid ((nmL nmTxn (ps.take (k + 1)) : Int) = (nmL nmTxn (ps.take k) : Int) + (nmTxn ps[k] : Int)) := show _ = _ by omega
      have hyb : (nmL nmTxn (ps.take k) : Int) + (nmTxn ps[k] : Int) ≤ nmL nmTxn ps := by omega
      clear hsu hle h
      generalize hpk : ps[k] = p at *
      clear hpk
      obtain ⟨z_i, z_s, z_q, z_va, d_acts⟩ := p
      dsimp only [nmTxn, TxnQ.n] at HSU hyb hzl
      generalize hy : (nmL nmTxn (ps.take k) : Int) = y at *
      have hy0 : 0 ≤ y := by omega
      clear hy
      have hc' : ∀ j x, (txnK.cells (mkTxn (c + y) (⟨z_i, z_s, z_q, z_va, d_acts⟩ : TxnQ)))[j]? = some x → wr.cell? ⟨b, off + k * 4 + j, none⟩ = some x := hc
      clear hc
      have c0 := hc' 0 (.int .i64 (c + y)) rfl
      have c1 := hc' 1 (.int .i64 (c + y + 1)) rfl
      have c2 := hc' 2 (.int .i64 (c + y + 1 + 1)) rfl
      have c3 := hc' 3 (z_va) rfl
      have r3 : actK.At wr z_va (mkActs (c + y + 1 + 1 + 1) d_acts) := hrd
      have hh3 := fun w h => heldActs_k z_va d_acts (c + y + 1 + 1 + 1) w h (by omega) (by omega) (by omega)
      obtain ⟨sa3, sc3, hsh3⟩ := r3.shape
      subst hsh3
      rw [Nat.add_zero] at c0
      clear hc'
      have nn3 : ¬ (c + y + 1 + 1 + 1 + ((d_acts.length * 3 : Nat) : Int) < 0) := by omega
      go_wp2_with fail
      refine (hh3 wr r3).mono ?_
      rintro e w3 ⟨rfl, hb3⟩
      replace hb := hb.trans (hb3.mono hb.size)
      clear hb3 hh3 c0 c1 c2 c3
      go_wp2
      go_roundw
      case rel => exact ⟨k + 1, by omega, by rw [HSU.out]; congr 1; omega, by go_num, hb⟩
      case measure => simp [intOf]; omega
    · have hkl : k = ps.length := by omega
      subst hkl
      rw [List.take_length]
      go_wp2
      go_ret
      exact ⟨rfl, hb⟩

end Go.Proofs.Ytbdphnmkpkgdeaa

namespace Go.Proofs.Ytbdphnmkpkgdeaa
open Go.RowKit
set_option linter.unusedVariables false
set_option linter.unusedSimpArgs false

theorem Blk.set {w : World} {b : Nat} {t : TypeId} {cs : Array Value} (h : Blk w b t cs) (j : Nat) (x : Value) : Blk (w.setCell ⟨b, j, none⟩ x) b t (cs.setIfInBounds j x) := Go.Joins.block_setCell (i := j) (v := x) h
theorem Blk.other {w : World} {b b' : Nat} {t : TypeId} {cs : Array Value} (h : Blk w b t cs) (hne : b ≠ b') (j : Nat) (x : Value) : Blk (w.setCell ⟨b', j, none⟩ x) b t cs := (Below.heap_setCell w ⟨b', j, none⟩ x b hne).trans h

end Go.Proofs.Ytbdphnmkpkgdeaa

namespace Go.Proofs.Ytbdphnmkpkgdeaa
open Go.RowKit
open Go.BigFrame
set_option linter.unusedVariables false
set_option linter.unusedSimpArgs false

theorem nmTxn_le (ps : List TxnQ) : nmL nmTxn ps ≤ 3 * (ps.length + nmL TxnQ.n ps) := by
  induction ps with
  | nil => simp [nmL]
  | cons p r ih =>
    simp only [nmL, List.map_cons, List.sum_cons, List.length_cons] at ih ⊢
    simp only [nmTxn, TxnQ.n] at ih ⊢
    omega
theorem txns_n {qs ps : List TxnQ} (h : qs.map TxnQ.e = ps.map TxnQ.e) : qs.length + nmL TxnQ.n qs = ps.length + nmL TxnQ.n ps := by
  have t1 : qs.length = ps.length := by simpa using congrArg List.length h
  have t2 : nmL TxnQ.n qs = nmL TxnQ.n ps := by
    have := congrArg (fun l => nmL (fun d : TxnD => d.acts.length) l) h
    simp only [nmL, List.map_map] at this
    exact this
  omega

set_option maxHeartbeats 1000000 in
theorem eqTXR_k (c : Int) (v v' : Value) (ps qs : List TxnQ) (w : World) (h : txnK.At w v ps) (h' : txnK.At w v' qs) (he : ps.map TxnQ.e = qs.map TxnQ.e) (hl : (ps.length + nmL TxnQ.n ps) ≤ 1048576) :
    Calls Try.prog 32 #[.agg #[.int .i64 c, v], .agg #[.int .i64 c, v']] w fun e w' => e = .returned (.bool true) ∧ Below w.heap.size w w' := by
  have hq := fun w h1 h2 => eqTxns_k v v' ps qs w h1 h2 he hl
  clear he
  obtain ⟨a, k0, rfl⟩ := h.shape
  obtain ⟨a', k0', rfl⟩ := h'.shape
  have hB : Below w.heap.size w ((w.alloc (.cells #[.int .i64 c, .slice a ps.length k0] 31)).alloc (.cells #[.int .i64 c, .slice a' qs.length k0'] 31)) := by go_grown
  have n0 : (c != c) = false := by simp
  go_enter Try.func32, Try.ntmps32
  go_wp2_with fail
  generalize (w.alloc (.cells #[.int .i64 c, .slice a ps.length k0] 31)).alloc (.cells #[.int .i64 c, .slice a' qs.length k0'] 31) = W at *
  refine (hq W (h.below hB) (h'.below hB)).mono ?_
  rintro e w1 ⟨rfl, hb⟩
  replace hB := hB.trans (hb.mono hB.size)
  go_wp2
  go_ret
  exact ⟨rfl, hB⟩

set_option maxHeartbeats 1000000 in
theorem markTXR_k (c : Int) (v : Value) (ps : List TxnQ) (k : Int) (w : World) (h : txnK.Own w v ps) (hnd : (txnK.fp v ps).Nodup) (hl : (ps.length + nmL TxnQ.n ps) ≤ 1048576) (h0 : 0 ≤ k) (h1 : k + (nmL nmTxn ps : Int) ≤ 1099511627776) :
    Calls Try.prog 33 #[.agg #[.int .i64 c, v], .int .i64 k] w fun e w' => e = .returned (.int .i64 (k + (nmL nmTxn ps : Int))) ∧ txnK.Own w' v (mkL mkTxn nmTxn k ps) ∧ Out (txnK.fp v ps) w w' := by
  have hq := fun w h => markTxns_k v ps k w h hnd hl h0 h1
  obtain ⟨a, k0, rfl⟩ := h.shape
  have hB : Below w.heap.size w (w.alloc (.cells #[.int .i64 c, .slice a ps.length k0] 31)) := by go_grown
  generalize (nmL nmTxn ps : Int) = M at *
  go_enter Try.func33, Try.ntmps33
  go_wp2_with fail
  generalize w.alloc (.cells #[.int .i64 c, .slice a ps.length k0] 31) = W at *
  refine (hq W (h.below hB)).mono ?_
  rintro e w1 ⟨rfl, ho, hu⟩
  have HU := (Out.of_below (F := txnK.fp (.slice a ps.length k0) ps) hB).trans hu
  clear hB hu
  go_wp2
  go_ret
  exact ⟨rfl, ho, HU⟩

set_option maxHeartbeats 1000000 in
theorem heldTXR_k (c : Int) (v : Value) (ps : List TxnQ) (k : Int) (w : World) (h : txnK.At w v (mkL mkTxn nmTxn k ps)) (hl : (ps.length + nmL TxnQ.n ps) ≤ 1048576) (h0 : 0 ≤ k) (h1 : k + (nmL nmTxn ps : Int) ≤ 1099511627776) :
    Calls Try.prog 34 #[.agg #[.int .i64 c, v], .int .i64 k] w fun e w' => e = .returned (.int .i64 (k + (nmL nmTxn ps : Int))) ∧ Below w.heap.size w w' := by
  have hq := fun w h => heldTxns_k v ps k w h hl h0 h1
  obtain ⟨a, k0, rfl⟩ := h.shape
  rw [mkL_length] at h hq ⊢
  have hB : Below w.heap.size w (w.alloc (.cells #[.int .i64 c, .slice a ps.length k0] 31)) := by go_grown
  generalize hM : (nmL nmTxn ps : Int) = M at *
  have hn : ¬ (k + M < 0) := by omega
  clear hM
  go_enter Try.func34, Try.ntmps34
  go_wp2_with fail
  generalize w.alloc (.cells #[.int .i64 c, .slice a ps.length k0] 31) = W at *
  refine (hq W (h.below hB)).mono ?_
  rintro e w1 ⟨rfl, hb⟩
  replace hB := hB.trans (hb.mono hB.size)
  go_wp2
  go_ret
  exact ⟨rfl, hB⟩

end Go.Proofs.Ytbdphnmkpkgdeaa

namespace Go.Proofs.Ytbdphnmkpkgdeaa
open Go.RowKit
open Go.BigFrame
set_option linter.unusedVariables false
set_option linter.unusedSimpArgs false

theorem wi_n {ps ps' qs : List TxnQ} (h : qs.map TxnQ.e = wiL (ps.map TxnQ.e) (ps'.map TxnQ.e)) (hl : ps.length + nmL TxnQ.n ps ≤ 1048576) (hl' : ps'.length + nmL TxnQ.n ps' ≤ 1048576) : qs.length + nmL TxnQ.n qs ≤ 1048576 := by
  unfold wiL at h
  split at h
  · rw [← wit_map] at h
    rw [txns_n h]
    exact Nat.le_trans (wit_n _ _) hl
  · have : qs = [] := List.map_eq_nil_iff.1 h
    subst this
    simp [nmL]
theorem plA_n {ps ps' qs : List TxnQ} (h : qs.map TxnQ.e = plA (ps.map TxnQ.e) (ps'.map TxnQ.e)) (hl : ps.length + nmL TxnQ.n ps ≤ 1048576) (hl' : ps'.length + nmL TxnQ.n ps' ≤ 1048576) : qs.length + nmL TxnQ.n qs ≤ 1048576 := by
  unfold plA at h
  split at h
  · rw [← List.map_drop] at h
    rw [txns_n h]
    exact Nat.le_trans (drop_n _ _) hl'
  · have : qs = [] := List.map_eq_nil_iff.1 h
    subst this
    simp [nmL]
theorem plK_n {ps ps' qs : List TxnQ} (h : qs.map TxnQ.e = plK (ps.map TxnQ.e) (ps'.map TxnQ.e)) (hl : ps.length + nmL TxnQ.n ps ≤ 1048576) (hl' : ps'.length + nmL TxnQ.n ps' ≤ 1048576) : qs.length + nmL TxnQ.n qs ≤ 1048576 := by
  unfold plK at h
  split at h
  · split at h
    · rw [← List.map_drop] at h
      rw [txns_n h]
      exact Nat.le_trans (drop_n _ _) hl
    · rw [← List.map_drop, ← wit_map] at h
      rw [txns_n h]
      exact Nat.le_trans (wit_n _ _) (Nat.le_trans (drop_n _ _) hl)
  · have : qs = [] := List.map_eq_nil_iff.1 h
    subst this
    simp [nmL]

end Go.Proofs.Ytbdphnmkpkgdeaa

namespace Go.Proofs.Ytbdphnmkpkgdeaa
open Go.RowKit
set_option linter.unusedVariables false
set_option linter.unusedSimpArgs false

theorem sameA_eq {x y : ActD} (h : sameA x y = true) : x = y := by
  obtain ⟨a, b, c⟩ := x
  obtain ⟨a', b', c'⟩ := y
  simp only [sameA, Bool.and_eq_true, beq_iff_eq] at h
  obtain ⟨rfl, rfl, rfl⟩ := h
  rfl
theorem sameAs_eq : ∀ {x y : List ActD}, sameAs x y = true → x = y
  | [], [], _ => rfl
  | [], _ :: _, h => by simp [sameAs] at h
  | _ :: _, [], h => by simp [sameAs] at h
  | a :: r, b :: s, h => by
    simp only [sameAs, Bool.and_eq_true] at h
    rw [sameA_eq h.1, sameAs_eq h.2]
theorem sameT_eq {x y : TxnD} (h : sameT x y = true) : x = y := by
  obtain ⟨a, b, c, d⟩ := x
  obtain ⟨a', b', c', d'⟩ := y
  simp only [sameT, Bool.and_eq_true, beq_iff_eq] at h
  obtain ⟨⟨⟨rfl, rfl⟩, rfl⟩, h4⟩ := h
  rw [sameAs_eq h4]
theorem sameAs_refl8 (x : List ActD) : sameAs x x = true := by
  induction x with
  | nil => rfl
  | cons a r ih => simp [sameAs, sameA, ih]
theorem sameT_refl8 (x : TxnD) : sameT x x = true := by simp [sameT, sameAs_refl8]
theorem sameTs_refl8 (x : List TxnD) : sameTs x x = true := by
  induction x with
  | nil => rfl
  | cons a r ih => simp [sameTs, sameT_refl8, ih]
theorem com_take : ∀ (xs ys : List TxnD), xs.take (comN xs ys) = ys.take (comN xs ys)
  | [], ys => by simp [comN]
  | x :: r, [] => by simp [comN]
  | x :: r, y :: s => by
    rw [comN]
    split
    · rename_i h
      rw [List.take_succ_cons, List.take_succ_cons, com_take r s, sameT_eq h]
    · simp
theorem stF_refl8 (t : TxnD) : stF t t = true := by simp [stF]
theorem knw_mem {acc : List TxnD} {t : TxnD} (h : t ∈ acc) : knw acc t = true := by
  unfold knw
  rw [List.any_eq_true]
  exact ⟨t, h, stF_refl8 t⟩
theorem knw_false {acc : List TxnD} {t : TxnD} : knw acc t = false ↔ ∀ a ∈ acc, stF a t = false := by
  unfold knw
  rw [List.any_eq_false]
  simp
theorem lstGo_iff : ∀ (r acc : List TxnD), lstGo acc r = 0 ↔ (∀ t ∈ r, t.F = 0) ∧ r.Pairwise (fun a b => stF a b = false) ∧ ∀ a ∈ acc, ∀ t ∈ r, stF a t = false
  | [], acc => by simp [lstGo]
  | x :: r, acc => by
    rw [lstGo]
    constructor
    · intro h
      by_cases h0 : stpF acc x = 0
      · rw [if_pos h0] at h
        obtain ⟨h1, h2⟩ := stp_zero h0
        obtain ⟨i1, i2, i3⟩ := (lstGo_iff r (acc ++ [x])).1 h
        refine ⟨fun t ht => ?_, List.pairwise_cons.2 ⟨fun t ht => i3 x (by simp) t ht, i2⟩, fun a ha t ht => ?_⟩
        · rcases List.mem_cons.1 ht with rfl | ht
          · exact h1
          · exact i1 t ht
        · rcases List.mem_cons.1 ht with rfl | ht
          · exact knw_false.1 h2 a ha
          · exact i3 a (by simp [ha]) t ht
      · rw [if_neg h0] at h
        exact absurd h h0
    · rintro ⟨h1, h2, h3⟩
      have hx : stpF acc x = 0 := by
        unfold stpF
        rw [if_pos (h1 x (by simp)), knw_false.2 (fun a ha => h3 a ha x (by simp))]
        rfl
      rw [if_pos hx]
      obtain ⟨p1, p2⟩ := List.pairwise_cons.1 h2
      refine (lstGo_iff r (acc ++ [x])).2 ⟨fun t ht => h1 t (List.mem_cons_of_mem _ ht), p2, fun a ha t ht => ?_⟩
      rcases List.mem_append.1 ha with ha | ha
      · exact h3 a ha t (List.mem_cons_of_mem _ ht)
      · rw [List.mem_singleton.1 ha]
        exact p1 t ht
theorem lst_iff (ds : List TxnD) : lstF ds = 0 ↔ ds.length ≤ 40 ∧ (∀ t ∈ ds, t.F = 0) ∧ ds.Pairwise (fun a b => stF a b = false) := by
  unfold lstF
  by_cases h : 40 < ds.length
  · rw [if_pos h]
    constructor
    · intro h; exact absurd h (by decide)
    · intro h1; omega
  · rw [if_neg h, lstGo_iff]
    constructor
    · rintro ⟨h1, h2, _⟩; exact ⟨by omega, h1, h2⟩
    · rintro ⟨_, h1, h2⟩; exact ⟨h1, h2, fun a ha => by simp at ha⟩
theorem lst_sub {xs ds : List TxnD} (h : lstF ds = 0) (hs : xs.Sublist ds) : lstF xs = 0 := by
  obtain ⟨h1, h2, h3⟩ := (lst_iff ds).1 h
  exact (lst_iff xs).2 ⟨Nat.le_trans hs.length_le h1, fun t ht => h2 t (hs.subset ht), h3.sublist hs⟩
section
variable {ds ds' : List TxnD} (hB : bthF ds ds' = 0)
include hB
theorem plK_sub : (plK ds ds').Sublist ds := by
  unfold plK
  rw [if_pos hB]
  split
  · exact List.drop_sublist _ _
  · exact List.filter_sublist.trans (List.drop_sublist _ _)
theorem plK_lst : lstF (plK ds ds') = 0 := lst_sub (bth_zero hB).1 (plK_sub hB)
theorem plK_out : ∀ t ∈ plK ds ds', knw ds' t = false := by
  unfold plK
  rw [if_pos hB]
  split
  · rename_i h0
    intro t ht
    have e : ds' = ds.take (comN ds ds') := by
      rw [com_take]
      have := List.take_append_drop (comN ds ds') ds'
      rw [h0, List.append_nil] at this
      exact this.symm
    rw [knw_false]
    intro a ha
    rw [e] at ha
    have h3 := ((lst_iff ds).1 (bth_zero hB).1).2.2
    rw [← List.take_append_drop (comN ds ds') ds, List.pairwise_append] at h3
    exact h3.2.2 a ha t ht
  · intro t ht
    have := (List.mem_filter.1 ht).2
    simpa using this
theorem plK_wi : wiL (plK ds ds') ds' = plK ds ds' ∧ bthF (plK ds ds') ds' = 0 := by
  have hb : bthF (plK ds ds') ds' = 0 := by
    unfold bthF
    rw [if_pos (plK_lst hB)]
    exact (bth_zero hB).2
  refine ⟨?_, hb⟩
  unfold wiL
  rw [if_pos hb]
  unfold witL
  rw [List.filter_eq_self]
  intro t ht
  rw [plK_out hB t ht]
  rfl
theorem pl_kept : ∀ t ∈ ds, knw ds' t = false → knw (plK ds ds') t = true := by
  intro t ht hk
  refine knw_mem ?_
  have hnot : t ∉ ds.take (comN ds ds') := fun h => by
    rw [com_take] at h
    have := knw_mem (List.mem_of_mem_take h)
    rw [hk] at this
    exact absurd this (by decide)
  have hd : t ∈ ds.drop (comN ds ds') := by
    rw [← List.take_append_drop (comN ds ds') ds] at ht
    rcases List.mem_append.1 ht with h | h
    · exact absurd h hnot
    · exact h
  unfold plK
  rw [if_pos hB]
  split
  · exact hd
  · exact List.mem_filter.2 ⟨hd, by rw [hk]; rfl⟩
theorem pl_back : plB ds ds' ≠ 0 → 0 < (plA ds ds').length := by
  unfold plB plA
  rw [if_pos hB, if_pos hB]
  split
  · intro h; exact absurd rfl h
  · rename_i h0
    intro _
    exact List.length_pos_iff.2 h0
theorem pl_n : plN ds ds' = (comN ds ds' : Int) ∧ plA ds ds' = ds'.drop (comN ds ds') := ⟨if_pos hB, if_pos hB⟩
end

end Go.Proofs.Ytbdphnmkpkgdeaa
