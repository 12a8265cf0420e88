/- Texts joined, with what the law reaches alone. -/
import Derived.Test.YtolegggbippneaaGreatDoorZF
namespace Go.Proofs.YtolegggbippneaaGreatDoor
open Go.RowKit
open Go.BigFrame
set_option linter.unusedVariables false
set_option maxRecDepth 100000
set_option linter.unusedSimpArgs false
set_option maxHeartbeats 8000000 in
theorem l6Copy_any (p : InstQ) (w : World) (h : instK.rd w p) (hl : p.n ≤ 1048576) (hne : ∀ t ∈ p.batch, 0 < t.acts.length) (hro : ∀ r ∈ p.rounds, 0 < r.rep.length ∧ 0 < r.pro.length) (hd0 : 0 < p.dec.length) :
    Calls Tryz.prog 116 #[.agg #[.bool p.has, p.vb, p.vr, p.vd]] w fun e w' => ∃ q : InstQ, e = .returned (.agg #[.bool q.has, q.vb, q.vr, q.vd]) ∧ q.e = p.e ∧ instK.own w' q ∧ (instK.foot q).Nodup ∧ (∀ k ∈ instK.foot q, w.heap.size ≤ k) ∧ Below w.heap.size w w' := by
  obtain ⟨has, vb, batch, vr, rounds, vd, dec⟩ := p
  obtain ⟨h1, h2, h3⟩ : txnK.At w vb batch ∧ roundK.At w vr rounds ∧ intK.At w vd dec := h
  obtain ⟨ba, bk, rfl⟩ := h1.shape
  obtain ⟨va, vk, rfl⟩ := h2.shape
  obtain ⟨da, dk, rfl⟩ := h3.shape
  dsimp only [InstQ.n] at hl hne hro hd0
  have hc1 := fun w (hT : txnK.At w (.slice ba batch.length bk) batch) => l2CopyAll_any _ batch w hT hne (by omega)
  have hc3 := fun w (hT : intK.At w (.slice da dec.length dk) dec) => l1Ints_any _ dec w hT hd0 (by omega)
  have hB : Below w.heap.size w ((w.alloc (.cells #[.bool has, .slice ba batch.length bk, .slice va rounds.length vk, .slice da dec.length dk] 28)).alloc (.cells #[.bool false, .slice none 0 0, .slice none 0 0, .slice none 0 0] 28)) := by go_grown
  have Bx := Blk.new w 28 #[.bool has, .slice ba batch.length bk, .slice va rounds.length vk, .slice da dec.length dk]
  have hbb : Below (w.alloc (.cells #[.bool has, .slice ba batch.length bk, .slice va rounds.length vk, .slice da dec.length dk] 28)).heap.size (w.alloc (.cells #[.bool has, .slice ba batch.length bk, .slice va rounds.length vk, .slice da dec.length dk] 28)) ((w.alloc (.cells #[.bool has, .slice ba batch.length bk, .slice va rounds.length vk, .slice da dec.length dk] 28)).alloc (.cells #[.bool false, .slice none 0 0, .slice none 0 0, .slice none 0 0] 28)) := by go_grown
  have Rb := Blk.new (w.alloc (.cells #[.bool has, .slice ba batch.length bk, .slice va rounds.length vk, .slice da dec.length dk] 28)) 28 #[.bool false, .slice none 0 0, .slice none 0 0, .slice none 0 0]
  rw [World.size_alloc] at Rb
  replace Bx := Bx.below hbb
  clear hbb
  have hws : w.heap.size + 2 ≤ ((w.alloc (.cells #[.bool has, .slice ba batch.length bk, .slice va rounds.length vk, .slice da dec.length dk] 28)).alloc (.cells #[.bool false, .slice none 0 0, .slice none 0 0, .slice none 0 0] 28)).heap.size := by simp
  go_enter Tryz.func116, Tryz.ntmps116
  go_wp2_with fail
  generalize ((w.alloc (.cells #[.bool has, .slice ba batch.length bk, .slice va rounds.length vk, .slice da dec.length dk] 28)).alloc (.cells #[.bool false, .slice none 0 0, .slice none 0 0, .slice none 0 0] 28)) = W at *
  refine region_vals [some 5, some 6, some 7, some 8, some 9, some 10, some 11, some 12, some 13, some 3] (fun vs w' => ∃ (s1 : Option Addr) (t1 : Nat) (q1 : List TxnQ) (a3 : Option Addr) (c3 g : Nat), vs = [.pointer (some ⟨w.heap.size, 0, none⟩), .bool has, .pointer (some ⟨w.heap.size, 1, none⟩), .slice ba batch.length bk, .slice s1 q1.length t1, .pointer (some ⟨w.heap.size, 3, none⟩), .slice da dec.length dk, .slice a3 dec.length c3, .agg #[.bool has, .slice s1 q1.length t1, .slice none 0 0, .slice a3 dec.length c3], .pointer (some ⟨g, 0, none⟩)] ∧ W.heap.size ≤ g ∧ Blk w' g 28 #[.bool has, .slice s1 q1.length t1, .slice none 0 0, .slice a3 dec.length c3] ∧ q1.map TxnQ.e = batch.map TxnQ.e ∧ txnK.Own w' (.slice s1 q1.length t1) q1 ∧ (txnK.fp (.slice s1 q1.length t1) q1).Nodup ∧ (∀ k ∈ txnK.fp (.slice s1 q1.length t1) q1, W.heap.size ≤ k) ∧ (∀ k ∈ txnK.fp (.slice s1 q1.length t1) q1, k ≠ g) ∧ intK.Own w' (.slice a3 dec.length c3) dec ∧ (∀ k ∈ intK.fp (.slice a3 dec.length c3) dec, W.heap.size ≤ k) ∧ (∀ k ∈ intK.fp (.slice a3 dec.length c3) dec, k ≠ g) ∧ (∀ x ∈ txnK.fp (.slice s1 q1.length t1) q1, ∀ y ∈ intK.fp (.slice a3 dec.length c3) dec, x ≠ y) ∧ Below W.heap.size W w') ?_ ?_
  · have hW : Below W.heap.size W W.drew := (Below.refl _ _).drew
    have hnn : Nonempty (Lat W) := ⟨⟨W, Below.refl _ _⟩⟩
    have p0 := Bx.lat 0 _ rfl
    have p1 := Bx.lat 1 _ rfl
    have p3 := Bx.lat 3 _ rfl
    refine text_begin (S := fun w' => ∃ u : Lat W, w' = u.val) (by kernel_rfl) ?_
    refine seg_range [(0, 4), (5, 2)] 5 (by kernel_rfl) (by kernel_rfl) (by kernel_rfl) (by kernel_rfl) (by kernel_rfl) ⟨⟨_, hW⟩, rfl⟩ ?_
    simp only [pickR, List.toList_toArray, List.flatMap_cons, List.flatMap_nil, List.drop_succ_cons, List.drop_zero, List.take_succ_cons, List.take_zero, List.cons_append, List.nil_append, List.append_nil]
    repeat go_big_quiet_step (fail)
    refine wpQuiet_nil ?_
    clear p0 p1 p3
    generalize W.drew = wd at hW ⊢
    refine two_at 4 9 4 (by kernel_rfl) (by kernel_rfl) ?_ ?_
    · skip
      refine op_call 4 (some 9) 117 #[.slice ba batch.length bk] (by kernel_rfl) (by kernel_rfl) (by kernel_rfl) ?_
      refine (hc1 _ (h1.below (hB.trans (hW.mono hB.size)))).mono ?_
      rintro e x0 ⟨v1, q1, rfl, e1, o1, n1, g1, hb⟩
      obtain ⟨s1, t1, rfl⟩ := o1.shape
      have L1 : ∀ k ∈ txnK.fp (.slice s1 q1.length t1) q1, W.heap.size ≤ k := fun k hk => by have := g1 k hk; have := hW.size; omega
      clear g1
      replace hW := hW.trans (hb.mono hW.size)
      clear hb
      refine ⟨_, rfl, ⟨⟨_, hW⟩, rfl⟩, ?_⟩
      simp only [Act.put, List.getElem_toArray, List.getElem_cons_succ, List.getElem_cons_zero, List.setIfInBounds_toArray, List.set_cons_zero, List.set_cons_succ]
      refine two_at 7 9 3 (by kernel_rfl) (by kernel_rfl) ?_ ?_
      · skip
        refine op_call 7 (some 12) 152 #[.slice da dec.length dk] (by kernel_rfl) (by kernel_rfl) (by kernel_rfl) ?_
        refine (hc3 _ (h3.below (hB.trans (hW.mono hB.size)))).mono ?_
        rintro e x1 ⟨a3, c3, rfl, o3, g3, hb⟩
        have L3 : ∀ k ∈ intK.fp (.slice a3 dec.length c3) dec, W.heap.size ≤ k := fun k hk => by have := g3 k hk; have := hW.size; omega
        have D13 : ∀ x ∈ txnK.fp (.slice s1 q1.length t1) q1, ∀ y ∈ intK.fp (.slice a3 dec.length c3) dec, x ≠ y := fun x hx y hy e => by have := o1.lt x hx; have := g3 y hy; omega
        replace o1 := o1.below hb
        clear g3
        replace hW := hW.trans (hb.mono hW.size)
        clear hb
        refine ⟨_, rfl, ⟨⟨_, hW⟩, rfl⟩, ?_⟩
        simp only [Act.put, List.getElem_toArray, List.getElem_cons_succ, List.getElem_cons_zero, List.setIfInBounds_toArray, List.set_cons_zero, List.set_cons_succ]
        refine quiet_at 8 (some 13) (.agg #[.bool has, .slice s1 q1.length t1, .slice none 0 0, .slice a3 dec.length c3]) 2 (by kernel_rfl) (by kernel_rfl) (by kernel_rfl) (by kernel_rfl) (by kernel_rfl) (fun u _ => by kernel_rfl) ⟨⟨_, hW⟩, rfl⟩ ?_
        simp only [Act.put, List.getElem_toArray, List.getElem_cons_succ, List.getElem_cons_zero, List.setIfInBounds_toArray, List.set_cons_zero, List.set_cons_succ]
        refine one_at 9 _ 1 (by kernel_rfl) rfl (by kernel_rfl) ?_
        have Bz := Blk.new x1 28 #[.bool false, .slice none 0 0, .slice none 0 0, .slice none 0 0]
        have hzz : W.heap.size ≤ x1.heap.size := hW.size
        have N1 : ∀ k ∈ txnK.fp (.slice s1 q1.length t1) q1, k ≠ x1.heap.size := fun k hk e => by have := o1.lt k hk; omega
        have N3 : ∀ k ∈ intK.fp (.slice a3 dec.length c3) dec, k ≠ x1.heap.size := fun k hk e => by have := o3.lt k hk; omega
        have hba : Below x1.heap.size x1 (x1.alloc (.cells #[.bool false, .slice none 0 0, .slice none 0 0, .slice none 0 0] 28)) := by go_grown
        replace o1 := o1.below hba
        replace o3 := o3.below hba
        replace hW := hW.trans (hba.mono hW.size)
        clear hba
        go_wp2
        refine ThenGo.to ⟨⟨⟨_, hW⟩, rfl⟩, ?_⟩
        generalize hG2 : x1.heap.size = g at *
        clear hG2
        generalize x1.alloc (.cells #[.bool false, .slice none 0 0, .slice none 0 0, .slice none 0 0] 28) = Y2 at *
        refine one_at 10 _ 0 (by kernel_rfl) rfl (by kernel_rfl) ?_
        have hou := out_row Y2 g #[.bool has, .slice s1 q1.length t1, .slice none 0 0, .slice a3 dec.length c3]
        have hgW : W.heap.size ≤ g := by omega
        have Rz := Bz.row #[.bool has, .slice s1 q1.length t1, .slice none 0 0, .slice a3 dec.length c3]
        replace hW := below_row hW hgW #[.bool has, .slice s1 q1.length t1, .slice none 0 0, .slice a3 dec.length c3]
        replace o1 := o1.out hou (fun k hk => by simp only [List.mem_singleton]; exact N1 k hk)
        replace o3 := o3.out hou (fun k hk => by simp only [List.mem_singleton]; exact N3 k hk)
        refine st_row (by kernel_rfl) 28 _ _ rfl _ #[.bool has, .slice s1 q1.length t1, .slice none 0 0, .slice a3 dec.length c3] rfl rfl 28 _ Bz sz_inst rfl (by simp [Value.oneCell']) ?_
        refine ThenGo.to ⟨⟨⟨_, hW⟩, rfl⟩, ?_⟩
        refine text_end (by kernel_rfl) ?_
        refine ⟨rfl, _, ⟨s1, t1, q1, a3, c3, g, rfl, hgW, Rz, e1, o1, n1, L1, N1, o3, L3, N3, D13, hW⟩, ?_⟩
        simp only [putAll, Act.put, List.getElem_toArray, List.getElem_cons_succ, List.getElem_cons_zero, List.setIfInBounds_toArray, List.set_cons_zero, List.set_cons_succ]
        try rfl
      · skip
        refine op_one 9 _ rfl ?_
        have Bz := Blk.new x0 28 #[.bool false, .slice none 0 0, .slice none 0 0, .slice none 0 0]
        have hzz : W.heap.size ≤ x0.heap.size := hW.size
        have N1 : ∀ k ∈ txnK.fp (.slice s1 q1.length t1) q1, k ≠ x0.heap.size := fun k hk e => by have := o1.lt k hk; omega
        have hba : Below x0.heap.size x0 (x0.alloc (.cells #[.bool false, .slice none 0 0, .slice none 0 0, .slice none 0 0] 28)) := by go_grown
        replace o1 := o1.below hba
        replace hW := hW.trans (hba.mono hW.size)
        clear hba
        go_wp2
        refine ThenGo.to ⟨⟨⟨_, hW⟩, rfl⟩, ?_⟩
        generalize hG1 : x0.heap.size = g at *
        clear hG1
        generalize x0.alloc (.cells #[.bool false, .slice none 0 0, .slice none 0 0, .slice none 0 0] 28) = Y1 at *
        refine call_at 7 (some 12) 152 #[.slice da dec.length dk] 2 (by kernel_rfl) (by kernel_rfl) (by kernel_rfl) (by kernel_rfl) (by kernel_rfl) ?_
        refine (hc3 _ (h3.below (hB.trans (hW.mono hB.size)))).mono ?_
        rintro e x2 ⟨a3, c3, rfl, o3, g3, hb⟩
        have L3 : ∀ k ∈ intK.fp (.slice a3 dec.length c3) dec, W.heap.size ≤ k := fun k hk => by have := g3 k hk; have := hW.size; omega
        have D13 : ∀ x ∈ txnK.fp (.slice s1 q1.length t1) q1, ∀ y ∈ intK.fp (.slice a3 dec.length c3) dec, x ≠ y := fun x hx y hy e => by have := o1.lt x hx; have := g3 y hy; omega
        have N3 : ∀ k ∈ intK.fp (.slice a3 dec.length c3) dec, k ≠ g := fun k hk e => by have := g3 k hk; have := Bz.lt; omega
        replace Bz := Bz.below hb
        replace o1 := o1.below hb
        clear g3
        replace hW := hW.trans (hb.mono hW.size)
        clear hb
        refine ⟨_, rfl, ⟨⟨_, hW⟩, rfl⟩, ?_⟩
        simp only [Act.put, List.getElem_toArray, List.getElem_cons_succ, List.getElem_cons_zero, List.setIfInBounds_toArray, List.set_cons_zero, List.set_cons_succ]
        refine quiet_at 8 (some 13) (.agg #[.bool has, .slice s1 q1.length t1, .slice none 0 0, .slice a3 dec.length c3]) 1 (by kernel_rfl) (by kernel_rfl) (by kernel_rfl) (by kernel_rfl) (by kernel_rfl) (fun u _ => by kernel_rfl) ⟨⟨_, hW⟩, rfl⟩ ?_
        simp only [Act.put, List.getElem_toArray, List.getElem_cons_succ, List.getElem_cons_zero, List.setIfInBounds_toArray, List.set_cons_zero, List.set_cons_succ]
        refine one_at 10 _ 0 (by kernel_rfl) rfl (by kernel_rfl) ?_
        have hou := out_row x2 g #[.bool has, .slice s1 q1.length t1, .slice none 0 0, .slice a3 dec.length c3]
        have hgW : W.heap.size ≤ g := by omega
        have Rz := Bz.row #[.bool has, .slice s1 q1.length t1, .slice none 0 0, .slice a3 dec.length c3]
        replace hW := below_row hW hgW #[.bool has, .slice s1 q1.length t1, .slice none 0 0, .slice a3 dec.length c3]
        replace o1 := o1.out hou (fun k hk => by simp only [List.mem_singleton]; exact N1 k hk)
        replace o3 := o3.out hou (fun k hk => by simp only [List.mem_singleton]; exact N3 k hk)
        refine st_row (by kernel_rfl) 28 _ _ rfl _ #[.bool has, .slice s1 q1.length t1, .slice none 0 0, .slice a3 dec.length c3] rfl rfl 28 _ Bz sz_inst rfl (by simp [Value.oneCell']) ?_
        refine ThenGo.to ⟨⟨⟨_, hW⟩, rfl⟩, ?_⟩
        refine text_end (by kernel_rfl) ?_
        refine ⟨rfl, _, ⟨s1, t1, q1, a3, c3, g, rfl, hgW, Rz, e1, o1, n1, L1, N1, o3, L3, N3, D13, hW⟩, ?_⟩
        simp only [putAll, Act.put, List.getElem_toArray, List.getElem_cons_succ, List.getElem_cons_zero, List.setIfInBounds_toArray, List.set_cons_zero, List.set_cons_succ]
        try rfl
    · skip
      refine op_one 9 _ rfl ?_
      have Bz := Blk.new wd 28 #[.bool false, .slice none 0 0, .slice none 0 0, .slice none 0 0]
      have hzz : W.heap.size ≤ wd.heap.size := hW.size
      have hba : Below wd.heap.size wd (wd.alloc (.cells #[.bool false, .slice none 0 0, .slice none 0 0, .slice none 0 0] 28)) := by go_grown
      replace hW := hW.trans (hba.mono hW.size)
      clear hba
      go_wp2
      refine ThenGo.to ⟨⟨⟨_, hW⟩, rfl⟩, ?_⟩
      generalize hG0 : wd.heap.size = g at *
      clear hG0
      generalize wd.alloc (.cells #[.bool false, .slice none 0 0, .slice none 0 0, .slice none 0 0] 28) = Y0 at *
      refine call_at 4 (some 9) 117 #[.slice ba batch.length bk] 3 (by kernel_rfl) (by kernel_rfl) (by kernel_rfl) (by kernel_rfl) (by kernel_rfl) ?_
      refine (hc1 _ (h1.below (hB.trans (hW.mono hB.size)))).mono ?_
      rintro e x1 ⟨v1, q1, rfl, e1, o1, n1, g1, hb⟩
      obtain ⟨s1, t1, rfl⟩ := o1.shape
      have L1 : ∀ k ∈ txnK.fp (.slice s1 q1.length t1) q1, W.heap.size ≤ k := fun k hk => by have := g1 k hk; have := hW.size; omega
      have N1 : ∀ k ∈ txnK.fp (.slice s1 q1.length t1) q1, k ≠ g := fun k hk e => by have := g1 k hk; have := Bz.lt; omega
      replace Bz := Bz.below hb
      clear g1
      replace hW := hW.trans (hb.mono hW.size)
      clear hb
      refine ⟨_, rfl, ⟨⟨_, hW⟩, rfl⟩, ?_⟩
      simp only [Act.put, List.getElem_toArray, List.getElem_cons_succ, List.getElem_cons_zero, List.setIfInBounds_toArray, List.set_cons_zero, List.set_cons_succ]
      refine call_at 7 (some 12) 152 #[.slice da dec.length dk] 2 (by kernel_rfl) (by kernel_rfl) (by kernel_rfl) (by kernel_rfl) (by kernel_rfl) ?_
      refine (hc3 _ (h3.below (hB.trans (hW.mono hB.size)))).mono ?_
      rintro e x2 ⟨a3, c3, rfl, o3, g3, hb⟩
      have L3 : ∀ k ∈ intK.fp (.slice a3 dec.length c3) dec, W.heap.size ≤ k := fun k hk => by have := g3 k hk; have := hW.size; omega
      have D13 : ∀ x ∈ txnK.fp (.slice s1 q1.length t1) q1, ∀ y ∈ intK.fp (.slice a3 dec.length c3) dec, x ≠ y := fun x hx y hy e => by have := o1.lt x hx; have := g3 y hy; omega
      have N3 : ∀ k ∈ intK.fp (.slice a3 dec.length c3) dec, k ≠ g := fun k hk e => by have := g3 k hk; have := Bz.lt; omega
      replace Bz := Bz.below hb
      replace o1 := o1.below hb
      clear g3
      replace hW := hW.trans (hb.mono hW.size)
      clear hb
      refine ⟨_, rfl, ⟨⟨_, hW⟩, rfl⟩, ?_⟩
      simp only [Act.put, List.getElem_toArray, List.getElem_cons_succ, List.getElem_cons_zero, List.setIfInBounds_toArray, List.set_cons_zero, List.set_cons_succ]
      refine quiet_at 8 (some 13) (.agg #[.bool has, .slice s1 q1.length t1, .slice none 0 0, .slice a3 dec.length c3]) 1 (by kernel_rfl) (by kernel_rfl) (by kernel_rfl) (by kernel_rfl) (by kernel_rfl) (fun u _ => by kernel_rfl) ⟨⟨_, hW⟩, rfl⟩ ?_
      simp only [Act.put, List.getElem_toArray, List.getElem_cons_succ, List.getElem_cons_zero, List.setIfInBounds_toArray, List.set_cons_zero, List.set_cons_succ]
      refine one_at 10 _ 0 (by kernel_rfl) rfl (by kernel_rfl) ?_
      have hou := out_row x2 g #[.bool has, .slice s1 q1.length t1, .slice none 0 0, .slice a3 dec.length c3]
      have hgW : W.heap.size ≤ g := by omega
      have Rz := Bz.row #[.bool has, .slice s1 q1.length t1, .slice none 0 0, .slice a3 dec.length c3]
      replace hW := below_row hW hgW #[.bool has, .slice s1 q1.length t1, .slice none 0 0, .slice a3 dec.length c3]
      replace o1 := o1.out hou (fun k hk => by simp only [List.mem_singleton]; exact N1 k hk)
      replace o3 := o3.out hou (fun k hk => by simp only [List.mem_singleton]; exact N3 k hk)
      refine st_row (by kernel_rfl) 28 _ _ rfl _ #[.bool has, .slice s1 q1.length t1, .slice none 0 0, .slice a3 dec.length c3] rfl rfl 28 _ Bz sz_inst rfl (by simp [Value.oneCell']) ?_
      refine ThenGo.to ⟨⟨⟨_, hW⟩, rfl⟩, ?_⟩
      refine text_end (by kernel_rfl) ?_
      refine ⟨rfl, _, ⟨s1, t1, q1, a3, c3, g, rfl, hgW, Rz, e1, o1, n1, L1, N1, o3, L3, N3, D13, hW⟩, ?_⟩
      simp only [putAll, Act.put, List.getElem_toArray, List.getElem_cons_succ, List.getElem_cons_zero, List.setIfInBounds_toArray, List.set_cons_zero, List.set_cons_succ]
      try rfl
  rintro vs X ⟨s1, t1, q1, a3, c3, g, rfl, hg, Bg, e1, o1, n1, L1, N1, o3, L3, N3, D13, hX⟩
  simp only [putAll, Act.put, List.setIfInBounds_toArray, List.set_cons_zero, List.set_cons_succ]
  have hBX : Below w.heap.size w X := hB.trans (hX.mono hB.size)
  have RbX := Rb.below hX
  have BxX := Bx.below hX
  have h2X := h2
  have hgX := Bg.lt
  have hXs := hX.size
  obtain ⟨i0, hi, hz0, hz1, hz2⟩ := info_parts infoRound
  obtain ⟨hn1, hn2⟩ := Kind.own_nil (K := roundK) X
  have HN0 : Hid ((roundK.fp (.slice none 0 0) ([] : List RoundQ)).Nodup ∧ ∀ k ∈ roundK.fp (.slice none 0 0) ([] : List RoundQ), X.heap.size ≤ k) := by
    rw [hn2]
    exact ⟨by simp, by simp⟩
  have HQ1 : Hid (q1.map TxnQ.e = batch.map TxnQ.e ∧ txnK.Own X (.slice s1 q1.length t1) q1 ∧ (txnK.fp (.slice s1 q1.length t1) q1).Nodup ∧ (∀ k ∈ txnK.fp (.slice s1 q1.length t1) q1, W.heap.size ≤ k) ∧ (∀ k ∈ txnK.fp (.slice s1 q1.length t1) q1, k ≠ g) ∧ intK.Own X (.slice a3 dec.length c3) dec ∧ (∀ k ∈ intK.fp (.slice a3 dec.length c3) dec, W.heap.size ≤ k) ∧ (∀ k ∈ intK.fp (.slice a3 dec.length c3) dec, k ≠ g) ∧ (∀ x ∈ txnK.fp (.slice s1 q1.length t1) q1, ∀ y ∈ intK.fp (.slice a3 dec.length c3) dec, x ≠ y)) := ⟨e1, o1, n1, L1, N1, o3, L3, N3, D13⟩
  clear hn2 hc1 hc3 Rb Bx hB hX e1 o1 n1 L1 N1 o3 L3 N3 D13 h1 h3
  go_wp2
  go_loopw [4] (fun j wr => ∃ (k : Nat) (v2 : Value) (qs : List RoundQ), k ≤ rounds.length ∧ j = .int .i64 k ∧ Hid (qs.map RoundQ.e = (rounds.take k).map RoundQ.e) ∧ roundK.Own wr v2 qs ∧ Hid ((roundK.fp v2 qs).Nodup ∧ ∀ k ∈ roundK.fp v2 qs, X.heap.size ≤ k) ∧ Hid (Blk wr g 28 #[.bool has, .slice s1 q1.length t1, v2, .slice a3 dec.length c3]) ∧ Hid (Out [g] X wr)) (fun j _ => rounds.length - (intOf j).toNat)
  case atStart => exact ⟨0, .slice none 0 0, [], Nat.zero_le _, rfl, (rfl : _ = _), hn1, HN0, Bg, Out.refl _ _⟩
  case round =>
    clear HN0 hn1 Bg
    obtain ⟨k, v2, qs, hk, rfl, HE, hO, HN, HBg, HO⟩ := hrel
    obtain ⟨sa, sc, rfl⟩ := hO.shape
    have hBr : Below w.heap.size w wr := Out.keep hBX HO.out hBX.size (fun x hx => by simp only [List.mem_singleton] at hx; omega)
    have hXr := HO.out.size
    have Bxr : Blk wr w.heap.size 28 #[.bool has, .slice ba batch.length bk, .slice va rounds.length vk, .slice da dec.length dk] := (HO.out.block _ BxX.lt (by simp only [List.mem_singleton]; omega)).trans BxX
    have HLO : Hid (∀ x ∈ blk (.slice sa qs.length sc), X.heap.size ≤ x) := fun x hx => HN.out.2 x (by simp only [Kind.fp, List.mem_append]; exact Or.inl hx)
    have b2 := Bxr.cell 2 _ rfl
    by_cases hlt : k < rounds.length
    · obtain ⟨rb, ro, rfl, hbs, hc, hrd⟩ := (h2.below hBr).cell (by decide) k hlt
      have hrbw : rb < w.heap.size := by
        obtain ⟨rb', ro', e', hbs', _, _⟩ := h2.cell (by decide) k hlt
        simp only [Option.some.injEq, Addr.mk.injEq, and_true] at e'
        omega
      have hc' : ∀ j x, (roundK.cells rounds[k])[j]? = some x → wr.cell? ⟨rb, ro + k * 2 + j, none⟩ = some x := hc
      have f0 := hc' 0 (rounds[k].vr) rfl
      have f1 := hc' 1 (rounds[k].vp) rfl
      have n1 := nm_le RoundQ.n rounds k hlt
      have hpos := hro _ (List.getElem_mem hlt)
      have HQL : Hid (qs.length ≤ 1048576) := by
        have := congrArg List.length HE.out
        rw [List.length_map, List.length_map, List.length_take] at this
        show qs.length ≤ 1048576
        omega
      have HPE : Hid (∀ p' : RoundQ, p'.e = RoundQ.e rounds[k] → (qs ++ [p']).map RoundQ.e = (rounds.take (k + 1)).map RoundQ.e) := fun p' hp' => by
        rw [List.take_succ_eq_append_getElem hlt, List.map_append, List.map_append, HE.out, List.map_singleton, List.map_singleton, hp']
      clear HE hc hc'
      generalize rounds[k] = p at *
      obtain ⟨pv, pr, pw, pp⟩ := p
      obtain ⟨u1, u2⟩ : intK.At wr pv pr ∧ intK.At wr pw pp := hrd
      obtain ⟨x1', j1, rfl⟩ := u1.shape
      obtain ⟨x2', j2, rfl⟩ := u2.shape
      dsimp only [RoundQ.n] at f0 f1 n1 hpos
      rw [Nat.add_zero] at f0
      have hcA := fun w (hT : intK.At w (.slice x1' pr.length j1) pr) => l1Ints_any _ pr w hT hpos.1 (by omega)
      have hcB := fun w (hT : intK.At w (.slice x2' pp.length j2) pp) => l1Ints_any _ pp w hT hpos.2 (by omega)
      have hFg : g ∉ blk (.slice sa qs.length sc) := fun hx => by have := HLO.out g hx; omega
      have hFw : w.heap.size ∉ blk (.slice sa qs.length sc) := fun hx => by have := HLO.out _ hx; omega
      have hFr : rb ∉ blk (.slice sa qs.length sc) := fun hx => by have := HLO.out rb hx; omega
      have HF : Hid (∀ x ∈ roundK.fp (.slice sa qs.length sc) qs, x < wr.heap.size) := hO.lt
      have m0 := lato_cell (F := blk (.slice sa qs.length sc)) (HBg.out.cell 2 _ rfl) hFg
      have m1 := lato_cell (F := blk (.slice sa qs.length sc)) b2 hFw
      have m2 := lato_cell (F := blk (.slice sa qs.length sc)) f0 hFr
      have m3 := lato_cell (F := blk (.slice sa qs.length sc)) f1 hFr
      have hlti : (k : Int) < (rounds.length : Int) := by omega
      have hnn : Nonempty (LatO (blk (.slice sa qs.length sc)) wr) := ⟨⟨wr, Out.refl _ _⟩⟩
      have hW : Below wr.heap.size wr wr.drew := (Below.refl _ _).drew
      have hnw : ∀ w', Below wr.heap.size wr w' → ∃ u : LatO (blk (.slice sa qs.length sc)) wr, w' = u.val := fun w' hw' => ⟨⟨w', Out.of_below hw'⟩, rfl⟩
      clear f0 f1
      go_wp2_with fail
      clear b2
      refine beginX (S := fun w' => ∃ u : LatO (blk (.slice sa qs.length sc)) wr, w' = u.val) (R := fun _ _ => False) 20 (by kernel_rfl) (fun _ _ _ _ h => h.elim) ?_
      refine segX [(0, 8), (9, 6)] 7 (by kernel_rfl) (by kernel_rfl) (by kernel_rfl) (by kernel_rfl) (by kernel_rfl) (hnw _ hW) ?_
      simp only [pickR, List.toList_toArray, List.flatMap_cons, List.flatMap_nil, List.drop_succ_cons, List.drop_zero, List.take_succ_cons, List.take_zero, List.cons_append, List.nil_append, List.append_nil]
      repeat go_big_quiet_step (fail)
      refine wpQuiet_nil ?_
      refine callX 8 (some 29) 152 #[.slice x1' pr.length j1] 6 (by kernel_rfl) (by kernel_rfl) (by kernel_rfl) (by kernel_rfl) (by kernel_rfl) rfl ?_
      refine (hcA _ (u1.below hW)).mono ?_
      rintro e w8 ⟨x1, y1, rfl, oa, ga, hb8⟩
      have LA : ∀ x ∈ intK.fp (.slice x1 pr.length y1) pr, wr.heap.size ≤ x := fun x hx => by have := ga x hx; have := hW.size; omega
      have MA := oa.lt
      replace hW := hW.trans (hb8.mono hW.size)
      clear hb8 ga
      refine Or.inl ⟨_, rfl, hnw _ hW, ?_⟩
      simp only [Act.put, List.getElem_toArray, List.getElem_cons_succ, List.getElem_cons_zero, List.setIfInBounds_toArray, List.set_cons_zero, List.set_cons_succ]
      refine callX 15 (some 36) 152 #[.slice x2' pp.length j2] 5 (by kernel_rfl) (by kernel_rfl) (by kernel_rfl) (by kernel_rfl) (by kernel_rfl) rfl ?_
      refine (hcB _ (u2.below hW)).mono ?_
      rintro e w9 ⟨x2, y2, rfl, ob, gb, hb9⟩
      have LB : ∀ x ∈ intK.fp (.slice x2 pp.length y2) pp, wr.heap.size ≤ x := fun x hx => by have := gb x hx; have := hW.size; omega
      have hdis : ∀ x ∈ intK.fp (.slice x1 pr.length y1) pr, ∀ y ∈ intK.fp (.slice x2 pp.length y2) pp, x ≠ y := fun x hx y hy e => by have := MA x hx; have := gb y hy; omega
      replace oa := oa.below hb9
      replace hW := hW.trans (hb9.mono hW.size)
      clear hb9 gb MA
      refine Or.inl ⟨_, rfl, hnw _ hW, ?_⟩
      simp only [Act.put, List.getElem_toArray, List.getElem_cons_succ, List.getElem_cons_zero, List.setIfInBounds_toArray, List.set_cons_zero, List.set_cons_succ]
      refine oneX 16 _ 4 (by kernel_rfl) rfl (by kernel_rfl) ?_
      go_wp2
      refine ThenX.to ⟨Or.inr (hnw _ hW), ?_⟩
      refine oneX 17 _ 3 (by kernel_rfl) rfl (by kernel_rfl) ?_
      have hbA : Below w9.heap.size w9 (w9.alloc (.cells #[.slice x1 pr.length y1, .slice x2 pp.length y2] 112)) := by go_grown
      replace hW := hW.trans (hbA.mono hW.size)
      replace oa := oa.below hbA
      replace ob := ob.below hbA
      have hsrc : ∀ j u, [Value.slice x1 pr.length y1, .slice x2 pp.length y2][j]? = some u → (w9.alloc (.cells #[.slice x1 pr.length y1, .slice x2 pp.length y2] 112)).cell? ((⟨w9.heap.size, 0, none⟩ : Addr).add j) = some u := by
        intro j u hj; match j, hj with | 0, hj => simp at hj; subst hj; simp [Addr.add] | 1, hj => simp at hj; subst hj; simp [Addr.add]
      go_wp2
      refine ThenX.to ⟨Or.inr (hnw _ hW), ?_⟩
      generalize w9.alloc (.cells #[.slice x1 pr.length y1, .slice x2 pp.length y2] 112) = Z at *
      clear hbA
      have hO3 := hO.below hW
      have hrow0 := hO3.1
      have hsZ := hW.size
      refine oneX 18 _ 2 (by kernel_rfl) rfl (by kernel_rfl) ?_
      refine wpList_append_own_at _ rfl _ _ 25 rfl 0 112 i0 (.agg #[.slice none 0 0, .slice none 0 0]) 2 48 Tryz.underlying25 hi hz0 hz1 hz2 rfl (by decide) _ qs.length (roundK.row qs) rfl hrow0 ⟨w9.heap.size, 0, none⟩ 1 1 [.slice x1 pr.length y1, .slice x2 pp.length y2] rfl rfl hsrc ?c2 ?c3 ?c4 ?c5 ?_
      case c2 => intro u hu; simp at hu; rcases hu with rfl | rfl <;> rfl
      case c3 => have := HQL.out; unfold maxLen; omega
      case c4 => have := HQL.out; omega
      case c5 => omega
      intro v' w5 hown hgrow hnil hat
      clear hnil hrow0 hsrc
      obtain ⟨hO5, hn5, hlo5, hou⟩ := hO3.snoc (p := ⟨.slice x1 pr.length y1, pr, .slice x2 pp.length y2, pp⟩) (B := X.heap.size) HN.out.1 HN.out.2 ⟨oa, ob⟩ (List.nodup_append.2 ⟨intK_nodup _ _, intK_nodup _ _, hdis⟩) (fun x hx hx' => by
        have := HF.out x hx'
        rcases List.mem_append.1 hx with hx | hx
        · have := LA x hx; omega
        · have := LB x hx; omega) (fun x hx => by
        rcases List.mem_append.1 hx with hx | hx
        · have := LA x hx; omega
        · have := LB x hx; omega) (by omega) hown hgrow hat
      obtain ⟨na, nc, rfl⟩ := hO5.shape
      rw [List.length_append, List.length_singleton] at hO5 hn5 hlo5
      have hO9 : Out (blk (.slice sa qs.length sc)) wr w5 := (Out.of_below hW).trans hou
      have Bg5 : Blk w5 g 28 #[.bool has, .slice s1 q1.length t1, .slice sa qs.length sc, .slice a3 dec.length c3] := (hO9.block g (by omega) hFg).trans HBg.out
      have HE5 : Hid ((qs ++ [(⟨.slice x1 pr.length y1, pr, .slice x2 pp.length y2, pp⟩ : RoundQ)]).map RoundQ.e = (rounds.take (k + 1)).map RoundQ.e) := HPE.out _ rfl
      have HN5 : Hid ((roundK.fp (.slice na (qs.length + 1) nc) (qs ++ [(⟨.slice x1 pr.length y1, pr, .slice x2 pp.length y2, pp⟩ : RoundQ)])).Nodup ∧ ∀ k ∈ roundK.fp (.slice na (qs.length + 1) nc) (qs ++ [(⟨.slice x1 pr.length y1, pr, .slice x2 pp.length y2, pp⟩ : RoundQ)]), X.heap.size ≤ k) := ⟨hn5, hlo5⟩
      have hX5 : Out [g] X w5 := by
        refine ⟨hO9.os.trans HO.out.os, hO9.tape.trans HO.out.tape, hO9.output.trans HO.out.output, Nat.le_trans hXr hO9.size, fun x hx hn => ?_⟩
        exact (hO9.block x (by omega) (fun hx' => by have := HLO.out x hx'; omega)).trans (HO.out.block x hx hn)
      clear hn5 hlo5 hou HPE HN HF oa ob LA LB hdis hown hgrow hat hO3 hO m0 m1 m2 m3 hcA hcB
      go_wp2
      refine ThenX.to ⟨Or.inr ⟨⟨_, hO9⟩, rfl⟩, ?_⟩
      simp only [Act.put, List.getElem_toArray, List.getElem_cons_succ, List.getElem_cons_zero, List.setIfInBounds_toArray, List.set_cons_zero, List.set_cons_succ]
      refine oneX 19 _ 1 (by kernel_rfl) rfl (by kernel_rfl) ?_
      go_wp2
      refine ThenX.to ⟨Or.inr ⟨⟨_, hO9⟩, rfl⟩, ?_⟩
      refine oneX 20 _ 0 (by kernel_rfl) rfl (by kernel_rfl) ?_
      have t3 := Bg5.cell 2 _ rfl
      have t4 := Bg5.frozen 2
      have Bg6 := Bg5.set 2 (.slice na (qs.length + 1) nc)
      have hO6 := hO5.out (Out.setCell w5 g 2 (.slice na (qs.length + 1) nc)) (fun x hx => by have := HN5.out.2 x hx; simp only [List.mem_singleton]; omega)
      have hX6 : Out [g] X (w5.setCell ⟨g, 2, none⟩ (.slice na (qs.length + 1) nc)) := hX5.trans (Out.setCell w5 g 2 _)
      have HB6 : Hid (Blk (w5.setCell ⟨g, 2, none⟩ (.slice na (qs.length + 1) nc)) g 28 #[.bool has, .slice s1 q1.length t1, .slice na (qs.length + 1) nc, .slice a3 dec.length c3]) := Bg6
      have HO6 : Hid (Out [g] X (w5.setCell ⟨g, 2, none⟩ (.slice na (qs.length + 1) nc))) := hX6
      clear Bg6 hX6 hX5 hO5 Bg5 HBg HO
      generalize qs ++ [(⟨.slice x1 pr.length y1, pr, .slice x2 pp.length y2, pp⟩ : RoundQ)] = qs' at *
      go_wp2
      refine ThenX.to ⟨Or.inl (by kernel_rfl), ?_⟩
      refine endX (by kernel_rfl) ?_
      clear t3 t4 hO9 hnn hnw hFg hFw hFr
      generalize w5.setCell ⟨g, 2, none⟩ (.slice na (qs.length + 1) nc) = w6 at *
      go_wp2
      go_roundw
      case rel => exact ⟨k + 1, _, qs', by omega, by go_num, HE5, hO6, HN5, HB6, HO6⟩
      case measure => simp [intOf]; omega
    · have hkl : k = rounds.length := by omega
      subst hkl
      have hE := HE.out
      rw [List.take_length] at hE
      have HE9 : Hid (qs.map RoundQ.e = rounds.map RoundQ.e) := hE
      clear HE hE
      have Rbr : Blk wr (w.heap.size + 1) 28 #[.bool false, .slice none 0 0, .slice none 0 0, .slice none 0 0] := (HO.out.block _ RbX.lt (by simp only [List.mem_singleton]; omega)).trans RbX
      have g0 := HBg.out.cell 0 _ rfl
      have g1 := HBg.out.cell 1 _ rfl
      have g2 := HBg.out.cell 2 _ rfl
      have g3 := HBg.out.cell 3 _ rfl
      have Rz := Rbr.row #[.bool has, .slice s1 q1.length t1, .slice sa qs.length sc, .slice a3 dec.length c3]
      have hou := out_row wr (w.heap.size + 1) #[.bool has, .slice s1 q1.length t1, .slice sa qs.length sc, .slice a3 dec.length c3]
      have hBe := below_row hBr (g := w.heap.size + 1) (by omega) #[.bool has, .slice s1 q1.length t1, .slice sa qs.length sc, .slice a3 dec.length c3]
      obtain ⟨e1, o1, n1, L1, N1, o3, L3, N3, D13⟩ := HQ1.out
      have oa := (o1.out HO.out (fun x hx => by simp only [List.mem_singleton]; exact N1 x hx)).out hou (fun x hx => by have := L1 x hx; simp only [List.mem_singleton]; omega)
      have oc := (o3.out HO.out (fun x hx => by simp only [List.mem_singleton]; exact N3 x hx)).out hou (fun x hx => by have := L3 x hx; simp only [List.mem_singleton]; omega)
      have ob := hO.out hou (fun x hx => by have := HN.out.2 x hx; simp only [List.mem_singleton]; omega)
      have HR : Hid ((InstQ.e ⟨has, .slice s1 q1.length t1, q1, .slice sa qs.length sc, qs, .slice a3 dec.length c3, dec⟩ = InstQ.e ⟨has, .slice ba batch.length bk, batch, .slice va rounds.length vk, rounds, .slice da dec.length dk, dec⟩) ∧ (instK.foot ⟨has, .slice s1 q1.length t1, q1, .slice sa qs.length sc, qs, .slice a3 dec.length c3, dec⟩).Nodup ∧ ∀ x ∈ instK.foot ⟨has, .slice s1 q1.length t1, q1, .slice sa qs.length sc, qs, .slice a3 dec.length c3, dec⟩, w.heap.size ≤ x) := by
        refine ⟨?_, ?_, ?_⟩
        · simp only [InstQ.e, e1, HE9.out]
        · refine List.nodup_append.2 ⟨n1, List.nodup_append.2 ⟨HN.out.1, intK_nodup _ _, fun x hx y hy e => ?_⟩, fun x hx y hy e => ?_⟩
          · have := HN.out.2 x hx; have := o3.lt y hy; omega
          · rcases List.mem_append.1 hy with hy | hy
            · have := HN.out.2 y hy; have := o1.lt x hx; omega
            · exact D13 x hx y hy e
        · intro x hx
          rcases List.mem_append.1 hx with hx | hx
          · have := L1 x hx; omega
          · rcases List.mem_append.1 hx with hx | hx
            · have := HN.out.2 x hx; omega
            · have := L3 x hx; omega
      clear e1 o1 n1 L1 N1 o3 L3 N3 D13 hou HQ1 HE9 hO HN HLO
      go_wp2_with (first | (refine st_row (by kernel_rfl) 28 _ _ rfl _ #[.bool has, .slice s1 q1.length t1, .slice sa qs.length sc, .slice a3 dec.length c3] rfl rfl 28 _ Rbr sz_inst rfl (by simp [Value.oneCell']) ?_))
      have k0 := Rz.cell 0 _ rfl
      have k1 := Rz.cell 1 _ rfl
      have k2 := Rz.cell 2 _ rfl
      have k3 := Rz.cell 3 _ rfl
      exact bodyPost_ret (v := .agg #[.bool has, .slice s1 q1.length t1, .slice sa qs.length sc, .slice a3 dec.length c3]) (by simp [results, Tryz.results116, go_sem, k0, k1, k2, k3]) rfl ⟨⟨has, .slice s1 q1.length t1, q1, .slice sa qs.length sc, qs, .slice a3 dec.length c3, dec⟩, rfl, HR.out.1, ⟨oa, ob, oc⟩, HR.out.2.1, HR.out.2.2, hBe⟩

end Go.Proofs.YtolegggbippneaaGreatDoor
namespace Go.Proofs.YtolegggbippneaaGreatDoor
open Go.RowKit
open Go.BigFrame
set_option linter.unusedVariables false
set_option maxRecDepth 100000
set_option linter.unusedSimpArgs false
set_option maxHeartbeats 2000000 in
theorem l6Bad_any (c : Int) (w : World) :
    Calls Tryz.prog 65 #[.int .i64 c] w fun e w' => e = .returned (.agg #[.int .i64 c, .int .i64 0, .bool false, .bool false, .int .i64 0, .bool false, .slice none 0 0, .slice none 0 0, .slice none 0 0]) ∧ Below w.heap.size w w' := by
  have hB : Below w.heap.size w (w.alloc (.cells #[.int .i64 0, .int .i64 0, .bool false, .bool false, .int .i64 0, .bool false, .slice none 0 0, .slice none 0 0, .slice none 0 0] 34)) := by go_grown
  have Rb := Blk.new w 34 #[.int .i64 0, .int .i64 0, .bool false, .bool false, .int .i64 0, .bool false, .slice none 0 0, .slice none 0 0, .slice none 0 0]
  have Rr := Rb.row #[.int .i64 c, .int .i64 0, .bool false, .bool false, .int .i64 0, .bool false, .slice none 0 0, .slice none 0 0, .slice none 0 0]
  have hBr := below_row hB (g := w.heap.size) (Nat.le_refl _) #[.int .i64 c, .int .i64 0, .bool false, .bool false, .int .i64 0, .bool false, .slice none 0 0, .slice none 0 0, .slice none 0 0]
  have hsr : (Tryz.prog.info? 34).map (·.size) = some (#[.int .i64 c, .int .i64 0, .bool false, .bool false, .int .i64 0, .bool false, .slice none 0 0, .slice none 0 0, .slice none 0 0] : Array Value).size := sz_res
  go_enter Tryz.func65, Tryz.ntmps65
  go_wp2_with (first | (refine st_row (by kernel_rfl) 34 _ _ rfl _ #[.int .i64 c, .int .i64 0, .bool false, .bool false, .int .i64 0, .bool false, .slice none 0 0, .slice none 0 0, .slice none 0 0] rfl rfl 34 _ Rb hsr rfl (by simp [Value.oneCell']) ?_))
  have q0 := Rr.cell 0 _ rfl
  have q1 := Rr.cell 1 _ rfl
  have q2 := Rr.cell 2 _ rfl
  have q3 := Rr.cell 3 _ rfl
  have q4 := Rr.cell 4 _ rfl
  have q5 := Rr.cell 5 _ rfl
  have q6 := Rr.cell 6 _ rfl
  have q7 := Rr.cell 7 _ rfl
  have q8 := Rr.cell 8 _ rfl
  exact bodyPost_ret (v := .agg #[.int .i64 c, .int .i64 0, .bool false, .bool false, .int .i64 0, .bool false, .slice none 0 0, .slice none 0 0, .slice none 0 0]) (by simp [results, Tryz.results65, go_sem, q0, q1, q2, q3, q4, q5, q6, q7, q8]) rfl ⟨rfl, hBr⟩

theorem ins_low {p : InstQ} (h : insF p.e = 0) : (∀ t ∈ p.batch, 0 < t.acts.length) ∧ (∀ r ∈ p.rounds, 0 < r.rep.length ∧ 0 < r.pro.length) ∧ 0 < p.dec.length := by
  obtain ⟨h1, h2, h3, _, h5⟩ := ins_ok h
  obtain ⟨h6, _⟩ := ins_zero h
  obtain ⟨_, _, _, h7, h8⟩ := shp_zero h6
  refine ⟨?_, fun r hr => ?_, by have : p.dec.length = 3 := h3; omega⟩
  · cases hh : p.has with
    | true => exact bat_pos (h8 hh)
    | false =>
      have : p.batch.map TxnQ.e = [] := h7 hh
      intro t ht
      have : p.batch = [] := List.map_eq_nil_iff.1 this
      rw [this] at ht
      simp at ht
  · have := h1 (RoundQ.e r) (List.mem_map.2 ⟨r, hr, rfl⟩)
    have h9 : r.rep.length = 3 ∧ r.pro.length = 3 := this
    omega

set_option maxHeartbeats 4000000 in
theorem l6Set_any (b o : Nat) (p : InstQ) (vn : Value) (bt : List TxnQ) (w : World) (hP : InstP w b o p) (hbw : b < w.heap.size) (hl : p.n ≤ 1048576) (h0 : insF p.e = 0) (hT : txnK.At w vn bt) (hl' : bt.length + nmL TxnQ.n bt ≤ 1048576) :
    Calls Tryz.prog 66 #[.pointer (some ⟨b, o, none⟩), vn] w fun e w' => ∃ q : InstQ, e = .returned (.agg (resC (sbC p.e (bt.map TxnQ.e)) 0 false false 0 q)) ∧ q.e = sbI p.e (bt.map TxnQ.e) ∧ instK.own w' q ∧ (instK.foot q).Nodup ∧ (∀ k ∈ instK.foot q, w.heap.size ≤ k) ∧ Below w.heap.size w w' := by
  obtain ⟨hne, hro, hd0⟩ := ins_low h0
  have hco := fun w h => l6Copy_any p w h hl hne hro hd0
  have hba := fun w (hT : txnK.At w vn bt) => l6Batch_any vn (bt.map TxnQ.e) w (txnsAt_of hT) (by rw [List.length_map, sumA_of]; omega)
  have hin := fun (hp : batF (bt.map TxnQ.e) = 0) w (hT : txnK.At w vn bt) => l2CopyAll_any vn bt w hT (bat_pos hp) hl'
  obtain ⟨D, hD⟩ : ∃ D, sbC p.e (bt.map TxnQ.e) = D := ⟨_, rfl⟩
  obtain ⟨E, hE⟩ : ∃ E, sbI p.e (bt.map TxnQ.e) = E := ⟨_, rfl⟩
  have HDE : Hid ((p.has = true → D = 6 ∧ E = ine0) ∧ (p.has = false → batF (bt.map TxnQ.e) ≠ 0 → D = batF (bt.map TxnQ.e) ∧ E = ine0) ∧ (p.has = false → batF (bt.map TxnQ.e) = 0 → D = 0 ∧ E = ⟨true, bt.map TxnQ.e, p.e.rounds, p.dec⟩)) := by
    have hph : p.e.has = p.has := rfl
    refine ⟨fun h1 => ?_, fun h1 h2 => ?_, fun h1 h2 => ?_⟩
    · have e : D = 6 := by rw [← hD]; unfold sbC; rw [if_pos h0, hph, h1]; rfl
      exact ⟨e, by rw [← hE]; exact if_neg (by rw [hD, e]; decide)⟩
    · have e : D = batF (bt.map TxnQ.e) := by rw [← hD]; unfold sbC; rw [if_pos h0, hph, h1]; rfl
      exact ⟨e, by rw [← hE]; exact if_neg (by rw [hD, e]; exact h2)⟩
    · have e : D = 0 := by rw [← hD]; unfold sbC; rw [if_pos h0, hph, h1]; exact h2
      exact ⟨e, by rw [← hE]; exact if_pos (by rw [hD, e])⟩
  rw [hD, hE]
  clear hD hE h0 hne hro hd0
  have HPE : Hid (p.e.rounds = p.rounds.map RoundQ.e ∧ p.e.dec = p.dec) := ⟨rfl, rfl⟩
  generalize hds : bt.map TxnQ.e = dsn at *
  generalize hbf : batF dsn = BF at *
  clear hbf
  have hrd := hP.rd
  have hrb := fun (w' : World) hb => instK.rd_below (w' := w') hrd hb
  generalize hpe : p.e = pe at *
  obtain ⟨has, vb, batch, vr, rounds, vd, dec⟩ := p
  obtain ⟨ba, bk, rfl⟩ : ∃ a c, vb = .slice a batch.length c := hrd.1.shape
  obtain ⟨va, vk, rfl⟩ : ∃ a c, vr = .slice a rounds.length c := hrd.2.1.shape
  obtain ⟨da, dk, rfl⟩ : ∃ a c, vd = .slice a dec.length c := hrd.2.2.shape
  obtain ⟨na, nk, rfl⟩ := hT.shape
  dsimp only at hco hrb HDE HPE
  have hB : Below w.heap.size w (w.alloc (.cells #[.int .i64 0, .int .i64 0, .bool false, .bool false, .int .i64 0, .bool false, .slice none 0 0, .slice none 0 0, .slice none 0 0] 34)) := by go_grown
  have Rb := Blk.new w 34 #[.int .i64 0, .int .i64 0, .bool false, .bool false, .int .i64 0, .bool false, .slice none 0 0, .slice none 0 0, .slice none 0 0]
  have hPW := hP.below hB
  have c0 := hPW.box.c0
  dsimp only at c0
  cases has with
  | true =>
    have E1 : Hid (D = 6 ∧ E = ine0) := HDE.out.1 rfl
    clear HDE hba hin hco
    go_enter Tryz.func66, Tryz.ntmps66
    go_wp2_with fail
    clear c0
    generalize w.alloc (.cells #[.int .i64 0, .int .i64 0, .bool false, .bool false, .int .i64 0, .bool false, .slice none 0 0, .slice none 0 0, .slice none 0 0] 34) = W at *
    refine (l6Bad_any 6 _).mono ?_
    rintro e w8 ⟨rfl, hb8⟩
    replace hB := hB.trans (hb8.mono hB.size)
    replace Rb := Rb.below hb8
    clear hb8
    have Rr := Rb.row #[.int .i64 6, .int .i64 0, .bool false, .bool false, .int .i64 0, .bool false, .slice none 0 0, .slice none 0 0, .slice none 0 0]
    have hBr := below_row hB (g := w.heap.size) (by omega) #[.int .i64 6, .int .i64 0, .bool false, .bool false, .int .i64 0, .bool false, .slice none 0 0, .slice none 0 0, .slice none 0 0]
    have hsr : (Tryz.prog.info? 34).map (·.size) = some (#[.int .i64 6, .int .i64 0, .bool false, .bool false, .int .i64 0, .bool false, .slice none 0 0, .slice none 0 0, .slice none 0 0] : Array Value).size := sz_res
    go_wp2_with (first | (refine st_row (by kernel_rfl) 34 _ _ rfl _ #[.int .i64 6, .int .i64 0, .bool false, .bool false, .int .i64 0, .bool false, .slice none 0 0, .slice none 0 0, .slice none 0 0] rfl rfl 34 _ Rb hsr rfl (by simp [Value.oneCell']) ?_))
    have q0 := Rr.cell 0 _ rfl
    have q1 := Rr.cell 1 _ rfl
    have q2 := Rr.cell 2 _ rfl
    have q3 := Rr.cell 3 _ rfl
    have q4 := Rr.cell 4 _ rfl
    have q5 := Rr.cell 5 _ rfl
    have q6 := Rr.cell 6 _ rfl
    have q7 := Rr.cell 7 _ rfl
    have q8 := Rr.cell 8 _ rfl
    exact bodyPost_ret (v := .agg #[.int .i64 6, .int .i64 0, .bool false, .bool false, .int .i64 0, .bool false, .slice none 0 0, .slice none 0 0, .slice none 0 0]) (by simp [results, Tryz.results66, go_sem, q0, q1, q2, q3, q4, q5, q6, q7, q8]) rfl ⟨inst0, by rw [E1.out.1]; rfl, E1.out.2.symm, inst0_own _, inst0_nd, fun k hk => by rw [inst0_ft] at hk; simp at hk, hBr⟩

  | false =>
    have E4 : Hid ((BF ≠ 0 → D = BF ∧ E = ine0) ∧ (BF = 0 → D = 0 ∧ E = ⟨true, dsn, pe.rounds, dec⟩)) := ⟨HDE.out.2.1 rfl, HDE.out.2.2 rfl⟩
    clear HDE
    go_enter Tryz.func66, Tryz.ntmps66
    go_wp2_with fail
    clear c0
    generalize w.alloc (.cells #[.int .i64 0, .int .i64 0, .bool false, .bool false, .int .i64 0, .bool false, .slice none 0 0, .slice none 0 0, .slice none 0 0] 34) = W at *
    refine (hba W (hT.below hB)).mono ?_
    rintro e w2 ⟨rfl, hb2⟩
    replace Rb := Rb.below hb2
    replace hPW := hPW.below hb2
    replace hB := hB.trans (hb2.mono hB.size)
    clear hb2 hba
    by_cases hbf : BF = 0
    case neg =>
      have E1 : Hid (D = BF ∧ E = ine0) := E4.out.1 hbf
      have h0' : (BF != 0) = true := by simpa using hbf
      clear E4 hbf hin hco
      go_wp2_with fail
      refine (l6Bad_any BF _).mono ?_
      rintro e w8 ⟨rfl, hb8⟩
      replace hB := hB.trans (hb8.mono hB.size)
      replace Rb := Rb.below hb8
      clear hb8
      have Rr := Rb.row #[.int .i64 BF, .int .i64 0, .bool false, .bool false, .int .i64 0, .bool false, .slice none 0 0, .slice none 0 0, .slice none 0 0]
      have hBr := below_row hB (g := w.heap.size) (by omega) #[.int .i64 BF, .int .i64 0, .bool false, .bool false, .int .i64 0, .bool false, .slice none 0 0, .slice none 0 0, .slice none 0 0]
      have hsr : (Tryz.prog.info? 34).map (·.size) = some (#[.int .i64 BF, .int .i64 0, .bool false, .bool false, .int .i64 0, .bool false, .slice none 0 0, .slice none 0 0, .slice none 0 0] : Array Value).size := sz_res
      go_wp2_with (first | (refine st_row (by kernel_rfl) 34 _ _ rfl _ #[.int .i64 BF, .int .i64 0, .bool false, .bool false, .int .i64 0, .bool false, .slice none 0 0, .slice none 0 0, .slice none 0 0] rfl rfl 34 _ Rb hsr rfl (by simp [Value.oneCell']) ?_))
      have q0 := Rr.cell 0 _ rfl
      have q1 := Rr.cell 1 _ rfl
      have q2 := Rr.cell 2 _ rfl
      have q3 := Rr.cell 3 _ rfl
      have q4 := Rr.cell 4 _ rfl
      have q5 := Rr.cell 5 _ rfl
      have q6 := Rr.cell 6 _ rfl
      have q7 := Rr.cell 7 _ rfl
      have q8 := Rr.cell 8 _ rfl
      exact bodyPost_ret (v := .agg #[.int .i64 BF, .int .i64 0, .bool false, .bool false, .int .i64 0, .bool false, .slice none 0 0, .slice none 0 0, .slice none 0 0]) (by simp [results, Tryz.results66, go_sem, q0, q1, q2, q3, q4, q5, q6, q7, q8]) rfl ⟨inst0, by rw [E1.out.1]; rfl, E1.out.2.symm, inst0_own _, inst0_nd, fun k hk => by rw [inst0_ft] at hk; simp at hk, hBr⟩

    case pos =>
      have E1 : Hid (D = 0 ∧ E = ⟨true, dsn, pe.rounds, dec⟩) := E4.out.2 hbf
      subst hbf
      clear E4
      have hw23 : w.heap.size + 1 ≤ w2.heap.size := Rb.lt
      obtain ⟨c0, c1, c2, c3⟩ := hPW.box
      dsimp only at c0 c1 c2 c3
      go_wp2_with fail
      clear c0 c1 c2 c3
      refine (hco w2 (hrb w2 hB)).mono ?_
      rintro e w3 ⟨q, rfl, eq, oq, nq, gq, hb3⟩
      replace Rb := Rb.below hb3
      replace hB := hB.trans (hb3.mono hB.size)
      obtain ⟨qh, qb, qbs, qr, qrs, qd, qds⟩ := q
      obtain ⟨s1, t1, rfl⟩ : ∃ a c, qb = .slice a qbs.length c := oq.1.shape
      obtain ⟨s2, t2, rfl⟩ : ∃ a c, qr = .slice a qrs.length c := oq.2.1.shape
      obtain ⟨s3, t3, rfl⟩ : ∃ a c, qd = .slice a qds.length c := oq.2.2.shape
      have hbA : Below w3.heap.size w3 (w3.alloc (.cells #[.bool true, .slice s1 qbs.length t1, .slice s2 qrs.length t2, .slice s3 qds.length t3] 28)) := by go_grown
      have Gz := Blk.new w3 28 #[.bool true, .slice s1 qbs.length t1, .slice s2 qrs.length t2, .slice s3 qds.length t3]
      have hn23 := (List.nodup_append.1 nq).2.1
      have o2 := oq.2.1
      have o3 := oq.2.2
      have M2 := o2.lt
      have M3 := o3.lt
      have hs23 := hb3.size
      have L2 : ∀ k ∈ roundK.fp (.slice s2 qrs.length t2) qrs, w2.heap.size ≤ k := fun k hk => gq k (List.mem_append_right _ (List.mem_append_left _ hk))
      have L3 : ∀ k ∈ intK.fp (.slice s3 qds.length t3) qds, w2.heap.size ≤ k := fun k hk => gq k (List.mem_append_right _ (List.mem_append_right _ hk))
      have HQE : Hid (pe.rounds = qrs.map RoundQ.e ∧ qds = dec) := by
        have e1 : pe.dec = dec := HPE.out.2
        rw [← eq] at e1 ⊢
        exact ⟨rfl, e1⟩
      replace o2 := o2.below hbA
      replace o3 := o3.below hbA
      replace Rb := Rb.below hbA
      replace hB := hB.trans (hbA.mono hB.size)
      clear hco gq nq oq eq hb3 HPE
      go_wp2_with fail
      have hgz := Gz.lt
      generalize w3.alloc (.cells #[.bool true, .slice s1 qbs.length t1, .slice s2 qrs.length t2, .slice s3 qds.length t3] 28) = W3 at *
      refine (hin (by trivial) W3 (hT.below hB)).mono ?_
      rintro e w4 ⟨v4, qt, rfl, e4, o4, n4, g4, hb4⟩
      obtain ⟨s4, t4, rfl⟩ := o4.shape
      replace o2 := o2.below hb4
      replace o3 := o3.below hb4
      replace Rb := Rb.below hb4
      replace Gz := Gz.below hb4
      replace hB := hB.trans (hb4.mono hB.size)
      have hsb : w3.heap.size ≤ W3.heap.size := hbA.size
      have R5 := Rb.other (b' := w3.heap.size) (by omega) 1 (.slice s4 qt.length t4)
      have G5 : Blk (w4.setCell ⟨w3.heap.size, 1, none⟩ (.slice s4 qt.length t4)) w3.heap.size 28 #[.bool true, .slice s4 qt.length t4, .slice s2 qrs.length t2, .slice s3 qds.length t3] := Gz.set 1 (.slice s4 qt.length t4)
      have hB5 : Below w.heap.size w (w4.setCell ⟨w3.heap.size, 1, none⟩ (.slice s4 qt.length t4)) := hB.setCell (p := ⟨w3.heap.size, 1, none⟩) (by show w.heap.size ≤ w3.heap.size; omega) _
      have U1 := Out.setCell w4 w3.heap.size 1 (.slice s4 qt.length t4)
      have U2 := out_row (w4.setCell ⟨w3.heap.size, 1, none⟩ (.slice s4 qt.length t4)) w.heap.size #[.int .i64 0, .int .i64 0, .bool false, .bool false, .int .i64 0, .bool true, .slice s4 qt.length t4, .slice s2 qrs.length t2, .slice s3 qds.length t3]
      have Rr := R5.row #[.int .i64 0, .int .i64 0, .bool false, .bool false, .int .i64 0, .bool true, .slice s4 qt.length t4, .slice s2 qrs.length t2, .slice s3 qds.length t3]
      have hBr := below_row hB5 (g := w.heap.size) (Nat.le_refl _) #[.int .i64 0, .int .i64 0, .bool false, .bool false, .int .i64 0, .bool true, .slice s4 qt.length t4, .slice s2 qrs.length t2, .slice s3 qds.length t3]
      have hsr : (Tryz.prog.info? 34).map (·.size) = some (#[.int .i64 0, .int .i64 0, .bool false, .bool false, .int .i64 0, .bool true, .slice s4 qt.length t4, .slice s2 qrs.length t2, .slice s3 qds.length t3] : Array Value).size := sz_res
      have K2 := (o2.out U1 (fun k hk => by have := M2 k hk; simp only [List.mem_singleton]; omega)).out U2 (fun k hk => by have := L2 k hk; simp only [List.mem_singleton]; omega)
      have K3 := (o3.out U1 (fun k hk => by have := M3 k hk; simp only [List.mem_singleton]; omega)).out U2 (fun k hk => by have := L3 k hk; simp only [List.mem_singleton]; omega)
      have K4 := (o4.out U1 (fun k hk => by have := g4 k hk; simp only [List.mem_singleton]; omega)).out U2 (fun k hk => by have := g4 k hk; simp only [List.mem_singleton]; omega)
      have HR : Hid (InstQ.e ⟨true, .slice s4 qt.length t4, qt, .slice s2 qrs.length t2, qrs, .slice s3 qds.length t3, qds⟩ = E ∧ (instK.foot ⟨true, .slice s4 qt.length t4, qt, .slice s2 qrs.length t2, qrs, .slice s3 qds.length t3, qds⟩).Nodup ∧ ∀ k ∈ instK.foot ⟨true, .slice s4 qt.length t4, qt, .slice s2 qrs.length t2, qrs, .slice s3 qds.length t3, qds⟩, w.heap.size ≤ k) := by
        refine ⟨?_, ?_, ?_⟩
        · rw [E1.out.2, HQE.out.1, ← HQE.out.2]
          simp only [InstQ.e, e4]
        · refine List.nodup_append.2 ⟨n4, hn23, fun x hx y hy e => ?_⟩
          have := g4 x hx
          rcases List.mem_append.1 hy with hy | hy
          · have := M2 y hy; omega
          · have := M3 y hy; omega
        · intro k hk
          rcases List.mem_append.1 hk with hk | hk
          · have := g4 k hk; omega
          · rcases List.mem_append.1 hk with hk | hk
            · have := L2 k hk; omega
            · have := L3 k hk; omega
      have HD0 : Hid (D = 0) := E1.out.1
      have k0 := Gz.cell 0 _ rfl
      have k1 := Gz.cell 1 _ rfl
      have k2 := Gz.cell 2 _ rfl
      have k3 := Gz.cell 3 _ rfl
      have kf := Gz.frozen 1
      clear hin e4 o4 n4 g4 hb4 o2 o3 M2 M3 L2 L3 hn23 U1 U2 E1 HQE hbA Gz G5 Rb
      go_wp2_with (first | (refine st_row (by kernel_rfl) 34 _ _ rfl _ #[.int .i64 0, .int .i64 0, .bool false, .bool false, .int .i64 0, .bool true, .slice s4 qt.length t4, .slice s2 qrs.length t2, .slice s3 qds.length t3] rfl rfl 34 _ R5 hsr rfl (by simp [Value.oneCell']) ?_))
      have q0 := Rr.cell 0 _ rfl
      have q1 := Rr.cell 1 _ rfl
      have q2 := Rr.cell 2 _ rfl
      have q3 := Rr.cell 3 _ rfl
      have q4 := Rr.cell 4 _ rfl
      have q5 := Rr.cell 5 _ rfl
      have q6 := Rr.cell 6 _ rfl
      have q7 := Rr.cell 7 _ rfl
      have q8 := Rr.cell 8 _ rfl
      exact bodyPost_ret (v := .agg #[.int .i64 0, .int .i64 0, .bool false, .bool false, .int .i64 0, .bool true, .slice s4 qt.length t4, .slice s2 qrs.length t2, .slice s3 qds.length t3]) (by simp [results, Tryz.results66, go_sem, q0, q1, q2, q3, q4, q5, q6, q7, q8]) rfl ⟨⟨true, .slice s4 qt.length t4, qt, .slice s2 qrs.length t2, qrs, .slice s3 qds.length t3, qds⟩, by rw [HD0.out], HR.out.1, ⟨K4, K2, K3⟩, HR.out.2.1, HR.out.2.2, hBr⟩

end Go.Proofs.YtolegggbippneaaGreatDoor
namespace Go.Proofs.YtolegggbippneaaGreatDoor
open Go.RowKit
open Go.BigFrame
set_option linter.unusedVariables false
set_option maxRecDepth 100000
set_option linter.unusedSimpArgs false
/-- A report, a proposal that is laid in a round. -/
def rstR (rs : List RoundE) (r n : Nat) (v : Int) : List RoundE := rs.set r ⟨(rs.getD r rnd0).rep.set n v, (rs.getD r rnd0).pro⟩

def rstP (rs : List RoundE) (r n : Nat) (v : Int) : List RoundE := rs.set r ⟨(rs.getD r rnd0).rep, (rs.getD r rnd0).pro.set n v⟩

theorem rstR_length (rs : List RoundE) (r n : Nat) (v : Int) : (rstR rs r n v).length = rs.length := by simp [rstR]

theorem rstP_length (rs : List RoundE) (r n : Nat) (v : Int) : (rstP rs r n v).length = rs.length := by simp [rstP]

theorem rowsV_set {rs : List RoundE} (h : Wel rs) (r : Nat) (hr : r < rs.length) (j : Nat) (hj : j < 6) (x : Value) (q : RoundE) (hq : rowC q = (rowC (rs.getD r rnd0)).set j x) : (rowsV rs).set (r * 6 + j) x = rowsV (rs.set r q) := by
  induction rs generalizing r with
  | nil => simp at hr
  | cons a t ih =>
    have ha := rowC_length (h a (by simp))
    cases r with
    | zero =>
      simp only [rowsV, List.set_cons_zero, List.flatMap_cons] at hq ⊢
      have e : (a :: t).getD 0 rnd0 = a := rfl
      rw [e] at hq
      rw [List.set_append_left _ _ (by omega), hq, Nat.zero_mul, Nat.zero_add]
    | succ r =>
      have e : (a :: t).getD (r + 1) rnd0 = t.getD r rnd0 := by simp [List.getD]
      rw [e] at hq
      have := ih (fun y hy => h y (List.mem_cons_of_mem _ hy)) r (by simpa using hr) hq
      simp only [rowsV, List.set_cons_succ, List.flatMap_cons] at this ⊢
      rw [List.set_append_right _ _ (by omega), ha, show (r + 1) * 6 + j - 6 = r * 6 + j by omega, this]

theorem rnd_set {rs : List RoundE} (h : Wel rs) (r : Nat) (hr : r < rs.length) (j : Nat) (hj : j < 6) (x : Value) (q : RoundE) (hq : rowC q = (rowC (rs.getD r rnd0)).set j x) : (rndC rs).set (1 + r * 6 + j) x = rndC (rs.set r q) := by
  have hl := rowsV_length h
  unfold rndC
  rw [show 1 + r * 6 + j = (r * 6 + j) + 1 by omega, List.set_cons_succ, List.set_append_left _ _ (by omega), rowsV_set h r hr j hj x q hq, List.length_set]

theorem brd_set {has : Bool} {vb : Value} {rs : List RoundE} {dec : List Int} (h : Wel rs) (h4 : rs.length ≤ 4) (r : Nat) (hr : r < rs.length) (j : Nat) (hj : j < 6) (x : Value) (q : RoundE) (hq : rowC q = (rowC (rs.getD r rnd0)).set j x) : (brdC has vb rs dec).set (1 + r * 6 + j) x = brdC has vb (rs.set r q) dec := by
  have hl := rndC_length h h4
  unfold brdC
  rw [List.set_append_left _ _ (by omega), rnd_set h r hr j hj x q hq]

theorem rowC_setR {q : RoundE} (h : q.rep.length = 3 ∧ q.pro.length = 3) (n : Nat) (hn : n < 3) (v : Int) : rowC ⟨q.rep.set n v, q.pro⟩ = (rowC q).set n (iv v) := by
  unfold rowC
  rw [← List.map_set, List.set_append_left _ _ (by omega)]

theorem rowC_setP {q : RoundE} (h : q.rep.length = 3 ∧ q.pro.length = 3) (n : Nat) (hn : n < 3) (v : Int) : rowC ⟨q.rep, q.pro.set n v⟩ = (rowC q).set (3 + n) (iv v) := by
  unfold rowC
  rw [← List.map_set, List.set_append_right _ _ (by omega), h.1, show 3 + n - 3 = n by omega]

theorem rnd_setR {rs : List RoundE} (h : Wel rs) (r : Nat) (hr : r < rs.length) (n : Nat) (hn : n < 3) (v : Int) : (rndC rs).set (1 + r * 6 + n) (iv v) = rndC (rstR rs r n v) :=
  rnd_set h r hr n (by omega) _ _ (rowC_setR (wel_at h r hr) n hn v)

theorem brd_setP {has : Bool} {vb : Value} {rs : List RoundE} {dec : List Int} (h : Wel rs) (h4 : rs.length ≤ 4) (r : Nat) (hr : r < rs.length) (n : Nat) (hn : n < 3) (v : Int) : (brdC has vb rs dec).set (1 + r * 6 + 3 + n) (iv v) = brdC has vb (rstP rs r n v) dec := by
  rw [show 1 + r * 6 + 3 + n = 1 + r * 6 + (3 + n) by omega]
  exact brd_set h h4 r hr (3 + n) (by omega) _ _ (rowC_setP (wel_at h r hr) n hn v)

theorem brd_setD {has : Bool} {vb : Value} {rs : List RoundE} {dec : List Int} (h : Wel rs) (h4 : rs.length ≤ 4) (n : Nat) (v : Int) : (brdC has vb rs dec).set (27 + n) (iv v) = brdC has vb rs (dec.set n v) := by
  have hl := rndC_length h h4
  unfold brdC
  rw [List.set_append_right _ _ (by omega), hl, show 27 + n - 25 = n + 2 by omega]
  simp [List.map_set]

theorem wel_set {rs : List RoundE} (h : Wel rs) (r : Nat) (q : RoundE) (hq : q.rep.length = 3 ∧ q.pro.length = 3) : Wel (rs.set r q) := fun x hx => by
  rcases List.mem_or_eq_of_mem_set hx with hx | rfl
  · exact h x hx
  · exact hq

theorem wel_rstR {rs : List RoundE} (h : Wel rs) (r n : Nat) (hr : r < rs.length) (v : Int) : Wel (rstR rs r n v) := wel_set h r _ (by have := wel_at h r hr; simpa using this)

theorem wel_rstP {rs : List RoundE} (h : Wel rs) (r n : Nat) (hr : r < rs.length) (v : Int) : Wel (rstP rs r n v) := wel_set h r _ (by have := wel_at h r hr; simpa using this)

/-- The same in memory. -/
def InstQ.setP (q : InstQ) (r n : Nat) (x : Int) (hr : r < q.rounds.length) : InstQ := ⟨q.has, q.vb, q.batch, q.vr, q.rounds.set r ⟨q.rounds[r].vr, q.rounds[r].rep, q.rounds[r].vp, q.rounds[r].pro.set n x⟩, q.vd, q.dec⟩

def InstQ.setR (q : InstQ) (r n : Nat) (x : Int) (hr : r < q.rounds.length) : InstQ := ⟨q.has, q.vb, q.batch, q.vr, q.rounds.set r ⟨q.rounds[r].vr, q.rounds[r].rep.set n x, q.rounds[r].vp, q.rounds[r].pro⟩, q.vd, q.dec⟩

def InstQ.setD (q : InstQ) (n : Nat) (x : Int) : InstQ := ⟨q.has, q.vb, q.batch, q.vr, q.rounds, q.vd, q.dec.set n x⟩

theorem getD_mapE (qs : List RoundQ) (r : Nat) (hr : r < qs.length) : (qs.map RoundQ.e).getD r rnd0 = qs[r].e := by simp [List.getD, hr]

theorem setP_e (q : InstQ) (r n : Nat) (x : Int) (hr : r < q.rounds.length) : (q.setP r n x hr).e = ⟨q.e.has, q.e.batch, rstP q.e.rounds r n x, q.e.dec⟩ := by
  show InstE.mk _ _ _ _ = _
  unfold rstP
  rw [show q.e.rounds = q.rounds.map RoundQ.e from rfl, getD_mapE _ _ hr]
  simp only [InstQ.setP, List.map_set]
  rfl

theorem setR_e (q : InstQ) (r n : Nat) (x : Int) (hr : r < q.rounds.length) : (q.setR r n x hr).e = ⟨q.e.has, q.e.batch, rstR q.e.rounds r n x, q.e.dec⟩ := by
  show InstE.mk _ _ _ _ = _
  unfold rstR
  rw [show q.e.rounds = q.rounds.map RoundQ.e from rfl, getD_mapE _ _ hr]
  simp only [InstQ.setR, List.map_set]
  rfl

theorem setD_e (q : InstQ) (n : Nat) (x : Int) : (q.setD n x).e = ⟨q.e.has, q.e.batch, q.e.rounds, q.e.dec.set n x⟩ := rfl

theorem intK_foot (zs : List Int) : zs.flatMap intK.foot = [] := by
  rw [List.flatMap_eq_nil_iff]
  intro _ _
  rfl

theorem own_int_set {w : World} {g n cap k : Nat} {zs : List Int} (h : intK.Own w (.slice (some ⟨g, 0, none⟩) n cap) zs) (hk : k < zs.length) (x : Int) :
    intK.Own (w.setCell ⟨g, k, none⟩ (iv x)) (.slice (some ⟨g, 0, none⟩) n cap) (zs.set k x) ∧ w.cell? ⟨g, k, none⟩ = some (iv zs[k]) ∧ w.frozen? ⟨g, k, none⟩ = false := by
  have hnd : (intK.fp (.slice (some ⟨g, 0, none⟩) n cap) zs).Nodup := intK_nodup _ _
  have h1 := (h.store hnd k hk x 0 (iv x) (by show 0 < 1; omega) rfl rfl (fun _ _ => trivial)).1
  have h2 := h.cell k hk 0 (iv zs[k]) rfl
  have e : k * intK.size + 0 = k := by show k * 1 + 0 = k; omega
  rw [e] at h1 h2
  exact ⟨h1, h2⟩

theorem fp_int {g n cap : Nat} (zs : List Int) : intK.fp (.slice (some ⟨g, 0, none⟩) n cap) zs = [g] := by
  simp [Kind.fp, intK_foot, blk, Value.ownBlock]

theorem nodup_flat {A B : Type} {f : A → List B} {l : List A} (h : (l.flatMap f).Nodup) {a : A} (ha : a ∈ l) : (f a).Nodup := by
  induction l with
  | nil => simp at ha
  | cons x t ih =>
    rw [List.flatMap_cons, List.nodup_append] at h
    rcases List.mem_cons.1 ha with rfl | ha
    · exact h.1
    · exact ih h.2.1 ha

theorem own_setP {w : World} {q : InstQ} (h : instK.own w q) (hnd : (instK.foot q).Nodup) (r n : Nat) (hr : r < q.rounds.length) (hn : n < q.rounds[r].pro.length) (x : Int) :
    ∃ g cap, q.rounds[r].vp = .slice (some ⟨g, 0, none⟩) q.rounds[r].pro.length cap ∧ g ∈ instK.foot q ∧ w.cell? ⟨g, n, none⟩ = some (iv q.rounds[r].pro[n]) ∧ w.frozen? ⟨g, n, none⟩ = false ∧
      instK.own (w.setCell ⟨g, n, none⟩ (iv x)) (q.setP r n x hr) ∧ instK.foot (q.setP r n x hr) = instK.foot q := by
  obtain ⟨o1, o2, o3⟩ := h
  obtain ⟨hn1, hn23, hd1⟩ := List.nodup_append.1 hnd
  obtain ⟨hn2, hn3, hd2⟩ := List.nodup_append.1 hn23
  have hmem := o2.2 _ (List.getElem_mem hr)
  obtain ⟨oR, oP⟩ := hmem
  obtain ⟨a, cap, hv⟩ := oP.shape
  rw [hv] at oP
  obtain ⟨g, rfl⟩ := oP.blkOf (by omega)
  obtain ⟨k1, k2, k3⟩ := own_int_set oP hn x
  have hgP : g ∈ roundK.foot q.rounds[r] := List.mem_append_right _ (by rw [hv, fp_int]; simp)
  have hg2 : g ∈ roundK.fp q.vr q.rounds := List.mem_append_right _ (List.mem_flatMap.2 ⟨_, List.getElem_mem hr, hgP⟩)
  have hg : g ∈ instK.foot q := List.mem_append_right _ (List.mem_append_left _ hg2)
  have hU := Out.setCell w g n (iv x)
  have hfr : (roundK.foot q.rounds[r]).Nodup := nodup_flat (List.nodup_append.1 hn2).2.1 (List.getElem_mem hr)
  have hRP : ∀ k ∈ intK.fp q.rounds[r].vr q.rounds[r].rep, k ∉ [g] := fun k hk hk' => by
    simp only [List.mem_singleton] at hk'
    subst hk'
    have := (List.nodup_append.1 hfr).2.2 k hk k (by rw [hv, fp_int]; simp)
    exact this rfl
  have ht := o2.turn hn2 r hr ⟨q.rounds[r].vr, q.rounds[r].rep, q.rounds[r].vp, q.rounds[r].pro.set n x⟩ hU (fun k hk => by simp only [List.mem_singleton] at hk; rw [hk]; exact hgP) rfl (by show intK.fp _ _ ++ intK.fp _ _ = intK.fp _ _ ++ intK.fp _ _; rw [hv, fp_int, fp_int]) ⟨oR.out hU hRP, by rw [hv]; exact k1⟩
  refine ⟨g, cap, hv, hg, k2, k3, ⟨o1.out hU (fun k hk hk' => ?_), ht.1, o3.out hU (fun k hk hk' => ?_)⟩, ?_⟩
  · simp only [List.mem_singleton] at hk'
    subst hk'
    exact hd1 k hk k (List.mem_append_left _ hg2) rfl
  · simp only [List.mem_singleton] at hk'
    subst hk'
    exact hd2 k hg2 k hk rfl
  · show txnK.fp _ _ ++ (roundK.fp _ _ ++ intK.fp _ _) = _
    rw [show (q.setP r n x hr).rounds = q.rounds.set r ⟨q.rounds[r].vr, q.rounds[r].rep, q.rounds[r].vp, q.rounds[r].pro.set n x⟩ from rfl]
    rw [show (q.setP r n x hr).vr = q.vr from rfl, ht.2]
    rfl

theorem own_setR {w : World} {q : InstQ} (h : instK.own w q) (hnd : (instK.foot q).Nodup) (r n : Nat) (hr : r < q.rounds.length) (hn : n < q.rounds[r].rep.length) (x : Int) :
    ∃ g cap, q.rounds[r].vr = .slice (some ⟨g, 0, none⟩) q.rounds[r].rep.length cap ∧ g ∈ instK.foot q ∧ w.cell? ⟨g, n, none⟩ = some (iv q.rounds[r].rep[n]) ∧ w.frozen? ⟨g, n, none⟩ = false ∧
      instK.own (w.setCell ⟨g, n, none⟩ (iv x)) (q.setR r n x hr) ∧ instK.foot (q.setR r n x hr) = instK.foot q := by
  obtain ⟨o1, o2, o3⟩ := h
  obtain ⟨hn1, hn23, hd1⟩ := List.nodup_append.1 hnd
  obtain ⟨hn2, hn3, hd2⟩ := List.nodup_append.1 hn23
  have hmem := o2.2 _ (List.getElem_mem hr)
  obtain ⟨oR, oP⟩ := hmem
  obtain ⟨a, cap, hv⟩ := oR.shape
  rw [hv] at oR
  obtain ⟨g, rfl⟩ := oR.blkOf (by omega)
  obtain ⟨k1, k2, k3⟩ := own_int_set oR hn x
  have hgR : g ∈ roundK.foot q.rounds[r] := List.mem_append_left _ (by rw [hv, fp_int]; simp)
  have hg2 : g ∈ roundK.fp q.vr q.rounds := List.mem_append_right _ (List.mem_flatMap.2 ⟨_, List.getElem_mem hr, hgR⟩)
  have hg : g ∈ instK.foot q := List.mem_append_right _ (List.mem_append_left _ hg2)
  have hU := Out.setCell w g n (iv x)
  have hfr : (roundK.foot q.rounds[r]).Nodup := nodup_flat (List.nodup_append.1 hn2).2.1 (List.getElem_mem hr)
  have hRP : ∀ k ∈ intK.fp q.rounds[r].vp q.rounds[r].pro, k ∉ [g] := fun k hk hk' => by
    simp only [List.mem_singleton] at hk'
    subst hk'
    have := (List.nodup_append.1 hfr).2.2 k (by rw [hv, fp_int]; simp) k hk
    exact this rfl
  have ht := o2.turn hn2 r hr ⟨q.rounds[r].vr, q.rounds[r].rep.set n x, q.rounds[r].vp, q.rounds[r].pro⟩ hU (fun k hk => by simp only [List.mem_singleton] at hk; rw [hk]; exact hgR) rfl (by show intK.fp _ _ ++ intK.fp _ _ = intK.fp _ _ ++ intK.fp _ _; rw [hv, fp_int, fp_int]) ⟨by rw [hv]; exact k1, oP.out hU hRP⟩
  refine ⟨g, cap, hv, hg, k2, k3, ⟨o1.out hU (fun k hk hk' => ?_), ht.1, o3.out hU (fun k hk hk' => ?_)⟩, ?_⟩
  · simp only [List.mem_singleton] at hk'
    subst hk'
    exact hd1 k hk k (List.mem_append_left _ hg2) rfl
  · simp only [List.mem_singleton] at hk'
    subst hk'
    exact hd2 k hg2 k hk rfl
  · show txnK.fp _ _ ++ (roundK.fp _ _ ++ intK.fp _ _) = _
    rw [show (q.setR r n x hr).rounds = q.rounds.set r ⟨q.rounds[r].vr, q.rounds[r].rep.set n x, q.rounds[r].vp, q.rounds[r].pro⟩ from rfl]
    rw [show (q.setR r n x hr).vr = q.vr from rfl, ht.2]
    rfl

theorem own_setD {w : World} {q : InstQ} (h : instK.own w q) (hnd : (instK.foot q).Nodup) (n : Nat) (hn : n < q.dec.length) (x : Int) :
    ∃ g cap, q.vd = .slice (some ⟨g, 0, none⟩) q.dec.length cap ∧ g ∈ instK.foot q ∧ w.cell? ⟨g, n, none⟩ = some (iv q.dec[n]) ∧ w.frozen? ⟨g, n, none⟩ = false ∧
      instK.own (w.setCell ⟨g, n, none⟩ (iv x)) (q.setD n x) ∧ instK.foot (q.setD n x) = instK.foot q := by
  obtain ⟨o1, o2, o3⟩ := h
  obtain ⟨hn1, hn23, hd1⟩ := List.nodup_append.1 hnd
  obtain ⟨hn2, hn3, hd2⟩ := List.nodup_append.1 hn23
  obtain ⟨a, cap, hv⟩ := o3.shape
  rw [hv] at o3
  obtain ⟨g, rfl⟩ := o3.blkOf (by omega)
  obtain ⟨k1, k2, k3⟩ := own_int_set o3 hn x
  have hg3 : g ∈ intK.fp q.vd q.dec := by rw [hv, fp_int]; simp
  have hg : g ∈ instK.foot q := List.mem_append_right _ (List.mem_append_right _ hg3)
  have hU := Out.setCell w g n (iv x)
  refine ⟨g, cap, hv, hg, k2, k3, ⟨o1.out hU (fun k hk hk' => ?_), o2.out hU (fun k hk hk' => ?_), ?_⟩, ?_⟩
  · simp only [List.mem_singleton] at hk'
    subst hk'
    exact hd1 k hk k (List.mem_append_right _ hg3) rfl
  · simp only [List.mem_singleton] at hk'
    subst hk'
    exact hd2 k hk k hg3 rfl
  · show intK.Own _ q.vd _
    rw [hv]
    exact k1
  · show txnK.fp _ _ ++ (roundK.fp _ _ ++ intK.fp q.vd _) = txnK.fp _ _ ++ (roundK.fp _ _ ++ intK.fp q.vd _)
    rw [hv, fp_int, fp_int]
    rfl

end Go.Proofs.YtolegggbippneaaGreatDoor
