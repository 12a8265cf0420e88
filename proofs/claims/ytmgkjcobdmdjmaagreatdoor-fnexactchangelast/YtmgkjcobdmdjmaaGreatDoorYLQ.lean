/- Texts joined, with what the law reaches alone. -/
import Derived.Test.YtmgkjcobdmdjmaaGreatDoorYLP
import Derived.Test.YtmgkjcobdmdjmaaGreatDoorYLG
namespace Go.Proofs.YtmgkjcobdmdjmaaGreatDoor
open Go.RowKit
open Go.BigFrame
set_option linter.unusedVariables false
set_option maxRecDepth 100000
set_option linter.unusedSimpArgs false
theorem specChangeLast_e (v : Value) (ps : List InstQ) (p : InstQ) (ds : List InstE) (x : InstE) (hx : ps.map InstQ.e = ds) (hy : p.e = x) (w : World) (h : instK.At w v ps) (hp : instK.rd w p) (hl : (ps.length + nmL InstQ.n ps) ≤ 1048576) (hlp : p.n ≤ 1048576) :
    Calls Tryz.prog 29 #[v, .agg #[.bool p.has, p.vb, p.vr, p.vd]] w fun e w' => ∃ (v' : Value) (qs : List InstQ), e = .returned (.agg #[.int .i64 (clC ds x), v']) ∧ qs.map InstQ.e = clO ds x ∧ instK.Own w' v' qs ∧ (instK.fp v' qs).Nodup ∧ (∀ k ∈ instK.fp v' qs, w.heap.size ≤ k) ∧ Below w.heap.size w w' := by
  subst hx hy
  exact specChangeLast_any v ps p w h hp hl hlp

theorem implChangeLast_e (v : Value) (ps : List InstQ) (p : InstQ) (ds : List InstE) (x : InstE) (hx : ps.map InstQ.e = ds) (hy : p.e = x) (w : World) (hG : Rul w) (h : instK.Own w v ps) (hp : instK.rd w p) (hl : (ps.length + nmL InstQ.n ps) ≤ 1048576) (hlp : p.n ≤ 1048576) :
    Calls Tryz.prog 28 #[v, .agg #[.bool p.has, p.vb, p.vr, p.vd]] w fun e w' => ∃ (v' : Value) (qs : List InstQ), e = .returned (.agg #[.int .i64 (clC ds x), v']) ∧ qs.map InstQ.e = clO ds x ∧ instK.Own w' v' qs ∧ (instK.fp v' qs).Nodup ∧ (∀ k ∈ instK.fp v' qs, w.heap.size ≤ k) ∧ Below w.heap.size w w' := by
  subst hx hy
  exact implChangeLast_any v ps p w hG h hp hl hlp

set_option maxRecDepth 100000 in
set_option maxHeartbeats 16000000 in
theorem changeLastLaw (v : Value) (ps : List InstQ) (p : InstQ) (w : World) (hG : Rul w) (h : instK.At w v ps) (hn : ps.length ≤ 9223372036854775807) (hwf : ∀ p ∈ ps, InstQ.wf p) (hp : instK.rd w p) (hpw : p.wf) :
    Calls Tryz.prog 9 #[v, .agg #[.bool p.has, p.vb, p.vr, p.vd]] w fun e w' => e = .returned (.bool true) ∧ Below w.heap.size w w' := by
  have hsz := fun w h => szInstances_k v ps 1048576 w h hn hwf (by omega) (by omega)
  have hszI := fun c w h h0 h1 => szInstance_k p c w h hpw h0 h1
  have hto := fun w h hl => toInstances_k v ps w h hl
  have htoI := fun w h hl => toInstance_k p w h hl
  have hsp := fun v qs q (hq : qs.map InstQ.e = ps.map InstQ.e) (hq' : InstQ.e q = p.e) w h h' hl hl' => specChangeLast_e v qs q _ _ hq hq' w h h' hl hl'
  have him := fun v qs q (hq : qs.map InstQ.e = ps.map InstQ.e) (hq' : InstQ.e q = p.e) w hG h h' hl hl' => implChangeLast_e v qs q _ _ hq hq' w hG h h' hl hl'
  have hqn : ∀ qs : List InstQ, qs.map InstQ.e = ps.map InstQ.e → qs.length + nmL InstQ.n qs = ps.length + nmL InstQ.n ps := fun qs hq => insts_n hq
  have hqm : ∀ q : InstQ, q.e = p.e → q.n = p.n := fun q hq => inst_n hq
  have hqs : Hid (∀ qs : List InstQ, qs.map InstQ.e = clO (ps.map InstQ.e) p.e → qs.length + nmL InstQ.n qs ≤ 1048576) := fun qs hq => clO_n hq
  have hrb := fun (w' : World) hb => Kind.At.below (w' := w') h hb
  have hrbI := fun (w' : World) hb => instK.rd_below (w' := w') hp hb
  generalize clC (ps.map InstQ.e) p.e = D at *
  generalize clO (ps.map InstQ.e) p.e = E at *
  generalize ps.map InstQ.e = ds at *
  generalize hpe : p.e = pe at *
  generalize hpn : ps.length + nmL InstQ.n ps = pn at *
  generalize hpm : p.n = pm at *
  obtain ⟨a, cap, rfl⟩ := h.shape
  obtain ⟨has, vb, batch, vr, rounds, vd, dec⟩ := p
  obtain ⟨ba, bk, rfl⟩ : ∃ a c, vb = .slice a batch.length c := hp.1.shape
  obtain ⟨va, vk, rfl⟩ : ∃ a c, vr = .slice a rounds.length c := hp.2.1.shape
  obtain ⟨da, dk, rfl⟩ : ∃ a c, vd = .slice a dec.length c := hp.2.2.shape
  dsimp only at hszI htoI hrbI
  have b0 : Below w.heap.size w (w.alloc (.cells #[.bool has, .slice ba batch.length bk, .slice va rounds.length vk, .slice da dec.length dk] 78)) := by go_grown
  have A0 := Blk.new w 78 #[.bool has, .slice ba batch.length bk, .slice va rounds.length vk, .slice da dec.length dk]
  go_enter Tryz.func9, Tryz.ntmps9
  go_wp2_with fail
  generalize w.alloc (.cells #[.bool has, .slice ba batch.length bk, .slice va rounds.length vk, .slice da dec.length dk] 78) = W at *
  refine (hsz W (hrb W b0)).mono ?_
  rintro e w1 ⟨r, rfl, hr, hb⟩
  replace A0 := A0.below hb
  replace b0 := b0.trans (hb.mono b0.size)
  clear hb
  clear hsz
  by_cases hneg : r < 0
  · go_wp2
    go_ret
    exact ⟨rfl, b0⟩
  have hl : (pn : Int) + r = 1048576 := hr (by omega)
  clear hr
  have p0 := A0.cell 0 _ rfl
  have p1 := A0.cell 1 _ rfl
  have p2 := A0.cell 2 _ rfl
  have p3 := A0.cell 3 _ rfl
  go_wp2_with fail
  clear p0 p1 p2 p3
  refine (hszI r w1 (hrbI w1 b0) (by omega) (by omega)).mono ?_
  rintro e X ⟨r', rfl, hr, hb⟩
  replace A0 := A0.below hb
  replace b0 := b0.trans (hb.mono b0.size)
  clear hb
  clear hszI
  by_cases hneg' : r' < 0
  · go_wp2
    go_ret
    exact ⟨rfl, b0⟩
  have hl' : (pm : Int) + r' = r := hr (by omega)
  clear hr
  replace hl' : pm ≤ 1048576 := by omega
  replace hl : pn ≤ 1048576 := by omega
  go_wp2_with fail
  clear hneg hneg'
  have bX := b0
  have hA1 := A0.lt
  have c0 := A0.lat 0 _ rfl
  have c1 := A0.lat 1 _ rfl
  have c2 := A0.lat 2 _ rfl
  have c3 := A0.lat 3 _ rfl
  refine region_vals [some 24, some 25, some 26, some 27, some 28, some 6] (fun vs w' => ∃ (v25 v27 : Value) (as_ : Option Addr) (ks_ g : Nat) (qs : List InstQ), vs = [.slice a ps.length cap, v25, .agg #[.bool has, .slice ba batch.length bk, .slice va rounds.length vk, .slice da dec.length dk], v27, .agg #[.int .i64 D, .slice as_ qs.length ks_], .pointer (some ⟨g, 0, none⟩)] ∧ X.heap.size ≤ g ∧ Blk w' g 53 #[.int .i64 D, .slice as_ qs.length ks_] ∧ qs.map InstQ.e = E ∧ instK.Own w' (.slice as_ qs.length ks_) qs ∧ (∀ k ∈ instK.fp (.slice as_ qs.length ks_) qs, X.heap.size ≤ k ∧ k ≠ g) ∧ Below X.heap.size X w') ?_ ?_
  · have hW : Below X.heap.size X X.drew := (Below.refl _ _).drew
    have hnn : Nonempty (Lat X) := ⟨⟨X, Below.refl _ _⟩⟩
    refine text_begin (S := fun w' => ∃ u : Lat X, w' = u.val) (by kernel_rfl) ?_
    refine seg_range [(0, 1), (2, 1)] 5 (by kernel_rfl) (by kernel_rfl) (by kernel_rfl) (by kernel_rfl) (by kernel_rfl) ⟨⟨_, hW⟩, rfl⟩ ?_
    simp only [pickR, List.toList_toArray, List.flatMap_cons, List.flatMap_nil, List.drop_succ_cons, List.drop_zero, List.take_succ_cons, List.take_zero, List.cons_append, List.nil_append, List.append_nil]
    repeat go_big_quiet_step (fail)
    refine wpQuiet_nil ?_
    clear c0 c1 c2 c3
    generalize X.drew = wd at hW ⊢
    refine two_at 1 5 4 (by kernel_rfl) (by kernel_rfl) ?_ ?_
    · skip
      refine op_call 1 (some 25) 37 #[.slice a ps.length cap] (by kernel_rfl) (by kernel_rfl) (by kernel_rfl) ?_
      refine (hto _ (hrb _ (bX.trans (hW.mono bX.size))) hl).mono ?_
      rintro e x1 ⟨v1, q1, rfl, e1, o1, n1, g1, hb⟩
      clear n1 g1
      obtain ⟨a1, k1, rfl⟩ := o1.shape
      replace hW := hW.trans (hb.mono hW.size)
      clear hb
      refine ⟨_, rfl, ⟨⟨_, hW⟩, rfl⟩, ?_⟩
      simp only [Act.put, List.getElem_toArray, List.getElem_cons_succ, List.getElem_cons_zero, List.setIfInBounds_toArray, List.set_cons_zero, List.set_cons_succ]
      refine two_at 3 5 3 (by kernel_rfl) (by kernel_rfl) ?_ ?_
      · skip
        refine op_call 3 (some 27) 52 #[.agg #[.bool has, .slice ba batch.length bk, .slice va rounds.length vk, .slice da dec.length dk]] (by kernel_rfl) (by kernel_rfl) (by kernel_rfl) ?_
        refine (htoI _ (hrbI _ (bX.trans (hW.mono bX.size))) hl').mono ?_
        rintro e x2 ⟨q2, rfl, e2, o2, n2, g2, hb⟩
        clear n2 g2
        replace o1 := o1.below hb
        replace hW := hW.trans (hb.mono hW.size)
        clear hb
        refine ⟨_, rfl, ⟨⟨_, hW⟩, rfl⟩, ?_⟩
        simp only [Act.put, List.getElem_toArray, List.getElem_cons_succ, List.getElem_cons_zero, List.setIfInBounds_toArray, List.set_cons_zero, List.set_cons_succ]
        refine two_at 4 5 2 (by kernel_rfl) (by kernel_rfl) ?_ ?_
        · skip
          refine op_call 4 (some 28) 29 #[.slice a1 q1.length k1, .agg #[.bool q2.has, q2.vb, q2.vr, q2.vd]] (by kernel_rfl) (by kernel_rfl) (by kernel_rfl) ?_
          refine (hsp _ q1 q2 e1 e2 _ o1.at (instK.own_rd o2) (by rw [hqn q1 e1]; exact hl) (by rw [hqm q2 e2]; exact hl')).mono ?_
          rintro e x3 ⟨vs, qs, rfl, es, os, ns, gs, hb⟩
          have glo : ∀ k ∈ instK.fp vs qs, X.heap.size ≤ k := fun k hk => by have := gs k hk; have := hW.size; omega
          obtain ⟨as_, ks_, rfl⟩ := os.shape
          replace hW := hW.trans (hb.mono hW.size)
          clear hb
          refine ⟨_, rfl, ⟨⟨_, hW⟩, rfl⟩, ?_⟩
          simp only [Act.put, List.getElem_toArray, List.getElem_cons_succ, List.getElem_cons_zero, List.setIfInBounds_toArray, List.set_cons_zero, List.set_cons_succ]
          refine one_at 5 _ 1 (by kernel_rfl) rfl (by kernel_rfl) ?_
          have Bz := Blk.new x3 53 #[.int .i64 0, .slice none 0 0]
          have hzz : X.heap.size ≤ x3.heap.size := hW.size
          have hba : Below x3.heap.size x3 (x3.alloc (.cells #[.int .i64 0, .slice none 0 0] 53)) := by go_grown
          have gne : ∀ k ∈ instK.fp (.slice as_ qs.length ks_) qs, k ≠ x3.heap.size := fun k hk => by have := os.lt k hk; omega
          replace os := os.below hba
          replace hW := hW.trans (hba.mono hW.size)
          clear hba
          go_wp2
          refine ThenGo.to ⟨⟨⟨_, hW⟩, rfl⟩, ?_⟩
          generalize hGy4 : x3.heap.size = g at *
          clear hGy4
          generalize x3.alloc (.cells #[.int .i64 0, .slice none 0 0] 53) = y4 at *
          refine one_at 6 _ 0 (by kernel_rfl) rfl (by kernel_rfl) ?_
          have hgW : X.heap.size ≤ g := by omega
          have Rz := Bz.row #[.int .i64 D, .slice as_ qs.length ks_]
          have oz := os.out (out_row _ g #[.int .i64 D, .slice as_ qs.length ks_]) (fun k hk => by simp only [List.mem_singleton]; exact gne k hk)
          replace hW := below_row hW hgW #[.int .i64 D, .slice as_ qs.length ks_]
          refine st_row (by kernel_rfl) 53 _ _ rfl _ #[.int .i64 D, .slice as_ qs.length ks_] rfl rfl 53 _ Bz sz_ord rfl (by simp [Value.oneCell']) ?_
          refine ThenGo.to ⟨⟨⟨_, hW⟩, rfl⟩, ?_⟩
          refine text_end (by kernel_rfl) ?_
          refine ⟨rfl, _, ⟨.slice a1 q1.length k1, .agg #[.bool q2.has, q2.vb, q2.vr, q2.vd], as_, ks_, g, qs, rfl, hgW, Rz, es, oz, fun k hk => ⟨glo k hk, gne k hk⟩, hW⟩, ?_⟩
          simp only [putAll, Act.put, List.getElem_toArray, List.getElem_cons_succ, List.getElem_cons_zero, List.setIfInBounds_toArray, List.set_cons_zero, List.set_cons_succ]
          try rfl
        · skip
          refine op_one 5 _ rfl ?_
          have Bz := Blk.new x2 53 #[.int .i64 0, .slice none 0 0]
          have hzz : X.heap.size ≤ x2.heap.size := hW.size
          have hba : Below x2.heap.size x2 (x2.alloc (.cells #[.int .i64 0, .slice none 0 0] 53)) := by go_grown
          replace o1 := o1.below hba
          replace o2 := instK.own_out (F := []) o2 (Out.of_below hba) (fun _ _ => by simp)
          replace hW := hW.trans (hba.mono hW.size)
          clear hba
          go_wp2
          refine ThenGo.to ⟨⟨⟨_, hW⟩, rfl⟩, ?_⟩
          generalize hGy5 : x2.heap.size = g at *
          clear hGy5
          generalize x2.alloc (.cells #[.int .i64 0, .slice none 0 0] 53) = y5 at *
          refine call_at 4 (some 28) 29 #[.slice a1 q1.length k1, .agg #[.bool q2.has, q2.vb, q2.vr, q2.vd]] 1 (by kernel_rfl) (by kernel_rfl) (by kernel_rfl) (by kernel_rfl) (by kernel_rfl) ?_
          refine (hsp _ q1 q2 e1 e2 _ o1.at (instK.own_rd o2) (by rw [hqn q1 e1]; exact hl) (by rw [hqm q2 e2]; exact hl')).mono ?_
          rintro e x6 ⟨vs, qs, rfl, es, os, ns, gs, hb⟩
          have glo : ∀ k ∈ instK.fp vs qs, X.heap.size ≤ k := fun k hk => by have := gs k hk; have := hW.size; omega
          have hBzl := Bz.lt
          have gne : ∀ k ∈ instK.fp vs qs, k ≠ g := fun k hk => by have := gs k hk; omega
          obtain ⟨as_, ks_, rfl⟩ := os.shape
          replace Bz := Bz.below hb
          replace hW := hW.trans (hb.mono hW.size)
          clear hb
          refine ⟨_, rfl, ⟨⟨_, hW⟩, rfl⟩, ?_⟩
          simp only [Act.put, List.getElem_toArray, List.getElem_cons_succ, List.getElem_cons_zero, List.setIfInBounds_toArray, List.set_cons_zero, List.set_cons_succ]
          refine one_at 6 _ 0 (by kernel_rfl) rfl (by kernel_rfl) ?_
          have hgW : X.heap.size ≤ g := by omega
          have Rz := Bz.row #[.int .i64 D, .slice as_ qs.length ks_]
          have oz := os.out (out_row _ g #[.int .i64 D, .slice as_ qs.length ks_]) (fun k hk => by simp only [List.mem_singleton]; exact gne k hk)
          replace hW := below_row hW hgW #[.int .i64 D, .slice as_ qs.length ks_]
          refine st_row (by kernel_rfl) 53 _ _ rfl _ #[.int .i64 D, .slice as_ qs.length ks_] rfl rfl 53 _ Bz sz_ord rfl (by simp [Value.oneCell']) ?_
          refine ThenGo.to ⟨⟨⟨_, hW⟩, rfl⟩, ?_⟩
          refine text_end (by kernel_rfl) ?_
          refine ⟨rfl, _, ⟨.slice a1 q1.length k1, .agg #[.bool q2.has, q2.vb, q2.vr, q2.vd], as_, ks_, g, qs, rfl, hgW, Rz, es, oz, fun k hk => ⟨glo k hk, gne k hk⟩, hW⟩, ?_⟩
          simp only [putAll, Act.put, List.getElem_toArray, List.getElem_cons_succ, List.getElem_cons_zero, List.setIfInBounds_toArray, List.set_cons_zero, List.set_cons_succ]
          try rfl
      · skip
        refine op_one 5 _ rfl ?_
        have Bz := Blk.new x1 53 #[.int .i64 0, .slice none 0 0]
        have hzz : X.heap.size ≤ x1.heap.size := hW.size
        have hba : Below x1.heap.size x1 (x1.alloc (.cells #[.int .i64 0, .slice none 0 0] 53)) := by go_grown
        replace o1 := o1.below hba
        replace hW := hW.trans (hba.mono hW.size)
        clear hba
        go_wp2
        refine ThenGo.to ⟨⟨⟨_, hW⟩, rfl⟩, ?_⟩
        generalize hGy7 : x1.heap.size = g at *
        clear hGy7
        generalize x1.alloc (.cells #[.int .i64 0, .slice none 0 0] 53) = y7 at *
        refine call_at 3 (some 27) 52 #[.agg #[.bool has, .slice ba batch.length bk, .slice va rounds.length vk, .slice da dec.length dk]] 2 (by kernel_rfl) (by kernel_rfl) (by kernel_rfl) (by kernel_rfl) (by kernel_rfl) ?_
        refine (htoI _ (hrbI _ (bX.trans (hW.mono bX.size))) hl').mono ?_
        rintro e x8 ⟨q2, rfl, e2, o2, n2, g2, hb⟩
        clear n2 g2
        replace o1 := o1.below hb
        replace Bz := Bz.below hb
        replace hW := hW.trans (hb.mono hW.size)
        clear hb
        refine ⟨_, rfl, ⟨⟨_, hW⟩, rfl⟩, ?_⟩
        simp only [Act.put, List.getElem_toArray, List.getElem_cons_succ, List.getElem_cons_zero, List.setIfInBounds_toArray, List.set_cons_zero, List.set_cons_succ]
        refine call_at 4 (some 28) 29 #[.slice a1 q1.length k1, .agg #[.bool q2.has, q2.vb, q2.vr, q2.vd]] 1 (by kernel_rfl) (by kernel_rfl) (by kernel_rfl) (by kernel_rfl) (by kernel_rfl) ?_
        refine (hsp _ q1 q2 e1 e2 _ o1.at (instK.own_rd o2) (by rw [hqn q1 e1]; exact hl) (by rw [hqm q2 e2]; exact hl')).mono ?_
        rintro e x9 ⟨vs, qs, rfl, es, os, ns, gs, hb⟩
        have glo : ∀ k ∈ instK.fp vs qs, X.heap.size ≤ k := fun k hk => by have := gs k hk; have := hW.size; omega
        have hBzl := Bz.lt
        have gne : ∀ k ∈ instK.fp vs qs, k ≠ g := fun k hk => by have := gs k hk; omega
        obtain ⟨as_, ks_, rfl⟩ := os.shape
        replace Bz := Bz.below hb
        replace hW := hW.trans (hb.mono hW.size)
        clear hb
        refine ⟨_, rfl, ⟨⟨_, hW⟩, rfl⟩, ?_⟩
        simp only [Act.put, List.getElem_toArray, List.getElem_cons_succ, List.getElem_cons_zero, List.setIfInBounds_toArray, List.set_cons_zero, List.set_cons_succ]
        refine one_at 6 _ 0 (by kernel_rfl) rfl (by kernel_rfl) ?_
        have hgW : X.heap.size ≤ g := by omega
        have Rz := Bz.row #[.int .i64 D, .slice as_ qs.length ks_]
        have oz := os.out (out_row _ g #[.int .i64 D, .slice as_ qs.length ks_]) (fun k hk => by simp only [List.mem_singleton]; exact gne k hk)
        replace hW := below_row hW hgW #[.int .i64 D, .slice as_ qs.length ks_]
        refine st_row (by kernel_rfl) 53 _ _ rfl _ #[.int .i64 D, .slice as_ qs.length ks_] rfl rfl 53 _ Bz sz_ord rfl (by simp [Value.oneCell']) ?_
        refine ThenGo.to ⟨⟨⟨_, hW⟩, rfl⟩, ?_⟩
        refine text_end (by kernel_rfl) ?_
        refine ⟨rfl, _, ⟨.slice a1 q1.length k1, .agg #[.bool q2.has, q2.vb, q2.vr, q2.vd], as_, ks_, g, qs, rfl, hgW, Rz, es, oz, fun k hk => ⟨glo k hk, gne k hk⟩, hW⟩, ?_⟩
        simp only [putAll, Act.put, List.getElem_toArray, List.getElem_cons_succ, List.getElem_cons_zero, List.setIfInBounds_toArray, List.set_cons_zero, List.set_cons_succ]
        try rfl
    · skip
      refine op_one 5 _ rfl ?_
      have Bz := Blk.new wd 53 #[.int .i64 0, .slice none 0 0]
      have hzz : X.heap.size ≤ wd.heap.size := hW.size
      have hba : Below wd.heap.size wd (wd.alloc (.cells #[.int .i64 0, .slice none 0 0] 53)) := by go_grown
      replace hW := hW.trans (hba.mono hW.size)
      clear hba
      go_wp2
      refine ThenGo.to ⟨⟨⟨_, hW⟩, rfl⟩, ?_⟩
      generalize hGy10 : wd.heap.size = g at *
      clear hGy10
      generalize wd.alloc (.cells #[.int .i64 0, .slice none 0 0] 53) = y10 at *
      refine call_at 1 (some 25) 37 #[.slice a ps.length cap] 3 (by kernel_rfl) (by kernel_rfl) (by kernel_rfl) (by kernel_rfl) (by kernel_rfl) ?_
      refine (hto _ (hrb _ (bX.trans (hW.mono bX.size))) hl).mono ?_
      rintro e x11 ⟨v1, q1, rfl, e1, o1, n1, g1, hb⟩
      clear n1 g1
      obtain ⟨a1, k1, rfl⟩ := o1.shape
      replace Bz := Bz.below hb
      replace hW := hW.trans (hb.mono hW.size)
      clear hb
      refine ⟨_, rfl, ⟨⟨_, hW⟩, rfl⟩, ?_⟩
      simp only [Act.put, List.getElem_toArray, List.getElem_cons_succ, List.getElem_cons_zero, List.setIfInBounds_toArray, List.set_cons_zero, List.set_cons_succ]
      refine call_at 3 (some 27) 52 #[.agg #[.bool has, .slice ba batch.length bk, .slice va rounds.length vk, .slice da dec.length dk]] 2 (by kernel_rfl) (by kernel_rfl) (by kernel_rfl) (by kernel_rfl) (by kernel_rfl) ?_
      refine (htoI _ (hrbI _ (bX.trans (hW.mono bX.size))) hl').mono ?_
      rintro e x12 ⟨q2, rfl, e2, o2, n2, g2, hb⟩
      clear n2 g2
      replace o1 := o1.below hb
      replace Bz := Bz.below hb
      replace hW := hW.trans (hb.mono hW.size)
      clear hb
      refine ⟨_, rfl, ⟨⟨_, hW⟩, rfl⟩, ?_⟩
      simp only [Act.put, List.getElem_toArray, List.getElem_cons_succ, List.getElem_cons_zero, List.setIfInBounds_toArray, List.set_cons_zero, List.set_cons_succ]
      refine call_at 4 (some 28) 29 #[.slice a1 q1.length k1, .agg #[.bool q2.has, q2.vb, q2.vr, q2.vd]] 1 (by kernel_rfl) (by kernel_rfl) (by kernel_rfl) (by kernel_rfl) (by kernel_rfl) ?_
      refine (hsp _ q1 q2 e1 e2 _ o1.at (instK.own_rd o2) (by rw [hqn q1 e1]; exact hl) (by rw [hqm q2 e2]; exact hl')).mono ?_
      rintro e x13 ⟨vs, qs, rfl, es, os, ns, gs, hb⟩
      have glo : ∀ k ∈ instK.fp vs qs, X.heap.size ≤ k := fun k hk => by have := gs k hk; have := hW.size; omega
      have hBzl := Bz.lt
      have gne : ∀ k ∈ instK.fp vs qs, k ≠ g := fun k hk => by have := gs k hk; omega
      obtain ⟨as_, ks_, rfl⟩ := os.shape
      replace Bz := Bz.below hb
      replace hW := hW.trans (hb.mono hW.size)
      clear hb
      refine ⟨_, rfl, ⟨⟨_, hW⟩, rfl⟩, ?_⟩
      simp only [Act.put, List.getElem_toArray, List.getElem_cons_succ, List.getElem_cons_zero, List.setIfInBounds_toArray, List.set_cons_zero, List.set_cons_succ]
      refine one_at 6 _ 0 (by kernel_rfl) rfl (by kernel_rfl) ?_
      have hgW : X.heap.size ≤ g := by omega
      have Rz := Bz.row #[.int .i64 D, .slice as_ qs.length ks_]
      have oz := os.out (out_row _ g #[.int .i64 D, .slice as_ qs.length ks_]) (fun k hk => by simp only [List.mem_singleton]; exact gne k hk)
      replace hW := below_row hW hgW #[.int .i64 D, .slice as_ qs.length ks_]
      refine st_row (by kernel_rfl) 53 _ _ rfl _ #[.int .i64 D, .slice as_ qs.length ks_] rfl rfl 53 _ Bz sz_ord rfl (by simp [Value.oneCell']) ?_
      refine ThenGo.to ⟨⟨⟨_, hW⟩, rfl⟩, ?_⟩
      refine text_end (by kernel_rfl) ?_
      refine ⟨rfl, _, ⟨.slice a1 q1.length k1, .agg #[.bool q2.has, q2.vb, q2.vr, q2.vd], as_, ks_, g, qs, rfl, hgW, Rz, es, oz, fun k hk => ⟨glo k hk, gne k hk⟩, hW⟩, ?_⟩
      simp only [putAll, Act.put, List.getElem_toArray, List.getElem_cons_succ, List.getElem_cons_zero, List.setIfInBounds_toArray, List.set_cons_zero, List.set_cons_succ]
      try rfl
  rintro vs w5 ⟨v25, v27, as_, ks_, gS, qs, rfl, hgS, S0, es, os, us0, hX5⟩
  simp only [putAll, Act.put, List.setIfInBounds_toArray, List.set_cons_zero, List.set_cons_succ]
  clear c0 c1 c2 c3
  replace A0 := A0.below hX5
  replace b0 := b0.trans (hX5.mono b0.size)
  clear hX5
  have hS0 := S0.lt
  have us : ∀ k ∈ instK.fp (.slice as_ qs.length ks_) qs, w.heap.size < k ∧ k < w5.heap.size ∧ k ≠ gS := fun k hk => ⟨by have := us0 k hk; omega, os.lt k hk, (us0 k hk).2⟩
  have hw5 : w.heap.size < w5.heap.size := A0.lt
  have hls : qs.length + nmL InstQ.n qs ≤ 1048576 := hqs.out qs es
  clear us0 bX hsp
  go_wp2_with fail
  refine (hto w5 (hrb w5 b0) hl).mono ?_
  rintro e w6 ⟨v3, q3, rfl, e3, o3, n3, g3, hb⟩
  have h56 := hb.size
  have u3 : ∀ k ∈ instK.fp v3 q3, w5.heap.size ≤ k ∧ k < w6.heap.size := fun k hk => ⟨g3 k hk, o3.lt k hk⟩
  replace A0 := A0.below hb
  replace S0 := S0.below hb
  replace os := os.below hb
  replace b0 := b0.trans (hb.mono b0.size)
  clear hb
  clear g3
  have hl3 : q3.length + nmL InstQ.n q3 ≤ 1048576 := by rw [hqn q3 e3]; exact hl
  have hi3 := fun p hp w hG h h' hl' => him v3 q3 p e3 hp w hG h h' hl3 hl'
  obtain ⟨a3, k3, rfl⟩ := o3.shape
  have p0 := A0.cell 0 _ rfl
  have p1 := A0.cell 1 _ rfl
  have p2 := A0.cell 2 _ rfl
  have p3 := A0.cell 3 _ rfl
  go_wp2_with fail
  clear p0 p1 p2 p3
  refine (htoI w6 (hrbI w6 b0) hl').mono ?_
  rintro e w7 ⟨q4, rfl, e4, o4, n4, g4, hb⟩
  have h67 := hb.size
  have u4 : ∀ k ∈ instK.foot q4, w6.heap.size ≤ k ∧ k < w7.heap.size := fun k hk => ⟨g4 k hk, instK.own_lt o4 k hk⟩
  replace A0 := A0.below hb
  replace S0 := S0.below hb
  replace os := os.below hb
  replace o3 := o3.below hb
  replace b0 := b0.trans (hb.mono b0.size)
  clear hb
  clear g4
  have hl4 : InstQ.n q4 ≤ 1048576 := by rw [hqm q4 e4]; exact hl'
  have hi4 := fun w hG h h' => hi3 q4 e4 w hG h h' hl4
  obtain ⟨has4, vb4, batch4, vr4, rounds4, vd4, dec4⟩ := q4
  obtain ⟨ba4, bk4, rfl⟩ : ∃ a c, vb4 = .slice a batch4.length c := o4.1.shape
  obtain ⟨va4, vk4, rfl⟩ : ∃ a c, vr4 = .slice a rounds4.length c := o4.2.1.shape
  obtain ⟨da4, dk4, rfl⟩ : ∃ a c, vd4 = .slice a dec4.length c := o4.2.2.shape
  dsimp only at hi4
  have X0 := Blk.new w7 28 #[.bool has4, .slice ba4 batch4.length bk4, .slice va4 rounds4.length vk4, .slice da4 dec4.length dk4]
  have hb : Below w7.heap.size w7 (w7.alloc (.cells #[.bool has4, .slice ba4 batch4.length bk4, .slice va4 rounds4.length vk4, .slice da4 dec4.length dk4] 28)) := by go_grown
  replace A0 := A0.below hb
  replace S0 := S0.below hb
  replace os := os.below hb
  replace o3 := o3.below hb
  replace o4 := instK.own_out (F := []) o4 (Out.of_below hb) (fun _ _ => by simp)
  replace b0 := b0.trans (hb.mono b0.size)
  clear hb
  have p0 := X0.cell 0 _ rfl
  have p1 := X0.cell 1 _ rfl
  have p2 := X0.cell 2 _ rfl
  have p3 := X0.cell 3 _ rfl
  go_wp2_with fail
  clear p0 p1 p2 p3
  generalize w7.alloc (.cells #[.bool has4, .slice ba4 batch4.length bk4, .slice va4 rounds4.length vk4, .slice da4 dec4.length dk4] 28) = W7 at *
  have hX7 := X0.lt
  refine (hi4 W7 (hG.below b0) o3 (instK.own_rd o4)).mono ?_
  rintro e w8 ⟨vi, qi, rfl, ei, oi, ni, gi, hb⟩
  have h78 := hb.size
  have ui : ∀ k ∈ instK.fp vi qi, w7.heap.size < k ∧ k < w8.heap.size := fun k hk => ⟨by have := gi k hk; omega, oi.lt k hk⟩
  replace A0 := A0.below hb
  replace S0 := S0.below hb
  replace X0 := X0.below hb
  replace os := os.below hb
  replace o3 := o3.below hb
  replace o4 := instK.own_out (F := []) o4 (Out.of_below hb) (fun _ _ => by simp)
  replace b0 := b0.trans (hb.mono b0.size)
  clear hb
  clear gi hi3 hi4
  have hX8 := X0.lt
  have hli : qi.length + nmL InstQ.n qi ≤ 1048576 := hqs.out qi ei
  obtain ⟨ai, ki, rfl⟩ := oi.shape
  have Y0 := Blk.new w8 53 #[.int .i64 D, .slice ai qi.length ki]
  have hb : Below w8.heap.size w8 (w8.alloc (.cells #[.int .i64 D, .slice ai qi.length ki] 53)) := by go_grown
  replace A0 := A0.below hb
  replace S0 := S0.below hb
  replace X0 := X0.below hb
  replace os := os.below hb
  replace o3 := o3.below hb
  replace oi := oi.below hb
  replace o4 := instK.own_out (F := []) o4 (Out.of_below hb) (fun _ _ => by simp)
  replace b0 := b0.trans (hb.mono b0.size)
  clear hb
  have r0 := S0.cell 0 _ rfl
  have r1 := S0.cell 1 _ rfl
  go_wp2_with fail
  clear r0 r1
  generalize w8.alloc (.cells #[.int .i64 D, .slice ai qi.length ki] 53) = W8 at *
  refine (eqORR_k D (.slice ai qi.length ki) (.slice as_ qs.length ks_) qi qs _ oi.at os.at (ei.trans es.symm) hli).mono ?_
  rintro e w9 ⟨rfl, hb⟩
  replace A0 := A0.below hb
  replace S0 := S0.below hb
  replace X0 := X0.below hb
  replace Y0 := Y0.below hb
  replace os := os.below hb
  replace o3 := o3.below hb
  replace oi := oi.below hb
  replace o4 := instK.own_out (F := []) o4 (Out.of_below hb) (fun _ _ => by simp)
  replace b0 := b0.trans (hb.mono b0.size)
  clear hb
  go_wp2_with fail
  refine (hto w9 (hrb w9 b0) hl).mono ?_
  rintro e w10 ⟨v5, q5, rfl, e5, o5, n5, g5, hb⟩
  replace A0 := A0.below hb
  replace S0 := S0.below hb
  replace X0 := X0.below hb
  replace Y0 := Y0.below hb
  replace os := os.below hb
  replace o3 := o3.below hb
  replace oi := oi.below hb
  replace o4 := instK.own_out (F := []) o4 (Out.of_below hb) (fun _ _ => by simp)
  replace b0 := b0.trans (hb.mono b0.size)
  clear hb
  clear n5 g5
  obtain ⟨a5, k5, rfl⟩ := o5.shape
  go_wp2_with fail
  refine (eqInstances_k (.slice a3 q3.length k3) (.slice a5 q5.length k5) q3 q5 w10 o3.at o5.at (e3.trans e5.symm) hl3).mono ?_
  rintro e w11 ⟨rfl, hb⟩
  replace A0 := A0.below hb
  replace S0 := S0.below hb
  replace X0 := X0.below hb
  replace Y0 := Y0.below hb
  replace os := os.below hb
  replace o3 := o3.below hb
  replace oi := oi.below hb
  replace o4 := instK.own_out (F := []) o4 (Out.of_below hb) (fun _ _ => by simp)
  replace b0 := b0.trans (hb.mono b0.size)
  clear hb
  clear o5 e5
  go_wp2_with fail
  have hW : Below w11.heap.size w11 w11.drew := (Below.refl _ _).drew
  have hnn : Nonempty (Lat w11) := ⟨⟨w11, Below.refl _ _⟩⟩
  have c0 := A0.lat 0 _ rfl
  have c1 := A0.lat 1 _ rfl
  have c2 := A0.lat 2 _ rfl
  have c3 := A0.lat 3 _ rfl
  have d0 := X0.lat 0 _ rfl
  have d1 := X0.lat 1 _ rfl
  have d2 := X0.lat 2 _ rfl
  have d3 := X0.lat 3 _ rfl
  refine text_begin (S := fun w' => ∃ u : Lat w11, w' = u.val) (by kernel_rfl) ?_
  refine seg_range [(0, 2)] 3 (by kernel_rfl) (by kernel_rfl) (by kernel_rfl) (by kernel_rfl) (by kernel_rfl) ⟨⟨_, hW⟩, rfl⟩ ?_
  simp only [pickR, List.toList_toArray, List.flatMap_cons, List.flatMap_nil, List.drop_succ_cons, List.drop_zero, List.take_succ_cons, List.take_zero, List.cons_append, List.nil_append, List.append_nil]
  repeat go_big_quiet_step (fail)
  refine wpQuiet_nil ?_
  refine call_at 2 (some 47) 52 #[.agg #[.bool has, .slice ba batch.length bk, .slice va rounds.length vk, .slice da dec.length dk]] 2 (by kernel_rfl) (by kernel_rfl) (by kernel_rfl) (by kernel_rfl) (by kernel_rfl) ?_
  refine (htoI _ (hrbI _ (b0.trans (hW.mono b0.size))) hl').mono ?_
  rintro e wz ⟨q9, rfl, e9, o9, n9, g9, hb9⟩
  replace hW := hW.trans (hb9.mono hW.size)
  clear n9 g9
  clear hb9
  refine ⟨_, rfl, ⟨⟨_, hW⟩, rfl⟩, ?_⟩
  simp only [Act.put, List.setIfInBounds_toArray, List.set_cons_zero, List.set_cons_succ]
  refine call_at 3 (some 48) 53 #[.agg #[.bool has4, .slice ba4 batch4.length bk4, .slice va4 rounds4.length vk4, .slice da4 dec4.length dk4], .agg #[.bool q9.has, q9.vb, q9.vr, q9.vd]] 1 (by kernel_rfl) (by kernel_rfl) (by kernel_rfl) (by kernel_rfl) (by kernel_rfl) ?_
  refine (eqInstance_k (⟨has4, .slice ba4 batch4.length bk4, batch4, .slice va4 rounds4.length vk4, rounds4, .slice da4 dec4.length dk4, dec4⟩ : InstQ) q9 _ (instK.rd_below (instK.own_rd o4) hW) (instK.own_rd o9) (e4.trans e9.symm) hl4).mono ?_
  rintro e wz ⟨rfl, hb9⟩
  replace hW := hW.trans (hb9.mono hW.size)
  clear hb9
  refine ⟨_, rfl, ⟨⟨_, hW⟩, rfl⟩, ?_⟩
  simp only [Act.put, List.setIfInBounds_toArray, List.set_cons_zero, List.set_cons_succ]
  refine seg_range [(4, 1)] 0 (by kernel_rfl) (by kernel_rfl) (by kernel_rfl) (by kernel_rfl) (by kernel_rfl) ⟨⟨_, hW⟩, rfl⟩ ?_
  simp only [pickR, List.toList_toArray, List.flatMap_cons, List.flatMap_nil, List.drop_succ_cons, List.drop_zero, List.take_succ_cons, List.take_zero, List.cons_append, List.nil_append, List.append_nil]
  repeat go_big_quiet_step (fail)
  refine wpQuiet_nil ?_
  refine text_end (by kernel_rfl) ?_
  clear c0 c1 c2 c3 d0 d1 d2 d3 hnn o9 e9
  replace A0 := A0.below hW
  replace S0 := S0.below hW
  replace X0 := X0.below hW
  replace Y0 := Y0.below hW
  replace os := os.below hW
  replace o3 := o3.below hW
  replace oi := oi.below hW
  replace o4 := instK.own_out (F := []) o4 (Out.of_below hW) (fun _ _ => by simp)
  replace b0 := b0.trans (hW.mono b0.size)
  clear hW
  go_wp2_with fail
  have hm3 := nmInsS_le q3
  refine (markInstances_k (.slice a3 q3.length k3) q3 1 _ o3 n3 hl3 (by omega) (by omega)).mono ?_
  rintro e w13 ⟨rfl, _, hU⟩
  have hNU : ∀ k, k ∈ instK.fp (.slice a3 q3.length k3) q3 → w5.heap.size ≤ k ∧ k < w6.heap.size := u3
  replace A0 := A0.outs hU (fun hk => by have := hNU _ hk; omega)
  replace S0 := S0.outs hU (fun hk => by have := hNU _ hk; omega)
  replace X0 := X0.outs hU (fun hk => by have := hNU _ hk; omega)
  replace Y0 := Y0.outs hU (fun hk => by have := hNU _ hk; omega)
  replace os := os.out hU (fun k hk hk' => by have := hNU _ hk'; have := us k hk; omega)
  replace oi := oi.out hU (fun k hk hk' => by have := hNU _ hk'; have := ui k hk; omega)
  replace o4 := instK.own_out o4 hU (fun k hk hk' => by have := hNU _ hk'; have := u4 k hk; omega)
  replace b0 := Out.keep b0 hU b0.size (fun k hk => by have := hNU _ hk; omega)
  clear hNU hU
  clear o3
  generalize hM3 : (nmL nmInsS q3 : Int) = M3 at *
  have hm3' : 0 ≤ M3 ∧ M3 ≤ 3145728 := by omega
  clear hm3 hM3
  have p0 := X0.cell 0 _ rfl
  have p1 := X0.cell 1 _ rfl
  have p2 := X0.cell 2 _ rfl
  have p3 := X0.cell 3 _ rfl
  go_wp2_with fail
  clear p0 p1 p2 p3
  have hm4 := nmInst_le (⟨has4, .slice ba4 batch4.length bk4, batch4, .slice va4 rounds4.length vk4, rounds4, .slice da4 dec4.length dk4, dec4⟩ : InstQ)
  refine (markInstance_k (⟨has4, .slice ba4 batch4.length bk4, batch4, .slice va4 rounds4.length vk4, rounds4, .slice da4 dec4.length dk4, dec4⟩ : InstQ) (1 + M3) w13 o4 n4 hl4 (by omega) (by omega)).mono ?_
  rintro e w14 ⟨rfl, _, hU⟩
  have hNU : ∀ k, k ∈ instK.foot (⟨has4, .slice ba4 batch4.length bk4, batch4, .slice va4 rounds4.length vk4, rounds4, .slice da4 dec4.length dk4, dec4⟩ : InstQ) → w6.heap.size ≤ k ∧ k < w7.heap.size := u4
  replace A0 := A0.outs hU (fun hk => by have := hNU _ hk; omega)
  replace S0 := S0.outs hU (fun hk => by have := hNU _ hk; omega)
  replace X0 := X0.outs hU (fun hk => by have := hNU _ hk; omega)
  replace Y0 := Y0.outs hU (fun hk => by have := hNU _ hk; omega)
  replace os := os.out hU (fun k hk hk' => by have := hNU _ hk'; have := us k hk; omega)
  replace oi := oi.out hU (fun k hk hk' => by have := hNU _ hk'; have := ui k hk; omega)
  replace b0 := Out.keep b0 hU b0.size (fun k hk => by have := hNU _ hk; omega)
  clear hNU hU
  clear o4
  generalize hM4 : (nmInst (⟨has4, .slice ba4 batch4.length bk4, batch4, .slice va4 rounds4.length vk4, rounds4, .slice da4 dec4.length dk4, dec4⟩ : InstQ) : Int) = M4 at *
  have hm4' : 0 ≤ M4 ∧ M4 ≤ 3145728 := by omega
  have hpos : ¬ (1 + M3 + M4 < 0) := by omega
  clear hm4 hM4
  have p0 := Y0.cell 0 _ rfl
  have p1 := Y0.cell 1 _ rfl
  have r0 := S0.cell 0 _ rfl
  have r1 := S0.cell 1 _ rfl
  go_wp2_with fail
  clear p0 p1
  clear r0 r1
  refine (eqORR_k D (.slice ai qi.length ki) (.slice as_ qs.length ks_) qi qs _ oi.at os.at (ei.trans es.symm) hli).mono ?_
  rintro e w15 ⟨rfl, hb⟩
  replace A0 := A0.below hb
  replace S0 := S0.below hb
  replace X0 := X0.below hb
  replace Y0 := Y0.below hb
  replace os := os.below hb
  replace oi := oi.below hb
  replace b0 := b0.trans (hb.mono b0.size)
  clear hb
  have p0 := Y0.cell 0 _ rfl
  have p1 := Y0.cell 1 _ rfl
  go_wp2_with fail
  clear p0 p1
  have hmi := nmInsS_le qi
  refine (markORR_k D (.slice ai qi.length ki) qi 1 w15 oi ni hli (by omega) (by omega)).mono ?_
  rintro e w16 ⟨rfl, om, hU⟩
  have hNU : ∀ k, k ∈ instK.fp (.slice ai qi.length ki) qi → w7.heap.size < k ∧ k < w8.heap.size := ui
  replace A0 := A0.outs hU (fun hk => by have := hNU _ hk; omega)
  replace S0 := S0.outs hU (fun hk => by have := hNU _ hk; omega)
  replace X0 := X0.outs hU (fun hk => by have := hNU _ hk; omega)
  replace Y0 := Y0.outs hU (fun hk => by have := hNU _ hk; omega)
  replace os := os.out hU (fun k hk hk' => by have := hNU _ hk'; have := us k hk; omega)
  replace b0 := Out.keep b0 hU b0.size (fun k hk => by have := hNU _ hk; omega)
  clear hNU hU
  clear oi
  have rm := om.at
  clear om
  have hmm : Hid (∀ w', Below w16.heap.size w16 w' → instK.At w' (.slice ai qi.length ki) (mkL mkInsS nmInsS 1 qi)) := fun w' hb => rm.below hb
  have hbq : Below w16.heap.size w16 w16 := Below.refl _ _
  have hhe := fun w h => heldORR_k D (.slice ai qi.length ki) qi 1 w h hli (by omega) (by omega)
  generalize hMi : (nmL nmInsS qi : Int) = Mi at *
  have hmi' : 0 ≤ Mi ∧ Mi ≤ 3145728 := by omega
  have hpi : ¬ (1 + Mi < 0) := by omega
  have hne : ((1 + Mi) != (1 + Mi)) = false := by simp
  clear hmi hMi rm
  have p0 := Y0.cell 0 _ rfl
  have p1 := Y0.cell 1 _ rfl
  go_wp2_with fail
  clear p0 p1
  refine (hhe w16 (hmm.out _ hbq)).mono ?_
  rintro e X ⟨rfl, hb⟩
  replace hbq := hbq.trans (hb.mono hbq.size)
  replace A0 := A0.below hb
  replace S0 := S0.below hb
  replace X0 := X0.below hb
  replace Y0 := Y0.below hb
  replace os := os.below hb
  replace b0 := b0.trans (hb.mono b0.size)
  clear hb
  go_wp2_with fail
  have bX := b0
  have c0 := A0.lat 0 _ rfl
  have c1 := A0.lat 1 _ rfl
  have c2 := A0.lat 2 _ rfl
  have c3 := A0.lat 3 _ rfl
  refine region_vals [some 75, some 76, some 77, some 78, some 79, some 13] (fun vs w' => ∃ (v25 v27 : Value) (ah : Option Addr) (kh g : Nat) (qh : List InstQ), vs = [.slice a ps.length cap, v25, .agg #[.bool has, .slice ba batch.length bk, .slice va rounds.length vk, .slice da dec.length dk], v27, .agg #[.int .i64 D, .slice ah qh.length kh], .pointer (some ⟨g, 0, none⟩)] ∧ X.heap.size ≤ g ∧ Blk w' g 53 #[.int .i64 D, .slice ah qh.length kh] ∧ qh.map InstQ.e = E ∧ instK.Own w' (.slice ah qh.length kh) qh ∧ (∀ k ∈ instK.fp (.slice ah qh.length kh) qh, X.heap.size ≤ k ∧ k ≠ g) ∧ Below X.heap.size X w') ?_ ?_
  · have hW : Below X.heap.size X X.drew := (Below.refl _ _).drew
    have hnn : Nonempty (Lat X) := ⟨⟨X, Below.refl _ _⟩⟩
    refine text_begin (S := fun w' => ∃ u : Lat X, w' = u.val) (by kernel_rfl) ?_
    refine seg_range [(0, 1), (2, 1)] 5 (by kernel_rfl) (by kernel_rfl) (by kernel_rfl) (by kernel_rfl) (by kernel_rfl) ⟨⟨_, hW⟩, rfl⟩ ?_
    simp only [pickR, List.toList_toArray, List.flatMap_cons, List.flatMap_nil, List.drop_succ_cons, List.drop_zero, List.take_succ_cons, List.take_zero, List.cons_append, List.nil_append, List.append_nil]
    repeat go_big_quiet_step (fail)
    refine wpQuiet_nil ?_
    clear c0 c1 c2 c3
    generalize X.drew = wd at hW ⊢
    refine two_at 1 5 4 (by kernel_rfl) (by kernel_rfl) ?_ ?_
    · skip
      refine op_call 1 (some 76) 37 #[.slice a ps.length cap] (by kernel_rfl) (by kernel_rfl) (by kernel_rfl) ?_
      refine (hto _ (hrb _ (bX.trans (hW.mono bX.size))) hl).mono ?_
      rintro e x14 ⟨v1, q1, rfl, e1, o1, n1, g1, hb⟩
      clear n1 g1
      obtain ⟨a1, k1, rfl⟩ := o1.shape
      replace hW := hW.trans (hb.mono hW.size)
      clear hb
      refine ⟨_, rfl, ⟨⟨_, hW⟩, rfl⟩, ?_⟩
      simp only [Act.put, List.getElem_toArray, List.getElem_cons_succ, List.getElem_cons_zero, List.setIfInBounds_toArray, List.set_cons_zero, List.set_cons_succ]
      refine two_at 3 5 3 (by kernel_rfl) (by kernel_rfl) ?_ ?_
      · skip
        refine op_call 3 (some 78) 52 #[.agg #[.bool has, .slice ba batch.length bk, .slice va rounds.length vk, .slice da dec.length dk]] (by kernel_rfl) (by kernel_rfl) (by kernel_rfl) ?_
        refine (htoI _ (hrbI _ (bX.trans (hW.mono bX.size))) hl').mono ?_
        rintro e x15 ⟨q2, rfl, e2, o2, n2, g2, hb⟩
        clear n2 g2
        replace o1 := o1.below hb
        replace hW := hW.trans (hb.mono hW.size)
        clear hb
        refine ⟨_, rfl, ⟨⟨_, hW⟩, rfl⟩, ?_⟩
        simp only [Act.put, List.getElem_toArray, List.getElem_cons_succ, List.getElem_cons_zero, List.setIfInBounds_toArray, List.set_cons_zero, List.set_cons_succ]
        refine two_at 4 5 2 (by kernel_rfl) (by kernel_rfl) ?_ ?_
        · skip
          refine op_call 4 (some 79) 28 #[.slice a1 q1.length k1, .agg #[.bool q2.has, q2.vb, q2.vr, q2.vd]] (by kernel_rfl) (by kernel_rfl) (by kernel_rfl) ?_
          refine (him _ q1 q2 e1 e2 _ (hG.below (bX.trans (hW.mono bX.size))) o1 (instK.own_rd o2) (by rw [hqn q1 e1]; exact hl) (by rw [hqm q2 e2]; exact hl')).mono ?_
          rintro e x16 ⟨vh, qh, rfl, es, oh, nh, gh, hb⟩
          have glo : ∀ k ∈ instK.fp vh qh, X.heap.size ≤ k := fun k hk => by have := gh k hk; have := hW.size; omega
          obtain ⟨ah, kh, rfl⟩ := oh.shape
          replace hW := hW.trans (hb.mono hW.size)
          clear hb
          refine ⟨_, rfl, ⟨⟨_, hW⟩, rfl⟩, ?_⟩
          simp only [Act.put, List.getElem_toArray, List.getElem_cons_succ, List.getElem_cons_zero, List.setIfInBounds_toArray, List.set_cons_zero, List.set_cons_succ]
          refine one_at 5 _ 1 (by kernel_rfl) rfl (by kernel_rfl) ?_
          have Bz := Blk.new x16 53 #[.int .i64 0, .slice none 0 0]
          have hzz : X.heap.size ≤ x16.heap.size := hW.size
          have hba : Below x16.heap.size x16 (x16.alloc (.cells #[.int .i64 0, .slice none 0 0] 53)) := by go_grown
          have gne : ∀ k ∈ instK.fp (.slice ah qh.length kh) qh, k ≠ x16.heap.size := fun k hk => by have := oh.lt k hk; omega
          replace oh := oh.below hba
          replace hW := hW.trans (hba.mono hW.size)
          clear hba
          go_wp2
          refine ThenGo.to ⟨⟨⟨_, hW⟩, rfl⟩, ?_⟩
          generalize hGy17 : x16.heap.size = g at *
          clear hGy17
          generalize x16.alloc (.cells #[.int .i64 0, .slice none 0 0] 53) = y17 at *
          refine one_at 6 _ 0 (by kernel_rfl) rfl (by kernel_rfl) ?_
          have hgW : X.heap.size ≤ g := by omega
          have Rz := Bz.row #[.int .i64 D, .slice ah qh.length kh]
          have oz := oh.out (out_row _ g #[.int .i64 D, .slice ah qh.length kh]) (fun k hk => by simp only [List.mem_singleton]; exact gne k hk)
          replace hW := below_row hW hgW #[.int .i64 D, .slice ah qh.length kh]
          refine st_row (by kernel_rfl) 53 _ _ rfl _ #[.int .i64 D, .slice ah qh.length kh] rfl rfl 53 _ Bz sz_ord rfl (by simp [Value.oneCell']) ?_
          refine ThenGo.to ⟨⟨⟨_, hW⟩, rfl⟩, ?_⟩
          refine text_end (by kernel_rfl) ?_
          refine ⟨rfl, _, ⟨.slice a1 q1.length k1, .agg #[.bool q2.has, q2.vb, q2.vr, q2.vd], ah, kh, g, qh, rfl, hgW, Rz, es, oz, fun k hk => ⟨glo k hk, gne k hk⟩, hW⟩, ?_⟩
          simp only [putAll, Act.put, List.getElem_toArray, List.getElem_cons_succ, List.getElem_cons_zero, List.setIfInBounds_toArray, List.set_cons_zero, List.set_cons_succ]
          try rfl
        · skip
          refine op_one 5 _ rfl ?_
          have Bz := Blk.new x15 53 #[.int .i64 0, .slice none 0 0]
          have hzz : X.heap.size ≤ x15.heap.size := hW.size
          have hba : Below x15.heap.size x15 (x15.alloc (.cells #[.int .i64 0, .slice none 0 0] 53)) := by go_grown
          replace o1 := o1.below hba
          replace o2 := instK.own_out (F := []) o2 (Out.of_below hba) (fun _ _ => by simp)
          replace hW := hW.trans (hba.mono hW.size)
          clear hba
          go_wp2
          refine ThenGo.to ⟨⟨⟨_, hW⟩, rfl⟩, ?_⟩
          generalize hGy18 : x15.heap.size = g at *
          clear hGy18
          generalize x15.alloc (.cells #[.int .i64 0, .slice none 0 0] 53) = y18 at *
          refine call_at 4 (some 79) 28 #[.slice a1 q1.length k1, .agg #[.bool q2.has, q2.vb, q2.vr, q2.vd]] 1 (by kernel_rfl) (by kernel_rfl) (by kernel_rfl) (by kernel_rfl) (by kernel_rfl) ?_
          refine (him _ q1 q2 e1 e2 _ (hG.below (bX.trans (hW.mono bX.size))) o1 (instK.own_rd o2) (by rw [hqn q1 e1]; exact hl) (by rw [hqm q2 e2]; exact hl')).mono ?_
          rintro e x19 ⟨vh, qh, rfl, es, oh, nh, gh, hb⟩
          have glo : ∀ k ∈ instK.fp vh qh, X.heap.size ≤ k := fun k hk => by have := gh k hk; have := hW.size; omega
          have hBzl := Bz.lt
          have gne : ∀ k ∈ instK.fp vh qh, k ≠ g := fun k hk => by have := gh k hk; omega
          obtain ⟨ah, kh, rfl⟩ := oh.shape
          replace Bz := Bz.below hb
          replace hW := hW.trans (hb.mono hW.size)
          clear hb
          refine ⟨_, rfl, ⟨⟨_, hW⟩, rfl⟩, ?_⟩
          simp only [Act.put, List.getElem_toArray, List.getElem_cons_succ, List.getElem_cons_zero, List.setIfInBounds_toArray, List.set_cons_zero, List.set_cons_succ]
          refine one_at 6 _ 0 (by kernel_rfl) rfl (by kernel_rfl) ?_
          have hgW : X.heap.size ≤ g := by omega
          have Rz := Bz.row #[.int .i64 D, .slice ah qh.length kh]
          have oz := oh.out (out_row _ g #[.int .i64 D, .slice ah qh.length kh]) (fun k hk => by simp only [List.mem_singleton]; exact gne k hk)
          replace hW := below_row hW hgW #[.int .i64 D, .slice ah qh.length kh]
          refine st_row (by kernel_rfl) 53 _ _ rfl _ #[.int .i64 D, .slice ah qh.length kh] rfl rfl 53 _ Bz sz_ord rfl (by simp [Value.oneCell']) ?_
          refine ThenGo.to ⟨⟨⟨_, hW⟩, rfl⟩, ?_⟩
          refine text_end (by kernel_rfl) ?_
          refine ⟨rfl, _, ⟨.slice a1 q1.length k1, .agg #[.bool q2.has, q2.vb, q2.vr, q2.vd], ah, kh, g, qh, rfl, hgW, Rz, es, oz, fun k hk => ⟨glo k hk, gne k hk⟩, hW⟩, ?_⟩
          simp only [putAll, Act.put, List.getElem_toArray, List.getElem_cons_succ, List.getElem_cons_zero, List.setIfInBounds_toArray, List.set_cons_zero, List.set_cons_succ]
          try rfl
      · skip
        refine op_one 5 _ rfl ?_
        have Bz := Blk.new x14 53 #[.int .i64 0, .slice none 0 0]
        have hzz : X.heap.size ≤ x14.heap.size := hW.size
        have hba : Below x14.heap.size x14 (x14.alloc (.cells #[.int .i64 0, .slice none 0 0] 53)) := by go_grown
        replace o1 := o1.below hba
        replace hW := hW.trans (hba.mono hW.size)
        clear hba
        go_wp2
        refine ThenGo.to ⟨⟨⟨_, hW⟩, rfl⟩, ?_⟩
        generalize hGy20 : x14.heap.size = g at *
        clear hGy20
        generalize x14.alloc (.cells #[.int .i64 0, .slice none 0 0] 53) = y20 at *
        refine call_at 3 (some 78) 52 #[.agg #[.bool has, .slice ba batch.length bk, .slice va rounds.length vk, .slice da dec.length dk]] 2 (by kernel_rfl) (by kernel_rfl) (by kernel_rfl) (by kernel_rfl) (by kernel_rfl) ?_
        refine (htoI _ (hrbI _ (bX.trans (hW.mono bX.size))) hl').mono ?_
        rintro e x21 ⟨q2, rfl, e2, o2, n2, g2, hb⟩
        clear n2 g2
        replace o1 := o1.below hb
        replace Bz := Bz.below hb
        replace hW := hW.trans (hb.mono hW.size)
        clear hb
        refine ⟨_, rfl, ⟨⟨_, hW⟩, rfl⟩, ?_⟩
        simp only [Act.put, List.getElem_toArray, List.getElem_cons_succ, List.getElem_cons_zero, List.setIfInBounds_toArray, List.set_cons_zero, List.set_cons_succ]
        refine call_at 4 (some 79) 28 #[.slice a1 q1.length k1, .agg #[.bool q2.has, q2.vb, q2.vr, q2.vd]] 1 (by kernel_rfl) (by kernel_rfl) (by kernel_rfl) (by kernel_rfl) (by kernel_rfl) ?_
        refine (him _ q1 q2 e1 e2 _ (hG.below (bX.trans (hW.mono bX.size))) o1 (instK.own_rd o2) (by rw [hqn q1 e1]; exact hl) (by rw [hqm q2 e2]; exact hl')).mono ?_
        rintro e x22 ⟨vh, qh, rfl, es, oh, nh, gh, hb⟩
        have glo : ∀ k ∈ instK.fp vh qh, X.heap.size ≤ k := fun k hk => by have := gh k hk; have := hW.size; omega
        have hBzl := Bz.lt
        have gne : ∀ k ∈ instK.fp vh qh, k ≠ g := fun k hk => by have := gh k hk; omega
        obtain ⟨ah, kh, rfl⟩ := oh.shape
        replace Bz := Bz.below hb
        replace hW := hW.trans (hb.mono hW.size)
        clear hb
        refine ⟨_, rfl, ⟨⟨_, hW⟩, rfl⟩, ?_⟩
        simp only [Act.put, List.getElem_toArray, List.getElem_cons_succ, List.getElem_cons_zero, List.setIfInBounds_toArray, List.set_cons_zero, List.set_cons_succ]
        refine one_at 6 _ 0 (by kernel_rfl) rfl (by kernel_rfl) ?_
        have hgW : X.heap.size ≤ g := by omega
        have Rz := Bz.row #[.int .i64 D, .slice ah qh.length kh]
        have oz := oh.out (out_row _ g #[.int .i64 D, .slice ah qh.length kh]) (fun k hk => by simp only [List.mem_singleton]; exact gne k hk)
        replace hW := below_row hW hgW #[.int .i64 D, .slice ah qh.length kh]
        refine st_row (by kernel_rfl) 53 _ _ rfl _ #[.int .i64 D, .slice ah qh.length kh] rfl rfl 53 _ Bz sz_ord rfl (by simp [Value.oneCell']) ?_
        refine ThenGo.to ⟨⟨⟨_, hW⟩, rfl⟩, ?_⟩
        refine text_end (by kernel_rfl) ?_
        refine ⟨rfl, _, ⟨.slice a1 q1.length k1, .agg #[.bool q2.has, q2.vb, q2.vr, q2.vd], ah, kh, g, qh, rfl, hgW, Rz, es, oz, fun k hk => ⟨glo k hk, gne k hk⟩, hW⟩, ?_⟩
        simp only [putAll, Act.put, List.getElem_toArray, List.getElem_cons_succ, List.getElem_cons_zero, List.setIfInBounds_toArray, List.set_cons_zero, List.set_cons_succ]
        try rfl
    · skip
      refine op_one 5 _ rfl ?_
      have Bz := Blk.new wd 53 #[.int .i64 0, .slice none 0 0]
      have hzz : X.heap.size ≤ wd.heap.size := hW.size
      have hba : Below wd.heap.size wd (wd.alloc (.cells #[.int .i64 0, .slice none 0 0] 53)) := by go_grown
      replace hW := hW.trans (hba.mono hW.size)
      clear hba
      go_wp2
      refine ThenGo.to ⟨⟨⟨_, hW⟩, rfl⟩, ?_⟩
      generalize hGy23 : wd.heap.size = g at *
      clear hGy23
      generalize wd.alloc (.cells #[.int .i64 0, .slice none 0 0] 53) = y23 at *
      refine call_at 1 (some 76) 37 #[.slice a ps.length cap] 3 (by kernel_rfl) (by kernel_rfl) (by kernel_rfl) (by kernel_rfl) (by kernel_rfl) ?_
      refine (hto _ (hrb _ (bX.trans (hW.mono bX.size))) hl).mono ?_
      rintro e x24 ⟨v1, q1, rfl, e1, o1, n1, g1, hb⟩
      clear n1 g1
      obtain ⟨a1, k1, rfl⟩ := o1.shape
      replace Bz := Bz.below hb
      replace hW := hW.trans (hb.mono hW.size)
      clear hb
      refine ⟨_, rfl, ⟨⟨_, hW⟩, rfl⟩, ?_⟩
      simp only [Act.put, List.getElem_toArray, List.getElem_cons_succ, List.getElem_cons_zero, List.setIfInBounds_toArray, List.set_cons_zero, List.set_cons_succ]
      refine call_at 3 (some 78) 52 #[.agg #[.bool has, .slice ba batch.length bk, .slice va rounds.length vk, .slice da dec.length dk]] 2 (by kernel_rfl) (by kernel_rfl) (by kernel_rfl) (by kernel_rfl) (by kernel_rfl) ?_
      refine (htoI _ (hrbI _ (bX.trans (hW.mono bX.size))) hl').mono ?_
      rintro e x25 ⟨q2, rfl, e2, o2, n2, g2, hb⟩
      clear n2 g2
      replace o1 := o1.below hb
      replace Bz := Bz.below hb
      replace hW := hW.trans (hb.mono hW.size)
      clear hb
      refine ⟨_, rfl, ⟨⟨_, hW⟩, rfl⟩, ?_⟩
      simp only [Act.put, List.getElem_toArray, List.getElem_cons_succ, List.getElem_cons_zero, List.setIfInBounds_toArray, List.set_cons_zero, List.set_cons_succ]
      refine call_at 4 (some 79) 28 #[.slice a1 q1.length k1, .agg #[.bool q2.has, q2.vb, q2.vr, q2.vd]] 1 (by kernel_rfl) (by kernel_rfl) (by kernel_rfl) (by kernel_rfl) (by kernel_rfl) ?_
      refine (him _ q1 q2 e1 e2 _ (hG.below (bX.trans (hW.mono bX.size))) o1 (instK.own_rd o2) (by rw [hqn q1 e1]; exact hl) (by rw [hqm q2 e2]; exact hl')).mono ?_
      rintro e x26 ⟨vh, qh, rfl, es, oh, nh, gh, hb⟩
      have glo : ∀ k ∈ instK.fp vh qh, X.heap.size ≤ k := fun k hk => by have := gh k hk; have := hW.size; omega
      have hBzl := Bz.lt
      have gne : ∀ k ∈ instK.fp vh qh, k ≠ g := fun k hk => by have := gh k hk; omega
      obtain ⟨ah, kh, rfl⟩ := oh.shape
      replace Bz := Bz.below hb
      replace hW := hW.trans (hb.mono hW.size)
      clear hb
      refine ⟨_, rfl, ⟨⟨_, hW⟩, rfl⟩, ?_⟩
      simp only [Act.put, List.getElem_toArray, List.getElem_cons_succ, List.getElem_cons_zero, List.setIfInBounds_toArray, List.set_cons_zero, List.set_cons_succ]
      refine one_at 6 _ 0 (by kernel_rfl) rfl (by kernel_rfl) ?_
      have hgW : X.heap.size ≤ g := by omega
      have Rz := Bz.row #[.int .i64 D, .slice ah qh.length kh]
      have oz := oh.out (out_row _ g #[.int .i64 D, .slice ah qh.length kh]) (fun k hk => by simp only [List.mem_singleton]; exact gne k hk)
      replace hW := below_row hW hgW #[.int .i64 D, .slice ah qh.length kh]
      refine st_row (by kernel_rfl) 53 _ _ rfl _ #[.int .i64 D, .slice ah qh.length kh] rfl rfl 53 _ Bz sz_ord rfl (by simp [Value.oneCell']) ?_
      refine ThenGo.to ⟨⟨⟨_, hW⟩, rfl⟩, ?_⟩
      refine text_end (by kernel_rfl) ?_
      refine ⟨rfl, _, ⟨.slice a1 q1.length k1, .agg #[.bool q2.has, q2.vb, q2.vr, q2.vd], ah, kh, g, qh, rfl, hgW, Rz, es, oz, fun k hk => ⟨glo k hk, gne k hk⟩, hW⟩, ?_⟩
      simp only [putAll, Act.put, List.getElem_toArray, List.getElem_cons_succ, List.getElem_cons_zero, List.setIfInBounds_toArray, List.set_cons_zero, List.set_cons_succ]
      try rfl
  rintro vs w20 ⟨v25, v27, ah, kh, gH, qh, rfl, hgH, H0, eh, oh, _, hX5⟩
  simp only [putAll, Act.put, List.setIfInBounds_toArray, List.set_cons_zero, List.set_cons_succ]
  clear c0 c1 c2 c3
  replace hbq := hbq.trans (hX5.mono hbq.size)
  replace A0 := A0.below hX5
  replace S0 := S0.below hX5
  replace X0 := X0.below hX5
  replace Y0 := Y0.below hX5
  replace os := os.below hX5
  replace b0 := b0.trans (hX5.mono b0.size)
  clear hX5
  clear him hto htoI bX
  have hlh : qh.length + nmL InstQ.n qh ≤ 1048576 := hqs.out qh eh
  have p0 := H0.cell 0 _ rfl
  have p1 := H0.cell 1 _ rfl
  have r0 := S0.cell 0 _ rfl
  have r1 := S0.cell 1 _ rfl
  go_wp2_with fail
  clear p0 p1
  clear r0 r1
  refine (eqORR_k D (.slice ah qh.length kh) (.slice as_ qs.length ks_) qh qs _ oh.at os.at (eh.trans es.symm) hlh).mono ?_
  rintro e w21 ⟨rfl, hb⟩
  replace hbq := hbq.trans (hb.mono hbq.size)
  replace A0 := A0.below hb
  replace S0 := S0.below hb
  replace X0 := X0.below hb
  replace Y0 := Y0.below hb
  replace H0 := H0.below hb
  replace os := os.below hb
  replace oh := oh.below hb
  replace b0 := b0.trans (hb.mono b0.size)
  clear hb
  have p0 := Y0.cell 0 _ rfl
  have p1 := Y0.cell 1 _ rfl
  go_wp2_with fail
  clear p0 p1
  refine (hhe w21 (hmm.out _ hbq)).mono ?_
  rintro e w22 ⟨rfl, hb⟩
  replace b0 := b0.trans (hb.mono b0.size)
  clear hb hhe hmm hbq A0 S0 X0 Y0 H0 os oh
  go_wp2
  go_ret
  exact ⟨rfl, b0⟩

end Go.Proofs.YtmgkjcobdmdjmaaGreatDoor
namespace Go.Proofs.YtmgkjcobdmdjmaaGreatDoor
open Go.RowKit Go.Deep Go.ChangeShapes Go.WideShapes
set_option linter.unusedVariables false
set_option maxRecDepth 100000
set_option linter.unusedSimpArgs false
section
variable {H : Type} {enc : TypeId × Value → H} {w : World} {base : Nat} {spare : Nat → Bool} {held : Bool}
theorem open_instK (n : Nat) (l : List Value) (y : DataW H × List MemPlace) (h : DataW.trod enc Tryz.prog w base spare held n 78 l = some y) : ∃ p : InstQ, l = instK.cells p ∧ instK.rd w p ∧ InstQ.wf p := by
  obtain ⟨p, e, h1, h2⟩ := open_instCells h
  exact ⟨p, e, h1, h2⟩

theorem open_instsV {r : Reach} {b0 : Nat} {v : Value} {d : DataW H} {p : List MemPlace} (hv : Value.okWide Tryz.prog w r b0 63 v) (h : DataW.Trod enc Tryz.prog w base spare held 63 v d p) :
    ∃ ps : List InstQ, instK.At w v ps ∧ ps.length ≤ 9223372036854775807 ∧ ∀ p ∈ ps, InstQ.wf p := by
  obtain ⟨a0, len0, cap0, rfl⟩ := okWide_slice Tryz.underlying63 hv
  obtain ⟨fuel, hf⟩ := h
  obtain ⟨v, ps, e, h1, h2, h3⟩ := open_kind instK InstQ.wf Tryz.underlying63 (by kernel_rfl) (by decide) open_instK hf
  simp [Value.cells] at e
  rw [← e] at h1
  exact ⟨ps, h1, h2, h3⟩

end
end Go.Proofs.YtmgkjcobdmdjmaaGreatDoor
