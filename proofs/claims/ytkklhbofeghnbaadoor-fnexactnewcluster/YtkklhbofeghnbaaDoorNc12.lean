/- NewCluster, of the program and of the model. The condition: impl.openRow starts as the program's text lays it. -/
import Derived.Test.YtkklhbofeghnbaaDoorNW
import Derived.Test.YtkklhbofeghnbaaDoorJC
namespace Go.Proofs.YtkklhbofeghnbaaDoor
open Go.RowKit
open Go.BigFrame
set_option linter.unusedVariables false
set_option linter.unusedSimpArgs false
set_option maxRecDepth 100000

/-- A new cluster. -/
def newC : CluE := ⟨[newE], List.replicate 3 ⟨0, 0, ⟨[], [], [], [], []⟩⟩⟩
theorem newC_e {q : InstQ} {vo vm : Value} (h : q.e = newE) : (⟨vo, [q], vm, List.replicate 3 (⟨0, 0, .slice none 0 0, [], .slice none 0 0, [], .slice none 0 0, [], .slice none 0 0, [], .slice none 0 0, []⟩ : NodeQ)⟩ : CluQ).e = newC := by
  show (⟨[q.e], _⟩ : CluE) = newC
  rw [h]
  rfl
theorem newC_own {x : World} {gB gM B : Nat} (q : InstQ) (z : NodeQ) (hz : nodeK.foot z = []) (oB : x.ownsRow 0 39 4 (.slice (some ⟨gB, 0, none⟩) 1 1) 1 (instK.cells q)) (oq : instK.own x q) (oN : nodeK.Own x (.slice (some ⟨gM, 0, none⟩) 3 3) (List.replicate 3 z))
    (nq : (instK.foot q).Nodup) (lqB : ∀ k ∈ instK.foot q, k ≠ gB) (gm : ∀ k ∈ instK.foot q, k ≠ gM) (hBM : gB ≠ gM) (hzB : B < gB) (hzM : B < gM) (gq0 : ∀ k ∈ instK.foot q, B < k) :
    cluK.own x (⟨.slice (some ⟨gB, 0, none⟩) 1 1, [q], .slice (some ⟨gM, 0, none⟩) 3 3, List.replicate 3 z⟩ : CluQ) ∧ (cluK.foot (⟨.slice (some ⟨gB, 0, none⟩) 1 1, [q], .slice (some ⟨gM, 0, none⟩) 3 3, List.replicate 3 z⟩ : CluQ)).Nodup ∧ ∀ k ∈ cluK.foot (⟨.slice (some ⟨gB, 0, none⟩) 1 1, [q], .slice (some ⟨gM, 0, none⟩) 3 3, List.replicate 3 z⟩ : CluQ), B < k := by
  have e1 : instK.fp (.slice (some ⟨gB, 0, none⟩) 1 1) [q] = gB :: instK.foot q := by simp [Kind.fp, blk, Value.ownBlock]
  have e2 : nodeK.fp (.slice (some ⟨gM, 0, none⟩) 3 3) (List.replicate 3 z) = [gM] := by simp [Kind.fp, blk, Value.ownBlock, List.replicate, hz]
  have e3 : instK.row [q] = instK.cells q := by simp [Kind.row]
  have e : cluK.foot (⟨.slice (some ⟨gB, 0, none⟩) 1 1, [q], .slice (some ⟨gM, 0, none⟩) 3 3, List.replicate 3 z⟩ : CluQ) = (gB :: instK.foot q) ++ [gM] := by
    show instK.fp _ _ ++ nodeK.fp _ _ = _
    rw [e1, e2]
  refine ⟨⟨⟨by rw [e3]; exact oB, fun p hp => by simp only [List.mem_singleton] at hp; subst hp; exact oq⟩, oN⟩, ?_, ?_⟩
  · rw [e]
    refine List.nodup_append.2 ⟨List.nodup_cons.2 ⟨fun h => lqB _ h rfl, nq⟩, by simp, fun a ha b hb => ?_⟩
    simp only [List.mem_singleton] at hb
    subst hb
    rcases List.mem_cons.1 ha with ha | ha
    · subst ha; exact hBM
    · exact gm a ha
  · rw [e]
    intro k hk
    rcases List.mem_append.1 hk with hk | hk
    · rcases List.mem_cons.1 hk with hk | hk
      · omega
      · exact gq0 k hk
    · simp only [List.mem_singleton] at hk; omega

set_option maxHeartbeats 8000000 in
theorem l12New_any (w : World) :
    Calls Tryd.prog 9 #[] w fun e w' => ∃ p : CluQ, e = .returned (.agg #[p.vo, p.vm]) ∧ p.e = newC ∧ cluK.own w' p ∧ (cluK.foot p).Nodup ∧ (∀ k ∈ cluK.foot p, w.heap.size ≤ k) ∧ Below w.heap.size w w' := by
  obtain ⟨i0, hi, hz0, hz1, hz2⟩ := info_parts infoNode12
  have hby : i0.bytes * 3 ≤ 281474976710656 := by rw [hz2]; omega
  have hmx : 3 ≤ maxLen := by unfold maxLen; omega
  have hW : Below w.heap.size w (w.alloc (.cells #[.slice none 0 0, .slice none 0 0] 25)) := by go_grown
  have Rb := Blk.new w 25 #[.slice none 0 0, .slice none 0 0]
  go_enter Tryd.func9, Tryd.ntmps9
  go_wp2_with fail
  replace Rb := Rb.below ((Below.refl _ _).drew)
  replace hW := hW.drew
  have hnn : Nonempty (Lat w) := ⟨⟨w, Below.refl _ _⟩⟩
  refine text_begin (S := fun w' => ∃ u : Lat w, w' = u.val) (by kernel_rfl) ?_
  generalize (w.alloc (.cells #[.slice none 0 0, .slice none 0 0] 25)).drew = x at *
  refine twa 0 2 4 (by kernel_rfl) ?_ ?_
  · refine opc 0 (some 1) 14 #[] (by kernel_rfl) ?_
    have hX := Rb.lt
    refine (l6New_any _).mono ?_
    rintro e x ⟨q, rfl, eq, oq, nq, gq, hb⟩
    have gq0 : ∀ k ∈ instK.foot q, w.heap.size < k := fun k hk => by have := gq k hk; omega
    replace Rb := Rb.below hb
    replace hW := hW.trans (hb.mono hW.size)
    clear hb gq hX
    have lq : ∀ k ∈ instK.foot q, k < x.heap.size := fun k hk => instK.own_lt oq k hk
    obtain ⟨hs, vb, bt, vr, rs, vd, dc⟩ := q
    obtain ⟨s1, t1, rfl⟩ : ∃ a c, vb = .slice a bt.length c := oq.1.shape
    obtain ⟨s2, t2, rfl⟩ : ∃ a c, vr = .slice a rs.length c := oq.2.1.shape
    obtain ⟨s3, t3, rfl⟩ : ∃ a c, vd = .slice a dc.length c := oq.2.2.shape
    refine ⟨_, rfl, ⟨⟨_, hW⟩, rfl⟩, ?_⟩
    dsimp only
    simp only [Act.put, pgE, pjE]
    refine twa 1 2 3 (by kernel_rfl) ?_ ?_
    · refine op_one 1 _ rfl ?_
      have hzB : w.heap.size < x.heap.size := Rb.lt
      have hba : Below x.heap.size x (x.alloc (.cells #[.bool hs, .slice s1 bt.length t1, .slice s2 rs.length t2, .slice s3 dc.length t3] 39)) := by go_grown
      have oB := (own_zero (World.ownsRow_lit (e := 39) (size := 4) x #[.bool hs, .slice s1 bt.length t1, .slice s2 rs.length t2, .slice s3 dc.length t3] 1 (Nat.le_refl _) (by decide) rfl)).1
      replace oq := instK.own_out (F := []) oq (Out.of_below hba) (fun _ _ => by simp)
      have hBl : x.heap.size < (x.alloc (.cells #[.bool hs, .slice s1 bt.length t1, .slice s2 rs.length t2, .slice s3 dc.length t3] 39)).heap.size := by simp
      replace Rb := Rb.below hba
      replace hW := hW.trans (hba.mono hW.size)
      clear hba
      go_wp2
      refine ThenGo.to ⟨⟨⟨_, hW⟩, rfl⟩, ?_⟩
      have lqB : ∀ k ∈ instK.foot (⟨hs, .slice s1 bt.length t1, bt, .slice s2 rs.length t2, rs, .slice s3 dc.length t3, dc⟩ : InstQ), k ≠ x.heap.size := fun k hk => by have := lq k hk; omega
      generalize hgB : x.heap.size = gB at *
      generalize x.alloc (.cells #[.bool hs, .slice s1 bt.length t1, .slice s2 rs.length t2, .slice s3 dc.length t3] 39) = x at *
      clear hgB
      refine ona 2 2 rfl (by kernel_rfl) ?_
      refine wpList_make_full _ rfl _ _ 23 rfl x.heap.size 74 i0 (.agg #[.int .i64 0, .int .i64 0, .slice none 0 0, .slice none 0 0, .slice none 0 0, .slice none 0 0, .slice none 0 0]) 7 Tryd.underlying23 hi hz0 hz1 _ _ _ _ 3 rfl rfl rfl rfl hby hmx (Nat.le_refl _) ?_
      intro x1 hown hgrow
      have hzM : w.heap.size < x.heap.size := Rb.lt
      have hba : Below x.heap.size x x1 := (Below.refl _ _).grown hgrow (Nat.le_refl _) (by simp)
      have oN : nodeK.Own x1 (.slice (some ⟨x.heap.size, 0, none⟩) 3 3) (List.replicate 3 (⟨0, 0, .slice none 0 0, [], .slice none 0 0, [], .slice none 0 0, [], .slice none 0 0, [], .slice none 0 0, []⟩ : NodeQ)) := by
        refine ⟨?_, fun p hp => ?_⟩
        · rw [List.length_replicate, ← made_row (⟨0, 0, .slice none 0 0, [], .slice none 0 0, [], .slice none 0 0, [], .slice none 0 0, [], .slice none 0 0, []⟩ : NodeQ) _ (by decide)]
          exact own_base hown (Nat.zero_le _)
        · rw [(List.mem_replicate.1 hp).2]
          exact ⟨(Kind.own_nil _).1, (Kind.own_nil _).1, (Kind.own_nil _).1, (Kind.own_nil _).1, (Kind.own_nil _).1⟩
      have hMl : x.heap.size < x1.heap.size := oN.lt _ (by rw [fp_new rfl]; simp)
      replace oq := instK.own_out (F := []) oq (Out.of_below hba) (fun _ _ => by simp)
      have gm : ∀ k ∈ instK.foot (⟨hs, .slice s1 bt.length t1, bt, .slice s2 rs.length t2, rs, .slice s3 dc.length t3, dc⟩ : InstQ), k ≠ x.heap.size := fun k hk => by have := lq k hk; omega
      replace lq : ∀ k ∈ instK.foot (⟨hs, .slice s1 bt.length t1, bt, .slice s2 rs.length t2, rs, .slice s3 dc.length t3, dc⟩ : InstQ), k < x1.heap.size := fun k hk => by have := lq k hk; omega
      replace oB := own_below oB hba
      have hBM : gB ≠ x.heap.size := by omega
      replace Rb := Rb.below hba
      replace hW := hW.trans (hba.mono hW.size)
      clear hba hown hgrow
      go_wp2
      refine ThenGo.to ⟨⟨⟨_, hW⟩, rfl⟩, ?_⟩
      generalize hgM : x.heap.size = gM at *
      clear hgM
      generalize x1 = x at *
      have HP : Hid (cluK.own x (⟨.slice (some ⟨gB, 0, none⟩) 1 1, [(⟨hs, .slice s1 bt.length t1, bt, .slice s2 rs.length t2, rs, .slice s3 dc.length t3, dc⟩ : InstQ)], .slice (some ⟨gM, 0, none⟩) 3 3, (List.replicate 3 (⟨0, 0, .slice none 0 0, [], .slice none 0 0, [], .slice none 0 0, [], .slice none 0 0, [], .slice none 0 0, []⟩ : NodeQ))⟩ : CluQ) ∧ (cluK.foot (⟨.slice (some ⟨gB, 0, none⟩) 1 1, [(⟨hs, .slice s1 bt.length t1, bt, .slice s2 rs.length t2, rs, .slice s3 dc.length t3, dc⟩ : InstQ)], .slice (some ⟨gM, 0, none⟩) 3 3, (List.replicate 3 (⟨0, 0, .slice none 0 0, [], .slice none 0 0, [], .slice none 0 0, [], .slice none 0 0, [], .slice none 0 0, []⟩ : NodeQ))⟩ : CluQ)).Nodup ∧ ∀ k ∈ cluK.foot (⟨.slice (some ⟨gB, 0, none⟩) 1 1, [(⟨hs, .slice s1 bt.length t1, bt, .slice s2 rs.length t2, rs, .slice s3 dc.length t3, dc⟩ : InstQ)], .slice (some ⟨gM, 0, none⟩) 3 3, (List.replicate 3 (⟨0, 0, .slice none 0 0, [], .slice none 0 0, [], .slice none 0 0, [], .slice none 0 0, [], .slice none 0 0, []⟩ : NodeQ))⟩ : CluQ), w.heap.size < k) := newC_own (⟨hs, .slice s1 bt.length t1, bt, .slice s2 rs.length t2, rs, .slice s3 dc.length t3, dc⟩ : InstQ) (⟨0, 0, .slice none 0 0, [], .slice none 0 0, [], .slice none 0 0, [], .slice none 0 0, [], .slice none 0 0, []⟩ : NodeQ) rfl oB oq oN nq lqB gm hBM hzB hzM gq0
      clear oB oq oN nq lqB gm hBM hzB hzM gq0
      refine ona 3 1 rfl (by kernel_rfl) ?_
      go_wp2
      refine ThenGo.to ⟨⟨⟨_, hW⟩, rfl⟩, ?_⟩
      refine ona 4 0 rfl (by kernel_rfl) ?_
      have U := out_row11 x w.heap.size #[.slice (some ⟨gB, 0, none⟩) 1 1, .slice (some ⟨gM, 0, none⟩) 3 3]
      have OP := cluK.own_out HP.out.1 U (fun k hk => by have := HP.out.2.2 k hk; simp; omega)
      have Rr := Rb.row #[.slice (some ⟨gB, 0, none⟩) 1 1, .slice (some ⟨gM, 0, none⟩) 3 3]
      have hW2 := below_row hW (g := w.heap.size) (Nat.le_refl _) #[.slice (some ⟨gB, 0, none⟩) 1 1, .slice (some ⟨gM, 0, none⟩) 3 3]
      have hz : (Tryd.prog.info? 25).map (·.size) = some (#[.slice (some ⟨gB, 0, none⟩) 1 1, .slice (some ⟨gM, 0, none⟩) 3 3] : Array Value).size := by kernel_rfl
      refine st_row (by kernel_rfl) 25 _ _ rfl _ #[.slice (some ⟨gB, 0, none⟩) 1 1, .slice (some ⟨gM, 0, none⟩) 3 3] rfl rfl 25 _ Rb hz rfl (by simp [Value.oneCell']) ?_
      refine ThenGo.to ⟨⟨⟨_, hW2⟩, rfl⟩, ?_⟩
      refine text_end (by kernel_rfl) ?_
      have HE : Hid (_ ∧ _) := ⟨OP, hW2⟩
      clear OP hW2 hW U Rb hz
      obtain ⟨q0, q1⟩ := Rr.cel2
      go_wp2
      exact bodyPost_ret (v := .agg #[.slice (some ⟨gB, 0, none⟩) 1 1, .slice (some ⟨gM, 0, none⟩) 3 3]) (by simp [results, Tryd.results9, go_sem, q0, q1]) rfl ⟨(⟨.slice (some ⟨gB, 0, none⟩) 1 1, [(⟨hs, .slice s1 bt.length t1, bt, .slice s2 rs.length t2, rs, .slice s3 dc.length t3, dc⟩ : InstQ)], .slice (some ⟨gM, 0, none⟩) 3 3, (List.replicate 3 (⟨0, 0, .slice none 0 0, [], .slice none 0 0, [], .slice none 0 0, [], .slice none 0 0, [], .slice none 0 0, []⟩ : NodeQ))⟩ : CluQ), rfl, newC_e eq, HE.out.1, HP.out.2.1, fun k hk => by have := HP.out.2.2 k hk; omega, HE.out.2⟩
    · refine op_one 2 _ rfl ?_
      refine wpList_make_full _ rfl _ _ 23 rfl x.heap.size 74 i0 (.agg #[.int .i64 0, .int .i64 0, .slice none 0 0, .slice none 0 0, .slice none 0 0, .slice none 0 0, .slice none 0 0]) 7 Tryd.underlying23 hi hz0 hz1 _ _ _ _ 3 rfl rfl rfl rfl hby hmx (Nat.le_refl _) ?_
      intro x1 hown hgrow
      have hzM : w.heap.size < x.heap.size := Rb.lt
      have hba : Below x.heap.size x x1 := (Below.refl _ _).grown hgrow (Nat.le_refl _) (by simp)
      have oN : nodeK.Own x1 (.slice (some ⟨x.heap.size, 0, none⟩) 3 3) (List.replicate 3 (⟨0, 0, .slice none 0 0, [], .slice none 0 0, [], .slice none 0 0, [], .slice none 0 0, [], .slice none 0 0, []⟩ : NodeQ)) := by
        refine ⟨?_, fun p hp => ?_⟩
        · rw [List.length_replicate, ← made_row (⟨0, 0, .slice none 0 0, [], .slice none 0 0, [], .slice none 0 0, [], .slice none 0 0, [], .slice none 0 0, []⟩ : NodeQ) _ (by decide)]
          exact own_base hown (Nat.zero_le _)
        · rw [(List.mem_replicate.1 hp).2]
          exact ⟨(Kind.own_nil _).1, (Kind.own_nil _).1, (Kind.own_nil _).1, (Kind.own_nil _).1, (Kind.own_nil _).1⟩
      have hMl : x.heap.size < x1.heap.size := oN.lt _ (by rw [fp_new rfl]; simp)
      replace oq := instK.own_out (F := []) oq (Out.of_below hba) (fun _ _ => by simp)
      have gm : ∀ k ∈ instK.foot (⟨hs, .slice s1 bt.length t1, bt, .slice s2 rs.length t2, rs, .slice s3 dc.length t3, dc⟩ : InstQ), k ≠ x.heap.size := fun k hk => by have := lq k hk; omega
      replace lq : ∀ k ∈ instK.foot (⟨hs, .slice s1 bt.length t1, bt, .slice s2 rs.length t2, rs, .slice s3 dc.length t3, dc⟩ : InstQ), k < x1.heap.size := fun k hk => by have := lq k hk; omega
      replace Rb := Rb.below hba
      replace hW := hW.trans (hba.mono hW.size)
      clear hba hown hgrow
      go_wp2
      refine ThenGo.to ⟨⟨⟨_, hW⟩, rfl⟩, ?_⟩
      generalize hgM : x.heap.size = gM at *
      clear hgM
      generalize x1 = x at *
      refine ona 1 2 rfl (by kernel_rfl) ?_
      have hzB : w.heap.size < x.heap.size := Rb.lt
      have hba : Below x.heap.size x (x.alloc (.cells #[.bool hs, .slice s1 bt.length t1, .slice s2 rs.length t2, .slice s3 dc.length t3] 39)) := by go_grown
      have oB := (own_zero (World.ownsRow_lit (e := 39) (size := 4) x #[.bool hs, .slice s1 bt.length t1, .slice s2 rs.length t2, .slice s3 dc.length t3] 1 (Nat.le_refl _) (by decide) rfl)).1
      replace oq := instK.own_out (F := []) oq (Out.of_below hba) (fun _ _ => by simp)
      replace oN := oN.below hba
      have hBM : x.heap.size ≠ gM := by omega
      have hBl : x.heap.size < (x.alloc (.cells #[.bool hs, .slice s1 bt.length t1, .slice s2 rs.length t2, .slice s3 dc.length t3] 39)).heap.size := by simp
      replace Rb := Rb.below hba
      replace hW := hW.trans (hba.mono hW.size)
      clear hba
      go_wp2
      refine ThenGo.to ⟨⟨⟨_, hW⟩, rfl⟩, ?_⟩
      have lqB : ∀ k ∈ instK.foot (⟨hs, .slice s1 bt.length t1, bt, .slice s2 rs.length t2, rs, .slice s3 dc.length t3, dc⟩ : InstQ), k ≠ x.heap.size := fun k hk => by have := lq k hk; omega
      generalize hgB : x.heap.size = gB at *
      generalize x.alloc (.cells #[.bool hs, .slice s1 bt.length t1, .slice s2 rs.length t2, .slice s3 dc.length t3] 39) = x at *
      clear hgB
      have HP : Hid (cluK.own x (⟨.slice (some ⟨gB, 0, none⟩) 1 1, [(⟨hs, .slice s1 bt.length t1, bt, .slice s2 rs.length t2, rs, .slice s3 dc.length t3, dc⟩ : InstQ)], .slice (some ⟨gM, 0, none⟩) 3 3, (List.replicate 3 (⟨0, 0, .slice none 0 0, [], .slice none 0 0, [], .slice none 0 0, [], .slice none 0 0, [], .slice none 0 0, []⟩ : NodeQ))⟩ : CluQ) ∧ (cluK.foot (⟨.slice (some ⟨gB, 0, none⟩) 1 1, [(⟨hs, .slice s1 bt.length t1, bt, .slice s2 rs.length t2, rs, .slice s3 dc.length t3, dc⟩ : InstQ)], .slice (some ⟨gM, 0, none⟩) 3 3, (List.replicate 3 (⟨0, 0, .slice none 0 0, [], .slice none 0 0, [], .slice none 0 0, [], .slice none 0 0, [], .slice none 0 0, []⟩ : NodeQ))⟩ : CluQ)).Nodup ∧ ∀ k ∈ cluK.foot (⟨.slice (some ⟨gB, 0, none⟩) 1 1, [(⟨hs, .slice s1 bt.length t1, bt, .slice s2 rs.length t2, rs, .slice s3 dc.length t3, dc⟩ : InstQ)], .slice (some ⟨gM, 0, none⟩) 3 3, (List.replicate 3 (⟨0, 0, .slice none 0 0, [], .slice none 0 0, [], .slice none 0 0, [], .slice none 0 0, [], .slice none 0 0, []⟩ : NodeQ))⟩ : CluQ), w.heap.size < k) := newC_own (⟨hs, .slice s1 bt.length t1, bt, .slice s2 rs.length t2, rs, .slice s3 dc.length t3, dc⟩ : InstQ) (⟨0, 0, .slice none 0 0, [], .slice none 0 0, [], .slice none 0 0, [], .slice none 0 0, [], .slice none 0 0, []⟩ : NodeQ) rfl oB oq oN nq lqB gm hBM hzB hzM gq0
      clear oB oq oN nq lqB gm hBM hzB hzM gq0
      refine ona 3 1 rfl (by kernel_rfl) ?_
      go_wp2
      refine ThenGo.to ⟨⟨⟨_, hW⟩, rfl⟩, ?_⟩
      refine ona 4 0 rfl (by kernel_rfl) ?_
      have U := out_row11 x w.heap.size #[.slice (some ⟨gB, 0, none⟩) 1 1, .slice (some ⟨gM, 0, none⟩) 3 3]
      have OP := cluK.own_out HP.out.1 U (fun k hk => by have := HP.out.2.2 k hk; simp; omega)
      have Rr := Rb.row #[.slice (some ⟨gB, 0, none⟩) 1 1, .slice (some ⟨gM, 0, none⟩) 3 3]
      have hW2 := below_row hW (g := w.heap.size) (Nat.le_refl _) #[.slice (some ⟨gB, 0, none⟩) 1 1, .slice (some ⟨gM, 0, none⟩) 3 3]
      have hz : (Tryd.prog.info? 25).map (·.size) = some (#[.slice (some ⟨gB, 0, none⟩) 1 1, .slice (some ⟨gM, 0, none⟩) 3 3] : Array Value).size := by kernel_rfl
      refine st_row (by kernel_rfl) 25 _ _ rfl _ #[.slice (some ⟨gB, 0, none⟩) 1 1, .slice (some ⟨gM, 0, none⟩) 3 3] rfl rfl 25 _ Rb hz rfl (by simp [Value.oneCell']) ?_
      refine ThenGo.to ⟨⟨⟨_, hW2⟩, rfl⟩, ?_⟩
      refine text_end (by kernel_rfl) ?_
      have HE : Hid (_ ∧ _) := ⟨OP, hW2⟩
      clear OP hW2 hW U Rb hz
      obtain ⟨q0, q1⟩ := Rr.cel2
      go_wp2
      exact bodyPost_ret (v := .agg #[.slice (some ⟨gB, 0, none⟩) 1 1, .slice (some ⟨gM, 0, none⟩) 3 3]) (by simp [results, Tryd.results9, go_sem, q0, q1]) rfl ⟨(⟨.slice (some ⟨gB, 0, none⟩) 1 1, [(⟨hs, .slice s1 bt.length t1, bt, .slice s2 rs.length t2, rs, .slice s3 dc.length t3, dc⟩ : InstQ)], .slice (some ⟨gM, 0, none⟩) 3 3, (List.replicate 3 (⟨0, 0, .slice none 0 0, [], .slice none 0 0, [], .slice none 0 0, [], .slice none 0 0, [], .slice none 0 0, []⟩ : NodeQ))⟩ : CluQ), rfl, newC_e eq, HE.out.1, HP.out.2.1, fun k hk => by have := HP.out.2.2 k hk; omega, HE.out.2⟩
  · refine op_one 2 _ rfl ?_
    refine wpList_make_full _ rfl _ _ 23 rfl x.heap.size 74 i0 (.agg #[.int .i64 0, .int .i64 0, .slice none 0 0, .slice none 0 0, .slice none 0 0, .slice none 0 0, .slice none 0 0]) 7 Tryd.underlying23 hi hz0 hz1 _ _ _ _ 3 rfl rfl rfl rfl hby hmx (Nat.le_refl _) ?_
    intro x1 hown hgrow
    have hzM : w.heap.size < x.heap.size := Rb.lt
    have hba : Below x.heap.size x x1 := (Below.refl _ _).grown hgrow (Nat.le_refl _) (by simp)
    have oN : nodeK.Own x1 (.slice (some ⟨x.heap.size, 0, none⟩) 3 3) (List.replicate 3 (⟨0, 0, .slice none 0 0, [], .slice none 0 0, [], .slice none 0 0, [], .slice none 0 0, [], .slice none 0 0, []⟩ : NodeQ)) := by
      refine ⟨?_, fun p hp => ?_⟩
      · rw [List.length_replicate, ← made_row (⟨0, 0, .slice none 0 0, [], .slice none 0 0, [], .slice none 0 0, [], .slice none 0 0, [], .slice none 0 0, []⟩ : NodeQ) _ (by decide)]
        exact own_base hown (Nat.zero_le _)
      · rw [(List.mem_replicate.1 hp).2]
        exact ⟨(Kind.own_nil _).1, (Kind.own_nil _).1, (Kind.own_nil _).1, (Kind.own_nil _).1, (Kind.own_nil _).1⟩
    have hMl : x.heap.size < x1.heap.size := oN.lt _ (by rw [fp_new rfl]; simp)
    replace Rb := Rb.below hba
    replace hW := hW.trans (hba.mono hW.size)
    clear hba hown hgrow
    go_wp2
    refine ThenGo.to ⟨⟨⟨_, hW⟩, rfl⟩, ?_⟩
    generalize hgM : x.heap.size = gM at *
    clear hgM
    generalize x1 = x at *
    refine cla 0 (some 1) 14 #[] 3 (by kernel_rfl) ?_
    have hX := Rb.lt
    refine (l6New_any _).mono ?_
    rintro e x ⟨q, rfl, eq, oq, nq, gq, hb⟩
    replace oN := oN.below hb
    have gm : ∀ k ∈ instK.foot q, k ≠ gM := fun k hk => by have := gq k hk; omega
    replace hMl : gM < x.heap.size := by have := hb.size; omega
    have gq0 : ∀ k ∈ instK.foot q, w.heap.size < k := fun k hk => by have := gq k hk; omega
    replace Rb := Rb.below hb
    replace hW := hW.trans (hb.mono hW.size)
    clear hb gq hX
    have lq : ∀ k ∈ instK.foot q, k < x.heap.size := fun k hk => instK.own_lt oq k hk
    obtain ⟨hs, vb, bt, vr, rs, vd, dc⟩ := q
    obtain ⟨s1, t1, rfl⟩ : ∃ a c, vb = .slice a bt.length c := oq.1.shape
    obtain ⟨s2, t2, rfl⟩ : ∃ a c, vr = .slice a rs.length c := oq.2.1.shape
    obtain ⟨s3, t3, rfl⟩ : ∃ a c, vd = .slice a dc.length c := oq.2.2.shape
    refine ⟨_, rfl, ⟨⟨_, hW⟩, rfl⟩, ?_⟩
    dsimp only
    simp only [Act.put, pgE, pjE]
    refine ona 1 2 rfl (by kernel_rfl) ?_
    have hzB : w.heap.size < x.heap.size := Rb.lt
    have hba : Below x.heap.size x (x.alloc (.cells #[.bool hs, .slice s1 bt.length t1, .slice s2 rs.length t2, .slice s3 dc.length t3] 39)) := by go_grown
    have oB := (own_zero (World.ownsRow_lit (e := 39) (size := 4) x #[.bool hs, .slice s1 bt.length t1, .slice s2 rs.length t2, .slice s3 dc.length t3] 1 (Nat.le_refl _) (by decide) rfl)).1
    replace oq := instK.own_out (F := []) oq (Out.of_below hba) (fun _ _ => by simp)
    replace oN := oN.below hba
    have hBM : x.heap.size ≠ gM := by omega
    have hBl : x.heap.size < (x.alloc (.cells #[.bool hs, .slice s1 bt.length t1, .slice s2 rs.length t2, .slice s3 dc.length t3] 39)).heap.size := by simp
    replace Rb := Rb.below hba
    replace hW := hW.trans (hba.mono hW.size)
    clear hba
    go_wp2
    refine ThenGo.to ⟨⟨⟨_, hW⟩, rfl⟩, ?_⟩
    have lqB : ∀ k ∈ instK.foot (⟨hs, .slice s1 bt.length t1, bt, .slice s2 rs.length t2, rs, .slice s3 dc.length t3, dc⟩ : InstQ), k ≠ x.heap.size := fun k hk => by have := lq k hk; omega
    generalize hgB : x.heap.size = gB at *
    generalize x.alloc (.cells #[.bool hs, .slice s1 bt.length t1, .slice s2 rs.length t2, .slice s3 dc.length t3] 39) = x at *
    clear hgB
    have HP : Hid (cluK.own x (⟨.slice (some ⟨gB, 0, none⟩) 1 1, [(⟨hs, .slice s1 bt.length t1, bt, .slice s2 rs.length t2, rs, .slice s3 dc.length t3, dc⟩ : InstQ)], .slice (some ⟨gM, 0, none⟩) 3 3, (List.replicate 3 (⟨0, 0, .slice none 0 0, [], .slice none 0 0, [], .slice none 0 0, [], .slice none 0 0, [], .slice none 0 0, []⟩ : NodeQ))⟩ : CluQ) ∧ (cluK.foot (⟨.slice (some ⟨gB, 0, none⟩) 1 1, [(⟨hs, .slice s1 bt.length t1, bt, .slice s2 rs.length t2, rs, .slice s3 dc.length t3, dc⟩ : InstQ)], .slice (some ⟨gM, 0, none⟩) 3 3, (List.replicate 3 (⟨0, 0, .slice none 0 0, [], .slice none 0 0, [], .slice none 0 0, [], .slice none 0 0, [], .slice none 0 0, []⟩ : NodeQ))⟩ : CluQ)).Nodup ∧ ∀ k ∈ cluK.foot (⟨.slice (some ⟨gB, 0, none⟩) 1 1, [(⟨hs, .slice s1 bt.length t1, bt, .slice s2 rs.length t2, rs, .slice s3 dc.length t3, dc⟩ : InstQ)], .slice (some ⟨gM, 0, none⟩) 3 3, (List.replicate 3 (⟨0, 0, .slice none 0 0, [], .slice none 0 0, [], .slice none 0 0, [], .slice none 0 0, [], .slice none 0 0, []⟩ : NodeQ))⟩ : CluQ), w.heap.size < k) := newC_own (⟨hs, .slice s1 bt.length t1, bt, .slice s2 rs.length t2, rs, .slice s3 dc.length t3, dc⟩ : InstQ) (⟨0, 0, .slice none 0 0, [], .slice none 0 0, [], .slice none 0 0, [], .slice none 0 0, [], .slice none 0 0, []⟩ : NodeQ) rfl oB oq oN nq lqB gm hBM hzB hzM gq0
    clear oB oq oN nq lqB gm hBM hzB hzM gq0
    refine ona 3 1 rfl (by kernel_rfl) ?_
    go_wp2
    refine ThenGo.to ⟨⟨⟨_, hW⟩, rfl⟩, ?_⟩
    refine ona 4 0 rfl (by kernel_rfl) ?_
    have U := out_row11 x w.heap.size #[.slice (some ⟨gB, 0, none⟩) 1 1, .slice (some ⟨gM, 0, none⟩) 3 3]
    have OP := cluK.own_out HP.out.1 U (fun k hk => by have := HP.out.2.2 k hk; simp; omega)
    have Rr := Rb.row #[.slice (some ⟨gB, 0, none⟩) 1 1, .slice (some ⟨gM, 0, none⟩) 3 3]
    have hW2 := below_row hW (g := w.heap.size) (Nat.le_refl _) #[.slice (some ⟨gB, 0, none⟩) 1 1, .slice (some ⟨gM, 0, none⟩) 3 3]
    have hz : (Tryd.prog.info? 25).map (·.size) = some (#[.slice (some ⟨gB, 0, none⟩) 1 1, .slice (some ⟨gM, 0, none⟩) 3 3] : Array Value).size := by kernel_rfl
    refine st_row (by kernel_rfl) 25 _ _ rfl _ #[.slice (some ⟨gB, 0, none⟩) 1 1, .slice (some ⟨gM, 0, none⟩) 3 3] rfl rfl 25 _ Rb hz rfl (by simp [Value.oneCell']) ?_
    refine ThenGo.to ⟨⟨⟨_, hW2⟩, rfl⟩, ?_⟩
    refine text_end (by kernel_rfl) ?_
    have HE : Hid (_ ∧ _) := ⟨OP, hW2⟩
    clear OP hW2 hW U Rb hz
    obtain ⟨q0, q1⟩ := Rr.cel2
    go_wp2
    exact bodyPost_ret (v := .agg #[.slice (some ⟨gB, 0, none⟩) 1 1, .slice (some ⟨gM, 0, none⟩) 3 3]) (by simp [results, Tryd.results9, go_sem, q0, q1]) rfl ⟨(⟨.slice (some ⟨gB, 0, none⟩) 1 1, [(⟨hs, .slice s1 bt.length t1, bt, .slice s2 rs.length t2, rs, .slice s3 dc.length t3, dc⟩ : InstQ)], .slice (some ⟨gM, 0, none⟩) 3 3, (List.replicate 3 (⟨0, 0, .slice none 0 0, [], .slice none 0 0, [], .slice none 0 0, [], .slice none 0 0, [], .slice none 0 0, []⟩ : NodeQ))⟩ : CluQ), rfl, newC_e eq, HE.out.1, HP.out.2.1, fun k hk => by have := HP.out.2.2 k hk; omega, HE.out.2⟩

set_option maxHeartbeats 8000000 in
theorem implNewCluster_any (w : World) (hO : Opn w) :
    Calls Tryd.prog 5 #[] w fun e w' => ∃ p : CluQ, e = .returned (.agg #[.int .i64 0, .int .i64 0, p.vo, p.vm]) ∧ p.e = newC ∧ cluK.own w' p ∧ (cluK.foot p).Nodup ∧ (∀ k ∈ cluK.foot p, w.heap.size ≤ k) ∧ Below w.heap.size w w' := by
  obtain ⟨i0, hi, hz0, hz1, hz2⟩ := info_parts infoNode12
  have hby : i0.bytes * 3 ≤ 281474976710656 := by rw [hz2]; omega
  have hmx : 3 ≤ maxLen := by unfold maxLen; omega
  have hW : Below w.heap.size w (w.alloc (.cells #[.int .i64 0, .int .i64 0, .slice none 0 0, .slice none 0 0] 27)) := by go_grown
  have Rb := Blk.new w 27 #[.int .i64 0, .int .i64 0, .slice none 0 0, .slice none 0 0]
  go_enter Tryd.func5, Tryd.ntmps5
  go_wp2_with fail
  replace Rb := Rb.below ((Below.refl _ _).drew)
  replace hW := hW.drew
  have hnn : Nonempty (Lat w) := ⟨⟨w, Below.refl _ _⟩⟩
  refine text_begin (S := fun w' => ∃ u : Lat w, w' = u.val) (by kernel_rfl) ?_
  generalize (w.alloc (.cells #[.int .i64 0, .int .i64 0, .slice none 0 0, .slice none 0 0] 27)).drew = x at *
  refine twa 0 3 6 (by kernel_rfl) ?_ ?_
  · refine opc 0 (some 1) 10 #[] (by kernel_rfl) ?_
    have hX := Rb.lt
    refine (implNewInstance_any _ (hO.below hW)).mono ?_
    rintro e x ⟨q, rfl, eq, oq, nq, gq, hb⟩
    have gq0 : ∀ k ∈ instK.foot q, w.heap.size < k := fun k hk => by have := gq k hk; omega
    replace Rb := Rb.below hb
    replace hW := hW.trans (hb.mono hW.size)
    clear hb gq hX
    have lq : ∀ k ∈ instK.foot q, k < x.heap.size := fun k hk => instK.own_lt oq k hk
    obtain ⟨hs, vb, bt, vr, rs, vd, dc⟩ := q
    obtain ⟨s1, t1, rfl⟩ : ∃ a c, vb = .slice a bt.length c := oq.1.shape
    obtain ⟨s2, t2, rfl⟩ : ∃ a c, vr = .slice a rs.length c := oq.2.1.shape
    obtain ⟨s3, t3, rfl⟩ : ∃ a c, vd = .slice a dc.length c := oq.2.2.shape
    refine ⟨_, rfl, ⟨⟨_, hW⟩, rfl⟩, ?_⟩
    dsimp only [resC]
    simp only [Act.put, pgE, pjE]
    refine qta 1 (some 2) (.agg #[.bool hs, .slice s1 bt.length t1, .slice s2 rs.length t2, .slice s3 dc.length t3]) 5 (by kernel_rfl) (fun u _ => by kernel_rfl) ⟨⟨_, hW⟩, rfl⟩ ?_
    simp only [Act.put, pgE, pjE]
    refine twa 2 3 4 (by kernel_rfl) ?_ ?_
    · refine op_one 2 _ rfl ?_
      have hzB : w.heap.size < x.heap.size := Rb.lt
      have hba : Below x.heap.size x (x.alloc (.cells #[.bool hs, .slice s1 bt.length t1, .slice s2 rs.length t2, .slice s3 dc.length t3] 39)) := by go_grown
      have oB := (own_zero (World.ownsRow_lit (e := 39) (size := 4) x #[.bool hs, .slice s1 bt.length t1, .slice s2 rs.length t2, .slice s3 dc.length t3] 1 (Nat.le_refl _) (by decide) rfl)).1
      replace oq := instK.own_out (F := []) oq (Out.of_below hba) (fun _ _ => by simp)
      have hBl : x.heap.size < (x.alloc (.cells #[.bool hs, .slice s1 bt.length t1, .slice s2 rs.length t2, .slice s3 dc.length t3] 39)).heap.size := by simp
      replace Rb := Rb.below hba
      replace hW := hW.trans (hba.mono hW.size)
      clear hba
      go_wp2
      refine ThenGo.to ⟨⟨⟨_, hW⟩, rfl⟩, ?_⟩
      have lqB : ∀ k ∈ instK.foot (⟨hs, .slice s1 bt.length t1, bt, .slice s2 rs.length t2, rs, .slice s3 dc.length t3, dc⟩ : InstQ), k ≠ x.heap.size := fun k hk => by have := lq k hk; omega
      generalize hgB : x.heap.size = gB at *
      generalize x.alloc (.cells #[.bool hs, .slice s1 bt.length t1, .slice s2 rs.length t2, .slice s3 dc.length t3] 39) = x at *
      clear hgB
      refine ona 3 3 rfl (by kernel_rfl) ?_
      refine wpList_make_full _ rfl _ _ 23 rfl x.heap.size 74 i0 (.agg #[.int .i64 0, .int .i64 0, .slice none 0 0, .slice none 0 0, .slice none 0 0, .slice none 0 0, .slice none 0 0]) 7 Tryd.underlying23 hi hz0 hz1 _ _ _ _ 3 rfl rfl rfl rfl hby hmx (Nat.le_refl _) ?_
      intro x1 hown hgrow
      have hzM : w.heap.size < x.heap.size := Rb.lt
      have hba : Below x.heap.size x x1 := (Below.refl _ _).grown hgrow (Nat.le_refl _) (by simp)
      have oN : nodeK.Own x1 (.slice (some ⟨x.heap.size, 0, none⟩) 3 3) (List.replicate 3 (⟨0, 0, .slice none 0 0, [], .slice none 0 0, [], .slice none 0 0, [], .slice none 0 0, [], .slice none 0 0, []⟩ : NodeQ)) := by
        refine ⟨?_, fun p hp => ?_⟩
        · rw [List.length_replicate, ← made_row (⟨0, 0, .slice none 0 0, [], .slice none 0 0, [], .slice none 0 0, [], .slice none 0 0, [], .slice none 0 0, []⟩ : NodeQ) _ (by decide)]
          exact own_base hown (Nat.zero_le _)
        · rw [(List.mem_replicate.1 hp).2]
          exact ⟨(Kind.own_nil _).1, (Kind.own_nil _).1, (Kind.own_nil _).1, (Kind.own_nil _).1, (Kind.own_nil _).1⟩
      have hMl : x.heap.size < x1.heap.size := oN.lt _ (by rw [fp_new rfl]; simp)
      replace oq := instK.own_out (F := []) oq (Out.of_below hba) (fun _ _ => by simp)
      have gm : ∀ k ∈ instK.foot (⟨hs, .slice s1 bt.length t1, bt, .slice s2 rs.length t2, rs, .slice s3 dc.length t3, dc⟩ : InstQ), k ≠ x.heap.size := fun k hk => by have := lq k hk; omega
      replace lq : ∀ k ∈ instK.foot (⟨hs, .slice s1 bt.length t1, bt, .slice s2 rs.length t2, rs, .slice s3 dc.length t3, dc⟩ : InstQ), k < x1.heap.size := fun k hk => by have := lq k hk; omega
      replace oB := own_below oB hba
      have hBM : gB ≠ x.heap.size := by omega
      replace Rb := Rb.below hba
      replace hW := hW.trans (hba.mono hW.size)
      clear hba hown hgrow
      go_wp2
      refine ThenGo.to ⟨⟨⟨_, hW⟩, rfl⟩, ?_⟩
      generalize hgM : x.heap.size = gM at *
      clear hgM
      generalize x1 = x at *
      have HP : Hid (cluK.own x (⟨.slice (some ⟨gB, 0, none⟩) 1 1, [(⟨hs, .slice s1 bt.length t1, bt, .slice s2 rs.length t2, rs, .slice s3 dc.length t3, dc⟩ : InstQ)], .slice (some ⟨gM, 0, none⟩) 3 3, (List.replicate 3 (⟨0, 0, .slice none 0 0, [], .slice none 0 0, [], .slice none 0 0, [], .slice none 0 0, [], .slice none 0 0, []⟩ : NodeQ))⟩ : CluQ) ∧ (cluK.foot (⟨.slice (some ⟨gB, 0, none⟩) 1 1, [(⟨hs, .slice s1 bt.length t1, bt, .slice s2 rs.length t2, rs, .slice s3 dc.length t3, dc⟩ : InstQ)], .slice (some ⟨gM, 0, none⟩) 3 3, (List.replicate 3 (⟨0, 0, .slice none 0 0, [], .slice none 0 0, [], .slice none 0 0, [], .slice none 0 0, [], .slice none 0 0, []⟩ : NodeQ))⟩ : CluQ)).Nodup ∧ ∀ k ∈ cluK.foot (⟨.slice (some ⟨gB, 0, none⟩) 1 1, [(⟨hs, .slice s1 bt.length t1, bt, .slice s2 rs.length t2, rs, .slice s3 dc.length t3, dc⟩ : InstQ)], .slice (some ⟨gM, 0, none⟩) 3 3, (List.replicate 3 (⟨0, 0, .slice none 0 0, [], .slice none 0 0, [], .slice none 0 0, [], .slice none 0 0, [], .slice none 0 0, []⟩ : NodeQ))⟩ : CluQ), w.heap.size < k) := newC_own (⟨hs, .slice s1 bt.length t1, bt, .slice s2 rs.length t2, rs, .slice s3 dc.length t3, dc⟩ : InstQ) (⟨0, 0, .slice none 0 0, [], .slice none 0 0, [], .slice none 0 0, [], .slice none 0 0, [], .slice none 0 0, []⟩ : NodeQ) rfl oB oq oN nq lqB gm hBM hzB hzM gq0
      clear oB oq oN nq lqB gm hBM hzB hzM gq0
      refine ona 4 2 rfl (by kernel_rfl) ?_
      go_wp2
      refine ThenGo.to ⟨⟨⟨_, hW⟩, rfl⟩, ?_⟩
      refine ona 5 1 rfl (by kernel_rfl) ?_
      go_wp2
      refine ThenGo.to ⟨⟨⟨_, hW⟩, rfl⟩, ?_⟩
      refine ona 6 0 rfl (by kernel_rfl) ?_
      have U := out_row11 x w.heap.size #[.int .i64 0, .int .i64 0, .slice (some ⟨gB, 0, none⟩) 1 1, .slice (some ⟨gM, 0, none⟩) 3 3]
      have OP := cluK.own_out HP.out.1 U (fun k hk => by have := HP.out.2.2 k hk; simp; omega)
      have Rr := Rb.row #[.int .i64 0, .int .i64 0, .slice (some ⟨gB, 0, none⟩) 1 1, .slice (some ⟨gM, 0, none⟩) 3 3]
      have hW2 := below_row hW (g := w.heap.size) (Nat.le_refl _) #[.int .i64 0, .int .i64 0, .slice (some ⟨gB, 0, none⟩) 1 1, .slice (some ⟨gM, 0, none⟩) 3 3]
      have hz : (Tryd.prog.info? 27).map (·.size) = some (#[.int .i64 0, .int .i64 0, .slice (some ⟨gB, 0, none⟩) 1 1, .slice (some ⟨gM, 0, none⟩) 3 3] : Array Value).size := by kernel_rfl
      refine st_row (by kernel_rfl) 27 _ _ rfl _ #[.int .i64 0, .int .i64 0, .slice (some ⟨gB, 0, none⟩) 1 1, .slice (some ⟨gM, 0, none⟩) 3 3] rfl rfl 27 _ Rb hz rfl (by simp [Value.oneCell']) ?_
      refine ThenGo.to ⟨⟨⟨_, hW2⟩, rfl⟩, ?_⟩
      refine text_end (by kernel_rfl) ?_
      have HE : Hid (_ ∧ _) := ⟨OP, hW2⟩
      clear OP hW2 hW U Rb hz
      obtain ⟨q0, q1, q2, q3⟩ := Rr.cel4
      go_wp2
      exact bodyPost_ret (v := .agg #[.int .i64 0, .int .i64 0, .slice (some ⟨gB, 0, none⟩) 1 1, .slice (some ⟨gM, 0, none⟩) 3 3]) (by simp [results, Tryd.results5, go_sem, q0, q1, q2, q3]) rfl ⟨(⟨.slice (some ⟨gB, 0, none⟩) 1 1, [(⟨hs, .slice s1 bt.length t1, bt, .slice s2 rs.length t2, rs, .slice s3 dc.length t3, dc⟩ : InstQ)], .slice (some ⟨gM, 0, none⟩) 3 3, (List.replicate 3 (⟨0, 0, .slice none 0 0, [], .slice none 0 0, [], .slice none 0 0, [], .slice none 0 0, [], .slice none 0 0, []⟩ : NodeQ))⟩ : CluQ), rfl, newC_e eq, HE.out.1, HP.out.2.1, fun k hk => by have := HP.out.2.2 k hk; omega, HE.out.2⟩
    · refine op_one 3 _ rfl ?_
      refine wpList_make_full _ rfl _ _ 23 rfl x.heap.size 74 i0 (.agg #[.int .i64 0, .int .i64 0, .slice none 0 0, .slice none 0 0, .slice none 0 0, .slice none 0 0, .slice none 0 0]) 7 Tryd.underlying23 hi hz0 hz1 _ _ _ _ 3 rfl rfl rfl rfl hby hmx (Nat.le_refl _) ?_
      intro x1 hown hgrow
      have hzM : w.heap.size < x.heap.size := Rb.lt
      have hba : Below x.heap.size x x1 := (Below.refl _ _).grown hgrow (Nat.le_refl _) (by simp)
      have oN : nodeK.Own x1 (.slice (some ⟨x.heap.size, 0, none⟩) 3 3) (List.replicate 3 (⟨0, 0, .slice none 0 0, [], .slice none 0 0, [], .slice none 0 0, [], .slice none 0 0, [], .slice none 0 0, []⟩ : NodeQ)) := by
        refine ⟨?_, fun p hp => ?_⟩
        · rw [List.length_replicate, ← made_row (⟨0, 0, .slice none 0 0, [], .slice none 0 0, [], .slice none 0 0, [], .slice none 0 0, [], .slice none 0 0, []⟩ : NodeQ) _ (by decide)]
          exact own_base hown (Nat.zero_le _)
        · rw [(List.mem_replicate.1 hp).2]
          exact ⟨(Kind.own_nil _).1, (Kind.own_nil _).1, (Kind.own_nil _).1, (Kind.own_nil _).1, (Kind.own_nil _).1⟩
      have hMl : x.heap.size < x1.heap.size := oN.lt _ (by rw [fp_new rfl]; simp)
      replace oq := instK.own_out (F := []) oq (Out.of_below hba) (fun _ _ => by simp)
      have gm : ∀ k ∈ instK.foot (⟨hs, .slice s1 bt.length t1, bt, .slice s2 rs.length t2, rs, .slice s3 dc.length t3, dc⟩ : InstQ), k ≠ x.heap.size := fun k hk => by have := lq k hk; omega
      replace lq : ∀ k ∈ instK.foot (⟨hs, .slice s1 bt.length t1, bt, .slice s2 rs.length t2, rs, .slice s3 dc.length t3, dc⟩ : InstQ), k < x1.heap.size := fun k hk => by have := lq k hk; omega
      replace Rb := Rb.below hba
      replace hW := hW.trans (hba.mono hW.size)
      clear hba hown hgrow
      go_wp2
      refine ThenGo.to ⟨⟨⟨_, hW⟩, rfl⟩, ?_⟩
      generalize hgM : x.heap.size = gM at *
      clear hgM
      generalize x1 = x at *
      refine ona 2 3 rfl (by kernel_rfl) ?_
      have hzB : w.heap.size < x.heap.size := Rb.lt
      have hba : Below x.heap.size x (x.alloc (.cells #[.bool hs, .slice s1 bt.length t1, .slice s2 rs.length t2, .slice s3 dc.length t3] 39)) := by go_grown
      have oB := (own_zero (World.ownsRow_lit (e := 39) (size := 4) x #[.bool hs, .slice s1 bt.length t1, .slice s2 rs.length t2, .slice s3 dc.length t3] 1 (Nat.le_refl _) (by decide) rfl)).1
      replace oq := instK.own_out (F := []) oq (Out.of_below hba) (fun _ _ => by simp)
      replace oN := oN.below hba
      have hBM : x.heap.size ≠ gM := by omega
      have hBl : x.heap.size < (x.alloc (.cells #[.bool hs, .slice s1 bt.length t1, .slice s2 rs.length t2, .slice s3 dc.length t3] 39)).heap.size := by simp
      replace Rb := Rb.below hba
      replace hW := hW.trans (hba.mono hW.size)
      clear hba
      go_wp2
      refine ThenGo.to ⟨⟨⟨_, hW⟩, rfl⟩, ?_⟩
      have lqB : ∀ k ∈ instK.foot (⟨hs, .slice s1 bt.length t1, bt, .slice s2 rs.length t2, rs, .slice s3 dc.length t3, dc⟩ : InstQ), k ≠ x.heap.size := fun k hk => by have := lq k hk; omega
      generalize hgB : x.heap.size = gB at *
      generalize x.alloc (.cells #[.bool hs, .slice s1 bt.length t1, .slice s2 rs.length t2, .slice s3 dc.length t3] 39) = x at *
      clear hgB
      have HP : Hid (cluK.own x (⟨.slice (some ⟨gB, 0, none⟩) 1 1, [(⟨hs, .slice s1 bt.length t1, bt, .slice s2 rs.length t2, rs, .slice s3 dc.length t3, dc⟩ : InstQ)], .slice (some ⟨gM, 0, none⟩) 3 3, (List.replicate 3 (⟨0, 0, .slice none 0 0, [], .slice none 0 0, [], .slice none 0 0, [], .slice none 0 0, [], .slice none 0 0, []⟩ : NodeQ))⟩ : CluQ) ∧ (cluK.foot (⟨.slice (some ⟨gB, 0, none⟩) 1 1, [(⟨hs, .slice s1 bt.length t1, bt, .slice s2 rs.length t2, rs, .slice s3 dc.length t3, dc⟩ : InstQ)], .slice (some ⟨gM, 0, none⟩) 3 3, (List.replicate 3 (⟨0, 0, .slice none 0 0, [], .slice none 0 0, [], .slice none 0 0, [], .slice none 0 0, [], .slice none 0 0, []⟩ : NodeQ))⟩ : CluQ)).Nodup ∧ ∀ k ∈ cluK.foot (⟨.slice (some ⟨gB, 0, none⟩) 1 1, [(⟨hs, .slice s1 bt.length t1, bt, .slice s2 rs.length t2, rs, .slice s3 dc.length t3, dc⟩ : InstQ)], .slice (some ⟨gM, 0, none⟩) 3 3, (List.replicate 3 (⟨0, 0, .slice none 0 0, [], .slice none 0 0, [], .slice none 0 0, [], .slice none 0 0, [], .slice none 0 0, []⟩ : NodeQ))⟩ : CluQ), w.heap.size < k) := newC_own (⟨hs, .slice s1 bt.length t1, bt, .slice s2 rs.length t2, rs, .slice s3 dc.length t3, dc⟩ : InstQ) (⟨0, 0, .slice none 0 0, [], .slice none 0 0, [], .slice none 0 0, [], .slice none 0 0, [], .slice none 0 0, []⟩ : NodeQ) rfl oB oq oN nq lqB gm hBM hzB hzM gq0
      clear oB oq oN nq lqB gm hBM hzB hzM gq0
      refine ona 4 2 rfl (by kernel_rfl) ?_
      go_wp2
      refine ThenGo.to ⟨⟨⟨_, hW⟩, rfl⟩, ?_⟩
      refine ona 5 1 rfl (by kernel_rfl) ?_
      go_wp2
      refine ThenGo.to ⟨⟨⟨_, hW⟩, rfl⟩, ?_⟩
      refine ona 6 0 rfl (by kernel_rfl) ?_
      have U := out_row11 x w.heap.size #[.int .i64 0, .int .i64 0, .slice (some ⟨gB, 0, none⟩) 1 1, .slice (some ⟨gM, 0, none⟩) 3 3]
      have OP := cluK.own_out HP.out.1 U (fun k hk => by have := HP.out.2.2 k hk; simp; omega)
      have Rr := Rb.row #[.int .i64 0, .int .i64 0, .slice (some ⟨gB, 0, none⟩) 1 1, .slice (some ⟨gM, 0, none⟩) 3 3]
      have hW2 := below_row hW (g := w.heap.size) (Nat.le_refl _) #[.int .i64 0, .int .i64 0, .slice (some ⟨gB, 0, none⟩) 1 1, .slice (some ⟨gM, 0, none⟩) 3 3]
      have hz : (Tryd.prog.info? 27).map (·.size) = some (#[.int .i64 0, .int .i64 0, .slice (some ⟨gB, 0, none⟩) 1 1, .slice (some ⟨gM, 0, none⟩) 3 3] : Array Value).size := by kernel_rfl
      refine st_row (by kernel_rfl) 27 _ _ rfl _ #[.int .i64 0, .int .i64 0, .slice (some ⟨gB, 0, none⟩) 1 1, .slice (some ⟨gM, 0, none⟩) 3 3] rfl rfl 27 _ Rb hz rfl (by simp [Value.oneCell']) ?_
      refine ThenGo.to ⟨⟨⟨_, hW2⟩, rfl⟩, ?_⟩
      refine text_end (by kernel_rfl) ?_
      have HE : Hid (_ ∧ _) := ⟨OP, hW2⟩
      clear OP hW2 hW U Rb hz
      obtain ⟨q0, q1, q2, q3⟩ := Rr.cel4
      go_wp2
      exact bodyPost_ret (v := .agg #[.int .i64 0, .int .i64 0, .slice (some ⟨gB, 0, none⟩) 1 1, .slice (some ⟨gM, 0, none⟩) 3 3]) (by simp [results, Tryd.results5, go_sem, q0, q1, q2, q3]) rfl ⟨(⟨.slice (some ⟨gB, 0, none⟩) 1 1, [(⟨hs, .slice s1 bt.length t1, bt, .slice s2 rs.length t2, rs, .slice s3 dc.length t3, dc⟩ : InstQ)], .slice (some ⟨gM, 0, none⟩) 3 3, (List.replicate 3 (⟨0, 0, .slice none 0 0, [], .slice none 0 0, [], .slice none 0 0, [], .slice none 0 0, [], .slice none 0 0, []⟩ : NodeQ))⟩ : CluQ), rfl, newC_e eq, HE.out.1, HP.out.2.1, fun k hk => by have := HP.out.2.2 k hk; omega, HE.out.2⟩
  · refine op_one 3 _ rfl ?_
    refine wpList_make_full _ rfl _ _ 23 rfl x.heap.size 74 i0 (.agg #[.int .i64 0, .int .i64 0, .slice none 0 0, .slice none 0 0, .slice none 0 0, .slice none 0 0, .slice none 0 0]) 7 Tryd.underlying23 hi hz0 hz1 _ _ _ _ 3 rfl rfl rfl rfl hby hmx (Nat.le_refl _) ?_
    intro x1 hown hgrow
    have hzM : w.heap.size < x.heap.size := Rb.lt
    have hba : Below x.heap.size x x1 := (Below.refl _ _).grown hgrow (Nat.le_refl _) (by simp)
    have oN : nodeK.Own x1 (.slice (some ⟨x.heap.size, 0, none⟩) 3 3) (List.replicate 3 (⟨0, 0, .slice none 0 0, [], .slice none 0 0, [], .slice none 0 0, [], .slice none 0 0, [], .slice none 0 0, []⟩ : NodeQ)) := by
      refine ⟨?_, fun p hp => ?_⟩
      · rw [List.length_replicate, ← made_row (⟨0, 0, .slice none 0 0, [], .slice none 0 0, [], .slice none 0 0, [], .slice none 0 0, [], .slice none 0 0, []⟩ : NodeQ) _ (by decide)]
        exact own_base hown (Nat.zero_le _)
      · rw [(List.mem_replicate.1 hp).2]
        exact ⟨(Kind.own_nil _).1, (Kind.own_nil _).1, (Kind.own_nil _).1, (Kind.own_nil _).1, (Kind.own_nil _).1⟩
    have hMl : x.heap.size < x1.heap.size := oN.lt _ (by rw [fp_new rfl]; simp)
    replace Rb := Rb.below hba
    replace hW := hW.trans (hba.mono hW.size)
    clear hba hown hgrow
    go_wp2
    refine ThenGo.to ⟨⟨⟨_, hW⟩, rfl⟩, ?_⟩
    generalize hgM : x.heap.size = gM at *
    clear hgM
    generalize x1 = x at *
    refine cla 0 (some 1) 10 #[] 5 (by kernel_rfl) ?_
    have hX := Rb.lt
    refine (implNewInstance_any _ (hO.below hW)).mono ?_
    rintro e x ⟨q, rfl, eq, oq, nq, gq, hb⟩
    replace oN := oN.below hb
    have gm : ∀ k ∈ instK.foot q, k ≠ gM := fun k hk => by have := gq k hk; omega
    replace hMl : gM < x.heap.size := by have := hb.size; omega
    have gq0 : ∀ k ∈ instK.foot q, w.heap.size < k := fun k hk => by have := gq k hk; omega
    replace Rb := Rb.below hb
    replace hW := hW.trans (hb.mono hW.size)
    clear hb gq hX
    have lq : ∀ k ∈ instK.foot q, k < x.heap.size := fun k hk => instK.own_lt oq k hk
    obtain ⟨hs, vb, bt, vr, rs, vd, dc⟩ := q
    obtain ⟨s1, t1, rfl⟩ : ∃ a c, vb = .slice a bt.length c := oq.1.shape
    obtain ⟨s2, t2, rfl⟩ : ∃ a c, vr = .slice a rs.length c := oq.2.1.shape
    obtain ⟨s3, t3, rfl⟩ : ∃ a c, vd = .slice a dc.length c := oq.2.2.shape
    refine ⟨_, rfl, ⟨⟨_, hW⟩, rfl⟩, ?_⟩
    dsimp only [resC]
    simp only [Act.put, pgE, pjE]
    refine qta 1 (some 2) (.agg #[.bool hs, .slice s1 bt.length t1, .slice s2 rs.length t2, .slice s3 dc.length t3]) 4 (by kernel_rfl) (fun u _ => by kernel_rfl) ⟨⟨_, hW⟩, rfl⟩ ?_
    simp only [Act.put, pgE, pjE]
    refine ona 2 3 rfl (by kernel_rfl) ?_
    have hzB : w.heap.size < x.heap.size := Rb.lt
    have hba : Below x.heap.size x (x.alloc (.cells #[.bool hs, .slice s1 bt.length t1, .slice s2 rs.length t2, .slice s3 dc.length t3] 39)) := by go_grown
    have oB := (own_zero (World.ownsRow_lit (e := 39) (size := 4) x #[.bool hs, .slice s1 bt.length t1, .slice s2 rs.length t2, .slice s3 dc.length t3] 1 (Nat.le_refl _) (by decide) rfl)).1
    replace oq := instK.own_out (F := []) oq (Out.of_below hba) (fun _ _ => by simp)
    replace oN := oN.below hba
    have hBM : x.heap.size ≠ gM := by omega
    have hBl : x.heap.size < (x.alloc (.cells #[.bool hs, .slice s1 bt.length t1, .slice s2 rs.length t2, .slice s3 dc.length t3] 39)).heap.size := by simp
    replace Rb := Rb.below hba
    replace hW := hW.trans (hba.mono hW.size)
    clear hba
    go_wp2
    refine ThenGo.to ⟨⟨⟨_, hW⟩, rfl⟩, ?_⟩
    have lqB : ∀ k ∈ instK.foot (⟨hs, .slice s1 bt.length t1, bt, .slice s2 rs.length t2, rs, .slice s3 dc.length t3, dc⟩ : InstQ), k ≠ x.heap.size := fun k hk => by have := lq k hk; omega
    generalize hgB : x.heap.size = gB at *
    generalize x.alloc (.cells #[.bool hs, .slice s1 bt.length t1, .slice s2 rs.length t2, .slice s3 dc.length t3] 39) = x at *
    clear hgB
    have HP : Hid (cluK.own x (⟨.slice (some ⟨gB, 0, none⟩) 1 1, [(⟨hs, .slice s1 bt.length t1, bt, .slice s2 rs.length t2, rs, .slice s3 dc.length t3, dc⟩ : InstQ)], .slice (some ⟨gM, 0, none⟩) 3 3, (List.replicate 3 (⟨0, 0, .slice none 0 0, [], .slice none 0 0, [], .slice none 0 0, [], .slice none 0 0, [], .slice none 0 0, []⟩ : NodeQ))⟩ : CluQ) ∧ (cluK.foot (⟨.slice (some ⟨gB, 0, none⟩) 1 1, [(⟨hs, .slice s1 bt.length t1, bt, .slice s2 rs.length t2, rs, .slice s3 dc.length t3, dc⟩ : InstQ)], .slice (some ⟨gM, 0, none⟩) 3 3, (List.replicate 3 (⟨0, 0, .slice none 0 0, [], .slice none 0 0, [], .slice none 0 0, [], .slice none 0 0, [], .slice none 0 0, []⟩ : NodeQ))⟩ : CluQ)).Nodup ∧ ∀ k ∈ cluK.foot (⟨.slice (some ⟨gB, 0, none⟩) 1 1, [(⟨hs, .slice s1 bt.length t1, bt, .slice s2 rs.length t2, rs, .slice s3 dc.length t3, dc⟩ : InstQ)], .slice (some ⟨gM, 0, none⟩) 3 3, (List.replicate 3 (⟨0, 0, .slice none 0 0, [], .slice none 0 0, [], .slice none 0 0, [], .slice none 0 0, [], .slice none 0 0, []⟩ : NodeQ))⟩ : CluQ), w.heap.size < k) := newC_own (⟨hs, .slice s1 bt.length t1, bt, .slice s2 rs.length t2, rs, .slice s3 dc.length t3, dc⟩ : InstQ) (⟨0, 0, .slice none 0 0, [], .slice none 0 0, [], .slice none 0 0, [], .slice none 0 0, [], .slice none 0 0, []⟩ : NodeQ) rfl oB oq oN nq lqB gm hBM hzB hzM gq0
    clear oB oq oN nq lqB gm hBM hzB hzM gq0
    refine ona 4 2 rfl (by kernel_rfl) ?_
    go_wp2
    refine ThenGo.to ⟨⟨⟨_, hW⟩, rfl⟩, ?_⟩
    refine ona 5 1 rfl (by kernel_rfl) ?_
    go_wp2
    refine ThenGo.to ⟨⟨⟨_, hW⟩, rfl⟩, ?_⟩
    refine ona 6 0 rfl (by kernel_rfl) ?_
    have U := out_row11 x w.heap.size #[.int .i64 0, .int .i64 0, .slice (some ⟨gB, 0, none⟩) 1 1, .slice (some ⟨gM, 0, none⟩) 3 3]
    have OP := cluK.own_out HP.out.1 U (fun k hk => by have := HP.out.2.2 k hk; simp; omega)
    have Rr := Rb.row #[.int .i64 0, .int .i64 0, .slice (some ⟨gB, 0, none⟩) 1 1, .slice (some ⟨gM, 0, none⟩) 3 3]
    have hW2 := below_row hW (g := w.heap.size) (Nat.le_refl _) #[.int .i64 0, .int .i64 0, .slice (some ⟨gB, 0, none⟩) 1 1, .slice (some ⟨gM, 0, none⟩) 3 3]
    have hz : (Tryd.prog.info? 27).map (·.size) = some (#[.int .i64 0, .int .i64 0, .slice (some ⟨gB, 0, none⟩) 1 1, .slice (some ⟨gM, 0, none⟩) 3 3] : Array Value).size := by kernel_rfl
    refine st_row (by kernel_rfl) 27 _ _ rfl _ #[.int .i64 0, .int .i64 0, .slice (some ⟨gB, 0, none⟩) 1 1, .slice (some ⟨gM, 0, none⟩) 3 3] rfl rfl 27 _ Rb hz rfl (by simp [Value.oneCell']) ?_
    refine ThenGo.to ⟨⟨⟨_, hW2⟩, rfl⟩, ?_⟩
    refine text_end (by kernel_rfl) ?_
    have HE : Hid (_ ∧ _) := ⟨OP, hW2⟩
    clear OP hW2 hW U Rb hz
    obtain ⟨q0, q1, q2, q3⟩ := Rr.cel4
    go_wp2
    exact bodyPost_ret (v := .agg #[.int .i64 0, .int .i64 0, .slice (some ⟨gB, 0, none⟩) 1 1, .slice (some ⟨gM, 0, none⟩) 3 3]) (by simp [results, Tryd.results5, go_sem, q0, q1, q2, q3]) rfl ⟨(⟨.slice (some ⟨gB, 0, none⟩) 1 1, [(⟨hs, .slice s1 bt.length t1, bt, .slice s2 rs.length t2, rs, .slice s3 dc.length t3, dc⟩ : InstQ)], .slice (some ⟨gM, 0, none⟩) 3 3, (List.replicate 3 (⟨0, 0, .slice none 0 0, [], .slice none 0 0, [], .slice none 0 0, [], .slice none 0 0, [], .slice none 0 0, []⟩ : NodeQ))⟩ : CluQ), rfl, newC_e eq, HE.out.1, HP.out.2.1, fun k hk => by have := HP.out.2.2 k hk; omega, HE.out.2⟩

theorem specNewCluster_any (w : World) :
    Calls Tryd.prog 4 #[] w fun e w' => ∃ p : CluQ, e = .returned (.agg #[.int .i64 0, .int .i64 0, p.vo, p.vm]) ∧ p.e = newC ∧ cluK.own w' p ∧ (cluK.foot p).Nodup ∧ (∀ k ∈ cluK.foot p, w.heap.size ≤ k) ∧ Below w.heap.size w w' := by
  have hW : Below w.heap.size w (w.alloc (.cells #[.int .i64 0, .int .i64 0, .slice none 0 0, .slice none 0 0] 27)) := by go_grown
  have Rb := Blk.new w 27 #[.int .i64 0, .int .i64 0, .slice none 0 0, .slice none 0 0]
  go_enter Tryd.func4, Tryd.ntmps4
  go_wp2_with fail
  have hX := Rb.lt
  generalize w.alloc (.cells #[.int .i64 0, .int .i64 0, .slice none 0 0, .slice none 0 0] 27) = W at *
  refine (l12New_any W).mono ?_
  rintro e x ⟨p, rfl, ep, op, np, gp, hb⟩
  have gp0 : ∀ k ∈ cluK.foot p, w.heap.size < k := fun k hk => by have := gp k hk; omega
  replace Rb := Rb.below hb
  replace hW := hW.trans (hb.mono hW.size)
  clear hb gp hX
  obtain ⟨vo, ord, vm, mem⟩ := p
  obtain ⟨a0, k0, rfl⟩ : ∃ a c, vo = .slice a ord.length c := op.1.shape
  obtain ⟨a1, k1, rfl⟩ : ∃ a c, vm = .slice a mem.length c := op.2.shape
  have U := out_row11 x w.heap.size #[.int .i64 0, .int .i64 0, .slice a0 ord.length k0, .slice a1 mem.length k1]
  have OP := cluK.own_out op U (fun k hk => by have := gp0 k hk; simp; omega)
  have Rr := Rb.row #[.int .i64 0, .int .i64 0, .slice a0 ord.length k0, .slice a1 mem.length k1]
  have hW2 := below_row hW (g := w.heap.size) (Nat.le_refl _) #[.int .i64 0, .int .i64 0, .slice a0 ord.length k0, .slice a1 mem.length k1]
  have hz : (Tryd.prog.info? 27).map (·.size) = some (#[.int .i64 0, .int .i64 0, .slice a0 ord.length k0, .slice a1 mem.length k1] : Array Value).size := by kernel_rfl
  clear op U hW
  go_wp2_with (refine st_row (by kernel_rfl) 27 _ _ rfl _ #[.int .i64 0, .int .i64 0, .slice a0 ord.length k0, .slice a1 mem.length k1] rfl rfl 27 _ Rb hz rfl (by simp [Value.oneCell']) ?_)
  obtain ⟨q0, q1, q2, q3⟩ := Rr.cel4
  exact bodyPost_ret (v := .agg #[.int .i64 0, .int .i64 0, .slice a0 ord.length k0, .slice a1 mem.length k1]) (by simp [results, Tryd.results4, go_sem, q0, q1, q2, q3]) rfl ⟨(⟨.slice a0 ord.length k0, ord, .slice a1 mem.length k1, mem⟩ : CluQ), rfl, ep, OP, np, fun k hk => by have := gp0 k hk; omega, hW2⟩

end Go.Proofs.YtkklhbofeghnbaaDoor
