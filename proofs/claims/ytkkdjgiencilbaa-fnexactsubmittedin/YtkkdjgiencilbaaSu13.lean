/- SubmittedIn, of the program and of its model. No condition. -/
import Derived.Test.YtkkdjgiencilbaaHc13
import Derived.Test.YtkkdjgiencilbaaCz13
import Derived.Test.YtkkdjgiencilbaaFoot3
namespace Go.Proofs.Ytkkdjgiencilbaa
open Go.RowKit
open Go.BigFrame
set_option linter.unusedVariables false
set_option linter.unusedSimpArgs false
set_option maxRecDepth 100000

def suT (ds : List StepD) : List TxnD := (ds.filter (fun d => d.kd == 1)).map StepD.t
def suC (ds : List StepD) : Int := if 20 < ds.length then 2 else 0
def suL (ds : List StepD) : List TxnD := if 20 < ds.length then [] else suT ds
theorem suT_one (ps : List StepQ) (k : Nat) (hk : k < ps.length) (h : (ps[k].kd == 1) = true) : suT ((ps.take (k + 1)).map StepQ.e) = suT ((ps.take k).map StepQ.e) ++ [(StepQ.e ps[k]).t] := by
  have h' : ((StepQ.e ps[k]).kd == 1) = true := h
  unfold suT
  rw [List.take_succ_eq_append_getElem hk, List.map_append, List.filter_append, List.map_append]
  congr 1
  simp only [List.map_cons, List.map_nil, List.filter_cons, List.filter_nil, h', if_true]
theorem suT_no (ps : List StepQ) (k : Nat) (hk : k < ps.length) (h : (ps[k].kd == 1) = false) : suT ((ps.take (k + 1)).map StepQ.e) = suT ((ps.take k).map StepQ.e) := by
  have h' : ((StepQ.e ps[k]).kd == 1) = false := h
  unfold suT
  rw [List.take_succ_eq_append_getElem hk, List.map_append, List.filter_append, List.map_append]
  simp only [List.map_cons, List.map_nil, List.filter_cons, List.filter_nil, h', Bool.false_eq_true, if_false, List.append_nil]
theorem suT_len (ds : List StepD) : (suT ds).length ≤ ds.length := by
  simp only [suT, List.length_map]
  exact List.length_filter_le _ _
theorem su_n {qs : List TxnQ} {ps : List StepQ} (h : qs.map TxnQ.e = suL (ps.map StepQ.e)) (hl : ps.length + nmL StepQ.n ps ≤ 1048576) : qs.length + nmL TxnQ.n qs ≤ 1048576 := by
  have key : ∀ ds : List StepD, (suT ds).length + ((suT ds).map TxnD.n).sum ≤ ds.length + (ds.map (fun d => d.t.acts.length)).sum := by
    intro ds
    induction ds with
    | nil => simp [suT]
    | cons d r ih =>
      cases hd : (d.kd == 1)
      · have : suT (d :: r) = suT r := by simp [suT, hd]
        rw [this]
        simp only [List.length_cons, List.map_cons, List.sum_cons]
        omega
      · have : suT (d :: r) = d.t :: suT r := by simp [suT, hd]
        rw [this]
        simp only [List.length_cons, List.map_cons, List.sum_cons, TxnD.n] at ih ⊢
        omega
  have h1 : qs.length = (suL (ps.map StepQ.e)).length := by rw [← h, List.length_map]
  have h2 : nmL TxnQ.n qs = ((suL (ps.map StepQ.e)).map TxnD.n).sum := by
    rw [← h, List.map_map]
    rfl
  have h3 : nmL StepQ.n ps = ((ps.map StepQ.e).map (fun d => d.t.acts.length)).sum := by
    rw [List.map_map]
    rfl
  have h4 := key (ps.map StepQ.e)
  rw [List.length_map] at h4
  rw [h1, h2]
  rw [h3] at hl
  unfold suL
  split
  · simp
  · omega

set_option maxHeartbeats 8000000 in
theorem implSubmittedIn_any (v : Value) (ps : List StepQ) (w : World) (h : stepK.At w v ps) (hz : ∀ p ∈ ps, NiceZ (⟨p.i, p.s, p.q, p.va, p.acts⟩ : TxnQ)) (hl : ps.length + nmL StepQ.n ps ≤ 1048576) :
    Calls Try.prog 20 #[v] w fun e w' => ∃ (v1 : Value) (q1 : List TxnQ), e = .returned (.agg #[.int .i64 (suC (ps.map StepQ.e)), v1]) ∧ q1.map TxnQ.e = suL (ps.map StepQ.e) ∧ txnK.Own w' v1 q1 ∧ (txnK.fp v1 q1).Nodup ∧ (∀ k ∈ txnK.fp v1 q1, w.heap.size ≤ k) ∧ Below w.heap.size w w' := by
  obtain ⟨a, cap, rfl⟩ := h.shape
  obtain ⟨i0, hi, hz0, hz1, hz2⟩ := info_parts infoTxn
  obtain ⟨hn1, hn2⟩ := Kind.own_nil (K := txnK) (w.alloc (.cells #[.int .i64 0, .slice none 0 0] 56))
  have HN0 : Hid ((txnK.fp (.slice none 0 0) ([] : List TxnQ)).Nodup ∧ ∀ k ∈ txnK.fp (.slice none 0 0) ([] : List TxnQ), (w.alloc (.cells #[.int .i64 0, .slice none 0 0] 56)).heap.size ≤ k) := by
    rw [hn2]
    exact ⟨by simp, by simp⟩
  clear hn2
  have hB : Below w.heap.size w (w.alloc (.cells #[.int .i64 0, .slice none 0 0] 56)) := by go_grown
  have B := Blk.new w 56 #[.int .i64 0, .slice none 0 0]
  have hSW : (w.alloc (.cells #[.int .i64 0, .slice none 0 0] 56)).heap.size = w.heap.size + 1 := by simp only [World.size_alloc]
  have hW := h.below hB
  have HSU : Hid ((20 < ps.length → suC (ps.map StepQ.e) = 2 ∧ suL (ps.map StepQ.e) = []) ∧ (ps.length ≤ 20 → suC (ps.map StepQ.e) = 0 ∧ suL (ps.map StepQ.e) = suT (ps.map StepQ.e))) := by
    refine ⟨fun hb => ?_, fun hb => ?_⟩
    · simp [suC, suL, hb]
    · have hb' : ¬ 20 < ps.length := by omega
      simp [suC, suL, hb']
  have hzr : (Try.prog.info? 56).map (·.size) = some (#[.int .i64 0, .slice none 0 0] : Array Value).size := by kernel_rfl
  by_cases hbig : 20 < ps.length
  · obtain ⟨E1, E2⟩ := HSU.out.1 hbig
    rw [E1, E2]
    clear E1 E2 HSU HN0 hn1 hz
    have hbi : (ps.length : Int) > 20 := by omega
    have hgt : (20 : Int) < (ps.length : Int) := by omega
    go_enter Try.func20, Try.ntmps20
    go_wp2_with (refine st_row (by kernel_rfl) 56 _ _ rfl _ #[.int .i64 2, .slice none 0 0] rfl rfl 56 _ B hzr rfl (by simp [Value.oneCell']) ?_)
    have D := B.row #[.int .i64 2, .slice none 0 0]
    obtain ⟨d0, d1⟩ := D.cel2
    exact bodyPost_ret (v := .agg #[.int .i64 2, .slice none 0 0]) (by simp [results, Try.results20, go_sem, d0, d1]) rfl ⟨.slice none 0 0, [], rfl, rfl, (Kind.own_nil _).1, by simp [Kind.fp, blk, Value.ownBlock], by simp [Kind.fp, blk, Value.ownBlock], below_row hB (Nat.le_refl _) _⟩
  obtain ⟨E1, E2⟩ := HSU.out.2 (by omega)
  rw [E1, E2]
  clear E1 E2 HSU
  have hbi : ¬ (20 : Int) < (ps.length : Int) := by omega
  go_enter Try.func20, Try.ntmps20
  go_wp2
  generalize (w.alloc (.cells #[.int .i64 0, .slice none 0 0] 56)) = W at *
  go_loopw [3, 12] (fun v j wr => ∃ (k : Nat) (qs : List TxnQ), k ≤ ps.length ∧ j = .int .i64 k ∧ Hid (qs.map TxnQ.e = suT ((ps.take k).map StepQ.e)) ∧ txnK.Own wr v qs ∧ Hid ((txnK.fp v qs).Nodup ∧ ∀ k ∈ txnK.fp v qs, W.heap.size ≤ k) ∧ Below W.heap.size W wr) (fun _ j _ => ps.length - (intOf j).toNat)
  case atStart => exact ⟨0, [], Nat.zero_le _, rfl, show _ = _ by simp [suT], hn1, HN0, Below.refl _ _⟩
  case round =>
    clear HN0 hn1
    obtain ⟨k, qs, hk, rfl, HE, hO, HN, hb⟩ := hrel
    obtain ⟨sa, sc, rfl⟩ := hO.shape
    have HQL : Hid (qs.length ≤ k) := by
      have := congrArg List.length HE.out
      rw [List.length_map] at this
      have h2 := suT_len ((ps.take k).map StepQ.e)
      rw [List.length_map, List.length_take] at h2
      show qs.length ≤ k
      omega
    by_cases hlt : k < ps.length
    · obtain ⟨b, off, rfl, hbs, hc, hrd⟩ := (hW.below hb).cell (by decide) k hlt
      have hc' : ∀ j x, (stepK.cells ps[k])[j]? = some x → wr.cell? ⟨b, off + k * 11 + j, none⟩ = some x := hc
      have c0 := hc' 0 (.int .i64 ps[k].kd) rfl
      have c1 := hc' 1 (.int .i64 ps[k].nd) rfl
      have c2 := hc' 2 (.int .i64 ps[k].nn) rfl
      have c3 := hc' 3 (.int .i64 ps[k].i) rfl
      have c4 := hc' 4 (.int .i64 ps[k].s) rfl
      have c5 := hc' 5 (.int .i64 ps[k].q) rfl
      have c6 := hc' 6 (ps[k].va) rfl
      have c7 := hc' 7 (.int .i64 ps[k].vk) rfl
      have c8 := hc' 8 (.int .i64 ps[k].vr) rfl
      have c9 := hc' 9 (.int .i64 ps[k].vn) rfl
      have c10 := hc' 10 (.int .i64 ps[k].vv) rfl
      have hzl := nm_le StepQ.n ps k hlt
      have hzk := hz _ (List.getElem_mem hlt)
      have HPE : Hid (∀ p' : TxnQ, (ps[k].kd == 1) = true → p'.e = (StepQ.e ps[k]).t → (qs ++ [p']).map TxnQ.e = suT ((ps.take (k + 1)).map StepQ.e)) := fun p' h1 hp' => by
        rw [suT_one ps k hlt h1, List.map_append, HE.out, List.map_singleton, hp']
      have HPN : Hid ((ps[k].kd == 1) = false → qs.map TxnQ.e = suT ((ps.take (k + 1)).map StepQ.e)) := fun h1 => by
        rw [suT_no ps k hlt h1, HE.out]
      clear hc hc' h
      generalize ps[k] = p at *
      obtain ⟨kd, nd, nn, i, s, q, va, acts, vk, vr, vn, vv⟩ := p
      replace hrd : actK.At wr va acts := hrd
      replace hzl : acts.length ≤ nmL StepQ.n ps := hzl
      obtain ⟨aa, ac, rfl⟩ := hrd.shape
      dsimp only at c0 c1 c2 c3 c4 c5 c6 c7 c8 c9 c10 HPE HPN hzk
      have hbY : Below wr.heap.size wr (wr.alloc (.cells #[.int .i64 kd, .int .i64 nd, .int .i64 nn, .int .i64 i, .int .i64 s, .int .i64 q, .slice aa acts.length ac, .int .i64 vk, .int .i64 vr, .int .i64 vn, .int .i64 vv] 48)) := by go_grown
      have S := Blk.new wr 48 #[.int .i64 kd, .int .i64 nd, .int .i64 nn, .int .i64 i, .int .i64 s, .int .i64 q, .slice aa acts.length ac, .int .i64 vk, .int .i64 vr, .int .i64 vn, .int .i64 vv]
      have hrd2 := txnK.rd_below (p := (⟨i, s, q, .slice aa acts.length ac, acts⟩ : TxnQ)) hrd hbY
      have hcl := cloneTxnQ_any ⟨i, s, q, .slice aa acts.length ac, acts⟩ _ hrd2 hzk (by dsimp only; omega)
      dsimp only at hcl
      rw [Nat.add_zero] at c0
      replace hO := hO.below hbY
      replace hb := hb.trans (hbY.mono hb.size)
      clear HE hrd2 hzk
      cases hkd : (kd == 1)
      · have HE5 : Hid _ := HPN.out hkd
        clear HPE HPN hcl
        have z0 := S.cell 0 _ rfl
        have z1 := S.cell 1 _ rfl
        have z2 := S.cell 2 _ rfl
        have z3 := S.cell 3 _ rfl
        have z4 := S.cell 4 _ rfl
        have z5 := S.cell 5 _ rfl
        have z6 := S.cell 6 _ rfl
        have z7 := S.cell 7 _ rfl
        have z8 := S.cell 8 _ rfl
        have z9 := S.cell 9 _ rfl
        have z10 := S.cell 10 _ rfl
        go_wp2
        go_roundw
        case rel => exact ⟨k + 1, qs, by omega, by go_num, HE5.out, hO, HN.out, hb⟩
        case measure => simp [intOf]; omega
      have HPE' : Hid (∀ p' : TxnQ, p'.e = (⟨i, s, q, acts⟩ : TxnD) → (qs ++ [p']).map TxnQ.e = suT ((ps.take (k + 1)).map StepQ.e)) := fun p' hp' => HPE.out p' hkd hp'
      clear HPE HPN
      have z0 := S.cell 0 _ rfl
      have z1 := S.cell 1 _ rfl
      have z2 := S.cell 2 _ rfl
      have z3 := S.cell 3 _ rfl
      have z4 := S.cell 4 _ rfl
      have z5 := S.cell 5 _ rfl
      have z6 := S.cell 6 _ rfl
      have z7 := S.cell 7 _ rfl
      have z8 := S.cell 8 _ rfl
      have z9 := S.cell 9 _ rfl
      have z10 := S.cell 10 _ rfl
      go_wp2_with fail
      clear c0 c1 c2 c3 c4 c5 c6 c7 c8 c9 c10 z0 z1 z2 z3 z4 z5 z6 z7 z8 z9 z10 S
      generalize wr.alloc (.cells #[.int .i64 kd, .int .i64 nd, .int .i64 nn, .int .i64 i, .int .i64 s, .int .i64 q, .slice aa acts.length ac, .int .i64 vk, .int .i64 vr, .int .i64 vn, .int .i64 vv] 48) = Y at *
      have hYs : W.heap.size ≤ Y.heap.size := hb.size
      refine hcl.mono ?_
      rintro e w2 ⟨a2, c2, rfl, ho2, hb2⟩
      have HLT := hO.lt
      replace hO := hO.below hb2
      replace hb := hb.trans (hb2.mono hb.size)
      obtain ⟨o2, hk2⟩ := own_zero ho2
      have hP : txnK.own w2 ⟨i, s, q, .slice a2 acts.length c2, acts⟩ := ⟨o2, fun _ _ => trivial⟩
      have hPlo : ∀ x ∈ txnK.foot ⟨i, s, q, .slice a2 acts.length c2, acts⟩, Y.heap.size ≤ x := fun x hx => hk2 x (by rw [← actK_fp (.slice a2 acts.length c2) acts]; exact hx)
      have hPn : (txnK.foot ⟨i, s, q, .slice a2 acts.length c2, acts⟩).Nodup := by
        show (actK.fp _ _).Nodup
        rw [actK_fp]; exact blk_nodup _
      have hbA : Below w2.heap.size w2 (w2.alloc (.cells #[.int .i64 i, .int .i64 s, .int .i64 q, .slice a2 acts.length c2] 45)) := by go_grown
      have hOA := hO.below hbA
      have hPA := txnK.own_out (F := []) hP (Out.of_below hbA) (fun _ _ => by simp)
      have hbB := hb.trans (hbA.mono hb.size)
      clear hcl ho2 hO hP hk2
      have hrow0 := hOA.1
      go_wp2_with (at_builtin; refine wpList_append_own_at _ rfl _ _ 54 rfl 0 45 i0 (.agg #[.int .i64 0, .int .i64 0, .int .i64 0, .slice none 0 0]) 4 48 Try.underlying54 hi hz0 hz1 hz2 rfl (by decide) _ qs.length (txnK.row qs) rfl hrow0 ⟨w2.heap.size, 0, none⟩ 1 1 [.int .i64 i, .int .i64 s, .int .i64 q, .slice a2 acts.length c2] rfl rfl ?c1 ?c2 ?c3 ?c4 ?c5 ?_)
      all_goals try (case c1 => intro j u hj; match j, hj with | 0, hj => simp at hj; subst hj; simp [Addr.add] | 1, hj => simp at hj; subst hj; simp [Addr.add] | 2, hj => simp at hj; subst hj; simp [Addr.add] | 3, hj => simp at hj; subst hj; simp [Addr.add])
      all_goals try (case c2 => intro u hu; simp at hu; rcases hu with rfl | rfl | rfl | rfl <;> rfl)
      all_goals try (case c3 => have := HQL.out; unfold maxLen; omega)
      all_goals try (case c4 => have := HQL.out; omega)
      all_goals try (case c5 => first | omega | simp)
      intro v' w5 hown hgrow hnil hat
      clear hnil hrow0
      rw [show w2.heap.size + 1 = (w2.alloc (.cells #[.int .i64 i, .int .i64 s, .int .i64 q, .slice a2 acts.length c2] 45)).heap.size from (World.size_alloc _ _).symm] at hat
      generalize hwA : w2.alloc (.cells #[.int .i64 i, .int .i64 s, .int .i64 q, .slice a2 acts.length c2] 45) = WA at *
      clear hwA
      have hsz : Y.heap.size ≤ WA.heap.size := by have := hb2.size; have := hbA.size; omega
      obtain ⟨hO5, hn5, hlo5, hou⟩ := hOA.snoc HN.out.1 HN.out.2 hPA hPn (fun x hx hx' => by have := HLT x hx'; have := hPlo x hx; omega) (fun x hx => by have := hPlo x hx; omega) hbB.size hown hgrow hat
      have hb5 : Below W.heap.size W w5 := Out.keep hbB hou hbB.size (fun x hx => HN.out.2 x (by simp only [Kind.fp, List.mem_append]; exact Or.inl hx))
      have HE5 : Hid ((qs ++ [(⟨i, s, q, .slice a2 acts.length c2, acts⟩ : TxnQ)]).map TxnQ.e = suT ((ps.take (k + 1)).map StepQ.e)) := HPE'.out _ rfl
      have HN5 : Hid ((txnK.fp v' (qs ++ [(⟨i, s, q, .slice a2 acts.length c2, acts⟩ : TxnQ)])).Nodup ∧ ∀ k ∈ txnK.fp v' (qs ++ [(⟨i, s, q, .slice a2 acts.length c2, acts⟩ : TxnQ)]), W.heap.size ≤ k) := ⟨hn5, hlo5⟩
      clear HPE' HN HLT hPlo hPn hPA hOA hbB hown hgrow hat hou hn5 hlo5 hrd hb hbA hb2 hzl
      go_wp2
      go_roundw
      case rel => exact ⟨k + 1, _, by omega, by go_num, HE5, hO5, HN5, hb5⟩
      case measure => simp [intOf]; omega
    · have hkl : k = ps.length := by omega
      subst hkl
      have hE := HE.out
      rw [List.take_length] at hE
      have HE2 : Hid _ := hE
      clear HE hE HQL
      have B2 := B.below (w' := wr) hb
      have hzr2 : (Try.prog.info? 56).map (·.size) = some (#[.int .i64 0, .slice sa qs.length sc] : Array Value).size := by kernel_rfl
      have U := out_row wr w.heap.size #[.int .i64 0, .slice sa qs.length sc]
      have hb6 := Out.keep (hB.trans (hb.mono hB.size)) U (hB.trans (hb.mono hB.size)).size (fun x hx => by simp at hx; omega)
      have hO6 := hO.out U (fun x hx => by have := HN.out.2 x hx; simp; omega)
      go_wp2_with (refine st_row (by kernel_rfl) 56 _ _ rfl _ #[.int .i64 0, .slice sa qs.length sc] rfl rfl 56 _ B2 hzr2 rfl (by simp [Value.oneCell']) ?_)
      have D := B2.row #[.int .i64 0, .slice sa qs.length sc]
      obtain ⟨d0, d1⟩ := D.cel2
      exact bodyPost_ret (v := .agg #[.int .i64 0, .slice sa qs.length sc]) (by simp [results, Try.results20, go_sem, d0, d1]) rfl ⟨_, qs, rfl, HE2.out, hO6, HN.out.1, fun x hx => by have := HN.out.2 x hx; omega, hb6⟩

end Go.Proofs.Ytkkdjgiencilbaa
