/- SubmittedIn, of the model. No condition. -/
import Derived.Test.YtkkdjgiencilbaaSu13
import Derived.Test.YtkkdjgiencilbaaTextX
import Derived.Test.YtkkdjgiencilbaaMid6
namespace Go.Proofs.Ytkkdjgiencilbaa
open Go.RowKit
open Go.BigFrame
set_option linter.unusedVariables false
set_option linter.unusedSimpArgs false
set_option maxRecDepth 100000

set_option maxHeartbeats 8000000 in
theorem specSubmittedIn_any (v : Value) (ps : List StepQ) (w : World) (h : stepK.At w v ps) (hz : ∀ p ∈ ps, NiceZ (⟨p.i, p.s, p.q, p.va, p.acts⟩ : TxnQ)) (hl : ps.length + nmL StepQ.n ps ≤ 1048576) :
    Calls Try.prog 18 #[v] w fun e w' => ∃ (v1 : Value) (q1 : List TxnQ), e = .returned (.agg #[.int .i64 (suC (ps.map StepQ.e)), v1]) ∧ q1.map TxnQ.e = suL (ps.map StepQ.e) ∧ txnK.Own w' v1 q1 ∧ (txnK.fp v1 q1).Nodup ∧ (∀ k ∈ txnK.fp v1 q1, w.heap.size ≤ k) ∧ Below w.heap.size w w' := by
  obtain ⟨a, cap, rfl⟩ := h.shape
  obtain ⟨i0, hi, hz0, hz1, hz2⟩ := info_parts infoTxn
  have HSU : Hid ((20 < ps.length → suC (ps.map StepQ.e) = 2 ∧ suL (ps.map StepQ.e) = []) ∧ (ps.length ≤ 20 → suC (ps.map StepQ.e) = 0 ∧ suL (ps.map StepQ.e) = suT (ps.map StepQ.e))) := by
    refine ⟨fun hb => ?_, fun hb => ?_⟩
    · simp [suC, suL, hb]
    · have hb' : ¬ 20 < ps.length := by omega
      simp [suC, suL, hb']
  have hzr : (Try.prog.info? 56).map (·.size) = some (#[.int .i64 0, .slice none 0 0] : Array Value).size := by kernel_rfl
  by_cases hbig : 20 < ps.length
  · obtain ⟨E1, E2⟩ := HSU.out.1 hbig
    rw [E1, E2]
    clear E1 E2 HSU hz
    have hB : Below w.heap.size w (w.alloc (.cells #[.int .i64 0, .slice none 0 0] 56)) := by go_grown
    have B := Blk.new w 56 #[.int .i64 0, .slice none 0 0]
    have hgt : (20 : Int) < (ps.length : Int) := by omega
    go_enter Try.func18, Try.ntmps18
    go_wp2_with (refine st_row (by kernel_rfl) 56 _ _ rfl _ #[.int .i64 2, .slice none 0 0] rfl rfl 56 _ B hzr rfl (by simp [Value.oneCell']) ?_)
    have D := B.row #[.int .i64 2, .slice none 0 0]
    obtain ⟨d0, d1⟩ := D.cel2
    exact bodyPost_ret (v := .agg #[.int .i64 2, .slice none 0 0]) (by simp [results, Try.results18, go_sem, d0, d1]) rfl ⟨.slice none 0 0, [], rfl, rfl, (Kind.own_nil _).1, by simp [Kind.fp, blk, Value.ownBlock], by simp [Kind.fp, blk, Value.ownBlock], below_row hB (Nat.le_refl _) _⟩
  obtain ⟨E1, E2⟩ := HSU.out.2 (by omega)
  rw [E1, E2]
  clear E1 E2 HSU
  have hbi : ¬ (20 : Int) < (ps.length : Int) := by omega
  have B1 := Blk.new (w.alloc (.cells #[.int .i64 0, .slice none 0 0] 56)) 56 #[.int .i64 0, .slice none 0 0]
  have B0 := (Blk.new w 56 #[.int .i64 0, .slice none 0 0]).below (w' := ((w.alloc (.cells #[.int .i64 0, .slice none 0 0] 56)).alloc (.cells #[.int .i64 0, .slice none 0 0] 56))) (by go_grown)
  simp only [World.size_alloc] at B1
  have hB2 : Below w.heap.size w ((w.alloc (.cells #[.int .i64 0, .slice none 0 0] 56)).alloc (.cells #[.int .i64 0, .slice none 0 0] 56)) := by go_grown
  have Bg := B1.row #[.int .i64 0, .slice none 0 0]
  have U0 := out_row ((w.alloc (.cells #[.int .i64 0, .slice none 0 0] 56)).alloc (.cells #[.int .i64 0, .slice none 0 0] 56)) (w.heap.size + 1) #[.int .i64 0, .slice none 0 0]
  have Rb : Blk _ _ _ _ := (U0.block _ B0.lt (by simp)).trans B0
  have hBX := Out.keep hB2 U0 hB2.size (fun x hx => by simp at hx; omega)
  have hXs : (((w.alloc (.cells #[.int .i64 0, .slice none 0 0] 56)).alloc (.cells #[.int .i64 0, .slice none 0 0] 56)).setRow (w.heap.size + 1) #[.int .i64 0, .slice none 0 0]).heap.size = w.heap.size + 2 := by rw [setRow_size]; simp only [World.size_alloc]
  go_enter Try.func18, Try.ntmps18
  go_wp2_with (refine st_row (by kernel_rfl) 56 _ _ rfl _ #[.int .i64 0, .slice none 0 0] rfl rfl 56 _ B1 hzr rfl (by simp [Value.oneCell']) ?_)
  try simp only [Act.put]
  clear B1 B0 hB2 U0
  generalize (((w.alloc (.cells #[.int .i64 0, .slice none 0 0] 56)).alloc (.cells #[.int .i64 0, .slice none 0 0] 56)).setRow (w.heap.size + 1) #[.int .i64 0, .slice none 0 0]) = X at *
  have hg : w.heap.size + 1 < X.heap.size := by omega
  have hgw : w.heap.size < w.heap.size + 1 := by omega
  generalize hgg : w.heap.size + 1 = g at *
  obtain ⟨hn1, hn2⟩ := Kind.own_nil (K := txnK) X
  have HN0 : Hid ((txnK.fp (.slice none 0 0) ([] : List TxnQ)).Nodup ∧ ∀ k ∈ txnK.fp (.slice none 0 0) ([] : List TxnQ), X.heap.size ≤ k) := by
    rw [hn2]
    exact ⟨by simp, by simp⟩
  clear hn2
  have HGG : Hid (w.heap.size + 1 = g) := hgg
  clear hgg hXs
  have hX := h.below hBX
  go_wp2
  go_loopw [4] (fun j wr => ∃ (k : Nat) (v2 : Value) (qs : List TxnQ), k ≤ ps.length ∧ j = .int .i64 k ∧ Hid (qs.map TxnQ.e = suT ((ps.take k).map StepQ.e)) ∧ txnK.Own wr v2 qs ∧ Hid ((txnK.fp v2 qs).Nodup ∧ ∀ k ∈ txnK.fp v2 qs, X.heap.size ≤ k) ∧ Hid (Blk wr g 56 #[.int .i64 0, v2]) ∧ Hid (Out [g] X wr)) (fun j _ => ps.length - (intOf j).toNat)
  case atStart => exact ⟨0, .slice none 0 0, [], Nat.zero_le _, rfl, show _ = _ by simp [suT], hn1, HN0, Bg, Out.refl _ _⟩
  case round =>
    clear HN0 hn1 Bg
    obtain ⟨k, v2, qs, hk, rfl, HE, hO, HN, HBg, HO⟩ := hrel
    obtain ⟨sa, sc, rfl⟩ := hO.shape
    have hBr : Below w.heap.size w wr := Out.keep hBX HO.out hBX.size (fun x hx => by simp only [List.mem_singleton] at hx; omega)
    have hXr := HO.out.size
    have HLO : Hid (∀ x ∈ blk (.slice sa qs.length sc), X.heap.size ≤ x) := fun x hx => HN.out.2 x (by simp only [Kind.fp, List.mem_append]; exact Or.inl hx)
    by_cases hlt : k < ps.length
    · obtain ⟨rb, ro, rfl, hbs, hc, hrd⟩ := (h.below hBr).cell (by decide) k hlt
      have hrbw : rb < w.heap.size := by
        obtain ⟨rb', ro', e', hbs', _, _⟩ := h.cell (by decide) k hlt
        simp only [Option.some.injEq, Addr.mk.injEq, and_true] at e'
        omega
      have hc' : ∀ j x, (stepK.cells ps[k])[j]? = some x → wr.cell? ⟨rb, ro + k * 11 + j, none⟩ = some x := hc
      have c0 := hc' 0 (.int .i64 ps[k].kd) rfl
      have c3 := hc' 3 (.int .i64 ps[k].i) rfl
      have c4 := hc' 4 (.int .i64 ps[k].s) rfl
      have c5 := hc' 5 (.int .i64 ps[k].q) rfl
      have c6 := hc' 6 (ps[k].va) rfl
      have hzl := nm_le StepQ.n ps k hlt
      have hzk := hz _ (List.getElem_mem hlt)
      have HQL : Hid (qs.length ≤ 1048576) := by
        have := congrArg List.length HE.out
        rw [List.length_map] at this
        have h2 := suT_len ((ps.take k).map StepQ.e)
        rw [List.length_map, List.length_take] at h2
        show qs.length ≤ 1048576
        omega
      have HPE : Hid (∀ p' : TxnQ, (ps[k].kd == 1) = true → p'.e = (StepQ.e ps[k]).t → (qs ++ [p']).map TxnQ.e = suT ((ps.take (k + 1)).map StepQ.e)) := fun p' h1 hp' => by
        rw [suT_one ps k hlt h1, List.map_append, HE.out, List.map_singleton, hp']
      have HPN : Hid ((ps[k].kd == 1) = false → qs.map TxnQ.e = suT ((ps.take (k + 1)).map StepQ.e)) := fun h1 => by
        rw [suT_no ps k hlt h1, HE.out]
      clear HE hc hc'
      generalize ps[k] = p at *
      obtain ⟨kd, nd, nn, i, s, q, va, acts, vk, vr, vn, vv⟩ := p
      replace hrd : actK.At wr va acts := hrd
      replace hzl : acts.length ≤ nmL StepQ.n ps := hzl
      obtain ⟨aa, ac, rfl⟩ := hrd.shape
      dsimp only at c0 c3 c4 c5 c6 HPE HPN hzk
      rw [Nat.add_zero] at c0
      have hlti : (k : Int) < (ps.length : Int) := by omega
      cases hkd : (kd == 1)
      · have HE5 : Hid _ := HPN.out hkd
        clear HPE HPN c3 c4 c5 c6
        go_wp2
        go_roundw
        case rel => exact ⟨k + 1, _, qs, by omega, by go_num, HE5.out, hO, HN, HBg, HO⟩
        case measure => simp [intOf]; omega
      have HPE' : Hid (∀ p' : TxnQ, p'.e = (⟨i, s, q, acts⟩ : TxnD) → (qs ++ [p']).map TxnQ.e = suT ((ps.take (k + 1)).map StepQ.e)) := fun p' hp' => HPE.out p' hkd hp'
      clear HPE HPN
      have hcA := fun w (hT : txnK.rd w ⟨i, s, q, .slice aa acts.length ac, acts⟩) => l2CopyZ_any ⟨i, s, q, .slice aa acts.length ac, acts⟩ w hT hzk (by dsimp only; omega)
      dsimp only at hcA
      have hFg : g ∉ blk (.slice sa qs.length sc) := fun hx => by have := HLO.out g hx; omega
      have hFr : rb ∉ blk (.slice sa qs.length sc) := fun hx => by have := HLO.out rb hx; omega
      have HF : Hid (∀ x ∈ txnK.fp (.slice sa qs.length sc) qs, x < wr.heap.size) := hO.lt
      have mg := lato_cell (F := blk (.slice sa qs.length sc)) (HBg.out.cell 1 _ rfl) hFg
      have m3 := lato_cell (F := blk (.slice sa qs.length sc)) c3 hFr
      have m4 := lato_cell (F := blk (.slice sa qs.length sc)) c4 hFr
      have m5 := lato_cell (F := blk (.slice sa qs.length sc)) c5 hFr
      have m6 := lato_cell (F := blk (.slice sa qs.length sc)) c6 hFr
      have hnn : Nonempty (LatO (blk (.slice sa qs.length sc)) wr) := ⟨⟨wr, Out.refl _ _⟩⟩
      have hW : Below wr.heap.size wr wr.drew := (Below.refl _ _).drew
      have hnw : ∀ w', Below wr.heap.size wr w' → ∃ u : LatO (blk (.slice sa qs.length sc)) wr, w' = u.val := fun w' hw' => ⟨⟨w', Out.of_below hw'⟩, rfl⟩
      clear c3 c4 c5 c6
      go_wp2_with fail
      clear c0
      refine beginX (S := fun w' => ∃ u : LatO (blk (.slice sa qs.length sc)) wr, w' = u.val) (R := fun _ _ => False) 11 (by kernel_rfl) (fun _ _ _ _ h => h.elim) ?_
      refine sgX [(0, 7)] 5 (by kernel_rfl) (hnw _ hW) ?_
      simp only [pkE]
      repeat go_big_quiet_step (fail)
      refine wpQuiet_nil ?_
      refine clX 7 (some 29) 47 #[.agg #[.int .i64 i, .int .i64 s, .int .i64 q, .slice aa acts.length ac]] 4 (by kernel_rfl) rfl ?_
      refine (hcA _ (txnK.rd_below (p := (⟨i, s, q, .slice aa acts.length ac, acts⟩ : TxnQ)) hrd hW)).mono ?_
      rintro e w8 ⟨a2, c2, rfl, ho2, hb8⟩
      obtain ⟨o2, hk2⟩ := own_zero ho2
      have oa : txnK.own w8 (⟨i, s, q, .slice a2 acts.length c2, acts⟩ : TxnQ) := ⟨o2, fun _ _ => trivial⟩
      have LA : ∀ x ∈ txnK.foot (⟨i, s, q, .slice a2 acts.length c2, acts⟩ : TxnQ), wr.heap.size ≤ x := fun x hx => by
        have := hk2 x (by rw [← actK_fp (.slice a2 acts.length c2) acts]; exact hx)
        have := hW.size
        omega
      have hPn : (txnK.foot (⟨i, s, q, .slice a2 acts.length c2, acts⟩ : TxnQ)).Nodup := by
        show (actK.fp _ _).Nodup
        rw [actK_fp]; exact blk_nodup _
      replace hW := hW.trans (hb8.mono hW.size)
      clear hb8 ho2 hk2 o2
      refine Or.inl ⟨_, rfl, hnw _ hW, ?_⟩
      simp only [Act.put, pgE, pjE]
      refine onX 8 3 rfl (by kernel_rfl) ?_
      have hbA : Below w8.heap.size w8 (w8.alloc (.cells #[.int .i64 i, .int .i64 s, .int .i64 q, .slice a2 acts.length c2] 45)) := by go_grown
      replace hW := hW.trans (hbA.mono hW.size)
      replace oa := txnK.own_out (F := []) oa (Out.of_below hbA) (fun _ _ => by simp)
      have hsrc : ∀ j u, [Value.int .i64 i, .int .i64 s, .int .i64 q, .slice a2 acts.length c2][j]? = some u → (w8.alloc (.cells #[.int .i64 i, .int .i64 s, .int .i64 q, .slice a2 acts.length c2] 45)).cell? ((⟨w8.heap.size, 0, none⟩ : Addr).add j) = some u := by
        intro j u hj; match j, hj with | 0, hj => simp at hj; subst hj; simp [Addr.add] | 1, hj => simp at hj; subst hj; simp [Addr.add] | 2, hj => simp at hj; subst hj; simp [Addr.add] | 3, hj => simp at hj; subst hj; simp [Addr.add]
      go_wp2
      refine ThenX.to ⟨Or.inr (hnw _ hW), ?_⟩
      generalize w8.alloc (.cells #[.int .i64 i, .int .i64 s, .int .i64 q, .slice a2 acts.length c2] 45) = Z at *
      clear hbA
      have hO3 := hO.below hW
      have hrow0 := hO3.1
      have hsZ := hW.size
      refine onX 9 2 rfl (by kernel_rfl) ?_
      refine wpList_append_own_at _ rfl _ _ 54 rfl 0 45 i0 (.agg #[.int .i64 0, .int .i64 0, .int .i64 0, .slice none 0 0]) 4 48 Try.underlying54 hi hz0 hz1 hz2 rfl (by decide) _ qs.length (txnK.row qs) rfl hrow0 ⟨w8.heap.size, 0, none⟩ 1 1 [.int .i64 i, .int .i64 s, .int .i64 q, .slice a2 acts.length c2] rfl rfl hsrc ?c2 ?c3 ?c4 ?c5 ?_
      case c2 => intro u hu; simp at hu; rcases hu with rfl | rfl | rfl | rfl <;> rfl
      case c3 => have := HQL.out; unfold maxLen; omega
      case c4 => have := HQL.out; omega
      case c5 => omega
      intro v' w5 hown hgrow hnil hat
      clear hnil hrow0 hsrc
      obtain ⟨hO5, hn5, hlo5, hou⟩ := hO3.snoc (p := (⟨i, s, q, .slice a2 acts.length c2, acts⟩ : TxnQ)) (B := X.heap.size) HN.out.1 HN.out.2 oa hPn (fun x hx hx' => by
        have := HF.out x hx'
        have := LA x hx; omega) (fun x hx => by have := LA x hx; omega) (by omega) hown hgrow hat
      obtain ⟨na, nc, rfl⟩ := hO5.shape
      rw [List.length_append, List.length_singleton] at hO5 hn5 hlo5
      have hO9 : Out (blk (.slice sa qs.length sc)) wr w5 := (Out.of_below hW).trans hou
      have Bg5 : Blk w5 g 56 #[.int .i64 0, .slice sa qs.length sc] := (hO9.block g (by omega) hFg).trans HBg.out
      have HE5 : Hid ((qs ++ [(⟨i, s, q, .slice a2 acts.length c2, acts⟩ : TxnQ)]).map TxnQ.e = suT ((ps.take (k + 1)).map StepQ.e)) := HPE'.out _ rfl
      have HN5 : Hid ((txnK.fp (.slice na (qs.length + 1) nc) (qs ++ [(⟨i, s, q, .slice a2 acts.length c2, acts⟩ : TxnQ)])).Nodup ∧ ∀ k ∈ txnK.fp (.slice na (qs.length + 1) nc) (qs ++ [(⟨i, s, q, .slice a2 acts.length c2, acts⟩ : TxnQ)]), X.heap.size ≤ k) := ⟨hn5, hlo5⟩
      have hX5 : Out [g] X w5 := by
        refine ⟨hO9.os.trans HO.out.os, hO9.tape.trans HO.out.tape, hO9.output.trans HO.out.output, Nat.le_trans hXr hO9.size, fun x hx hn => ?_⟩
        exact (hO9.block x (by omega) (fun hx' => by have := HLO.out x hx'; omega)).trans (HO.out.block x hx hn)
      clear hn5 hlo5 hou HPE' HN HF oa LA hPn hown hgrow hat hO3 hO mg m3 m4 m5 m6 hcA
      go_wp2
      refine ThenX.to ⟨Or.inr ⟨⟨_, hO9⟩, rfl⟩, ?_⟩
      simp only [Act.put, pgE, pjE]
      refine onX 10 1 rfl (by kernel_rfl) ?_
      go_wp2
      refine ThenX.to ⟨Or.inr ⟨⟨_, hO9⟩, rfl⟩, ?_⟩
      refine onX 11 0 rfl (by kernel_rfl) ?_
      have t3 := Bg5.cell 1 _ rfl
      have t4 := Bg5.frozen 1
      have Bg6 := Bg5.set 1 (.slice na (qs.length + 1) nc)
      have hO6 := hO5.out (Out.setCell w5 g 1 (.slice na (qs.length + 1) nc)) (fun x hx => by have := HN5.out.2 x hx; simp only [List.mem_singleton]; omega)
      have hX6 : Out [g] X (w5.setCell ⟨g, 1, none⟩ (.slice na (qs.length + 1) nc)) := hX5.trans (Out.setCell w5 g 1 _)
      have HB6 : Hid (Blk (w5.setCell ⟨g, 1, none⟩ (.slice na (qs.length + 1) nc)) g 56 #[.int .i64 0, .slice na (qs.length + 1) nc]) := Bg6
      have HO6 : Hid (Out [g] X (w5.setCell ⟨g, 1, none⟩ (.slice na (qs.length + 1) nc))) := hX6
      clear Bg6 hX6 hX5 hO5 Bg5 HBg HO
      generalize qs ++ [(⟨i, s, q, .slice a2 acts.length c2, acts⟩ : TxnQ)] = qs' at *
      go_wp2
      refine ThenX.to ⟨Or.inl (by kernel_rfl), ?_⟩
      refine endX (by kernel_rfl) ?_
      clear t3 t4 hO9 hnn hnw hFg hFr
      generalize w5.setCell ⟨g, 1, none⟩ (.slice na (qs.length + 1) nc) = w6 at *
      go_wp2
      go_roundw
      case rel => exact ⟨k + 1, _, qs', by omega, by go_num, HE5, hO6, HN5, HB6, HO6⟩
      case measure => simp [intOf]; omega
    · have hkl : k = ps.length := by omega
      subst hkl
      have hE := HE.out
      rw [List.take_length] at hE
      have HE9 : Hid (qs.map TxnQ.e = suT (ps.map StepQ.e)) := hE
      clear HE hE
      have Rbr : Blk wr w.heap.size 56 #[.int .i64 0, .slice none 0 0] := (HO.out.block _ Rb.lt (by simp only [List.mem_singleton]; omega)).trans Rb
      have g0 := HBg.out.cell 0 _ rfl
      have g1 := HBg.out.cell 1 _ rfl
      have hzr2 : (Try.prog.info? 56).map (·.size) = some (#[.int .i64 0, .slice sa qs.length sc] : Array Value).size := by kernel_rfl
      have Rz := Rbr.row #[.int .i64 0, .slice sa qs.length sc]
      have hou := out_row wr w.heap.size #[.int .i64 0, .slice sa qs.length sc]
      have hBe := below_row hBr (g := w.heap.size) (Nat.le_refl _) #[.int .i64 0, .slice sa qs.length sc]
      have ob := hO.out hou (fun x hx => by have := HN.out.2 x hx; simp only [List.mem_singleton]; omega)
      have hlti : ¬ (ps.length : Int) < (ps.length : Int) := by omega
      clear hou hO HLO
      go_wp2_with (refine st_row (by kernel_rfl) 56 _ _ rfl _ #[.int .i64 0, .slice sa qs.length sc] rfl rfl 56 _ Rbr hzr2 rfl (by simp [Value.oneCell']) ?_)
      obtain ⟨k0, k1⟩ := Rz.cel2
      exact bodyPost_ret (v := .agg #[.int .i64 0, .slice sa qs.length sc]) (by simp [results, Try.results18, go_sem, k0, k1]) rfl (by first | exact ⟨_, qs, rfl, HE9.out, ob, HN.out.1, fun x hx => by have := HN.out.2 x hx; omega, hBe⟩ | exact ⟨_, rfl, qs, HE9.out, ob, HN.out.1, fun x hx => by have := HN.out.2 x hx; omega, hBe⟩)

end Go.Proofs.Ytkkdjgiencilbaa
