/- The rounds of a board, as a list of their own. -/
import Derived.Test.YtkklhbofeghnbaaDoorI6k
namespace Go.Proofs.YtkklhbofeghnbaaDoor
open Go.RowKit
open Go.BigFrame
set_option linter.unusedVariables false
set_option linter.unusedSimpArgs false
set_option maxRecDepth 100000

theorem ld_atO {F : List Nat} {w : World} {b o : Nat} (L : List Value) (ty : TypeId) (d : TypeDesc) (hr : w.rangeAt b o L) (hF : b ∉ F) (hu : Tryd.prog.underlying ty = some d) (hd : d.isRow = true) (hi : (Tryd.prog.info? ty).map (·.size) = some L.length) :
    ∀ u : LatO F w, (Instr.loadAt ty (.pointer (some ⟨b, o, none⟩))).run Tryd.prog u.val = .ok (.agg L.toArray) u.val := fun u =>
  run_loadAt_mid u.val b o ty L d (fun j v hv => lato_cell (hr j v hv) hF u) hu hd hi
theorem intK_nodup (v : Value) (zs : List Int) : (intK.fp v zs).Nodup := by
  rw [intK_fp]; exact blk_nodup v

set_option maxHeartbeats 4000000 in
theorem roundList_any (rs : List RoundE) (w : World) (h : Wel rs) (h4 : rs.length ≤ 4) :
    Calls Tryd.prog 26 #[.agg (rndC rs).toArray] w fun e w' => ∃ v qs, e = .returned v ∧ qs.map RoundQ.e = rs ∧ roundK.Own w' v qs ∧ (roundK.fp v qs).Nodup ∧ (∀ k ∈ roundK.fp v qs, w.heap.size ≤ k) ∧ Below w.heap.size w w' := by
  have B := Blk.new w 52 (rndC rs).toArray
  have hb0 : Below w.heap.size w (w.alloc (.cells (rndC rs).toArray 52)) := by go_grown
  have hc := rnd_cnt rs
  have hl4 : (rs.length : Int) ≤ 4 := by omega
  obtain ⟨i0, hi, hz0, hz1, hz2⟩ := info_parts infoRound
  have HRG : Hid (∀ r, r < rs.length → ∀ j v, (rowC (rs.getD r rnd0))[j]? = some v → (rndC rs)[1 + r * 6 + j]? = some v) := fun r hr j v hv => by
    have hj := (List.getElem?_eq_some_iff.1 hv).1
    rw [rowC_length (wel_at h r hr)] at hj
    rw [rnd_in h r hr j hj]
    exact hv
  generalize rndC rs = ds at *
  go_enter Tryd.func26, Tryd.ntmps26
  go_wp2
  clear hc
  generalize w.alloc (.cells ds.toArray 52) = W at *
  obtain ⟨hn1, hn2⟩ := Kind.own_nil (K := roundK) W
  have HN0 : Hid ((roundK.fp (.slice none 0 0) ([] : List RoundQ)).Nodup ∧ ∀ k ∈ roundK.fp (.slice none 0 0) ([] : List RoundQ), W.heap.size ≤ k) := by
    rw [hn2]
    exact ⟨by simp, by simp⟩
  clear hn2
  go_loopw [3, 11] (fun v j wr => ∃ (k : Nat) (qs : List RoundQ), k ≤ rs.length ∧ j = .int .i64 k ∧ Hid (qs.map RoundQ.e = rs.take k) ∧ roundK.Own wr v qs ∧ Hid ((roundK.fp v qs).Nodup ∧ ∀ k ∈ roundK.fp v qs, W.heap.size ≤ k) ∧ Below W.heap.size W wr) (fun _ j _ => rs.length - (intOf j).toNat)
  case atStart => exact ⟨0, [], Nat.zero_le _, rfl, (rfl : _ = _), hn1, HN0, Below.refl _ _⟩
  case round =>
    clear HN0 hn1
    obtain ⟨k, qs, hk, rfl, HE, hO, HN, hb⟩ := hrel
    obtain ⟨sa, sc, rfl⟩ := hO.shape
    by_cases hlt : k < rs.length
    · have hwl := wel_at h k hlt
      have HQL : Hid (qs.length ≤ 4) := by
        have := congrArg List.length HE.out
        rw [List.length_map, List.length_take] at this
        show qs.length ≤ 4
        omega
      have HPE : Hid (∀ p' : RoundQ, p'.e = rs.getD k rnd0 → (qs ++ [p']).map RoundQ.e = rs.take (k + 1)) := fun p' hp' => by
        rw [List.take_succ_eq_append_getElem hlt, List.map_append, HE.out, List.map_singleton, hp']
        simp [List.getD, hlt]
      have hrg1 := rng (B.below hb) (rowC (rs.getD k rnd0)) (o := 1 + k * 6) (fun j v hv => by rw [List.getElem?_toArray]; exact HRG.out k hlt j v hv)
      clear HE
      generalize rs.getD k rnd0 = q at *
      obtain ⟨qr, qp⟩ := q
      obtain ⟨l1, l2⟩ : qr.length = 3 ∧ qp.length = 3 := hwl
      obtain ⟨x0, x1, x2, rfl⟩ := three l1
      obtain ⟨y0, y1, y2, rfl⟩ := three l2
      clear l1 l2
      have hsz6 : (Tryd.prog.info? 49).map (·.size) = some (rowC ⟨[x0, x1, x2], [y0, y1, y2]⟩).length := sz_rows
      have hsz6' : (Tryd.prog.info? 49).map (·.size) = some (rowC ⟨[x0, x1, x2], [y0, y1, y2]⟩).toArray.size := hsz6
      have hBn := Blk.new wr 49 #[.int .i64 0, .int .i64 0, .int .i64 0, .int .i64 0, .int .i64 0, .int .i64 0]
      have hB3 := hBn.row (rowC ⟨[x0, x1, x2], [y0, y1, y2]⟩).toArray
      have hb3 : Below W.heap.size W ((wr.alloc (.cells #[.int .i64 0, .int .i64 0, .int .i64 0, .int .i64 0, .int .i64 0, .int .i64 0] 49)).setRow wr.heap.size (rowC ⟨[x0, x1, x2], [y0, y1, y2]⟩).toArray) := below_row (hb.alloc hb.size _) hb.size _
      have hb3r : Below wr.heap.size wr ((wr.alloc (.cells #[.int .i64 0, .int .i64 0, .int .i64 0, .int .i64 0, .int .i64 0, .int .i64 0] 49)).setRow wr.heap.size (rowC ⟨[x0, x1, x2], [y0, y1, y2]⟩).toArray) := below_row ((Below.refl _ _).alloc (Nat.le_refl _) _) (Nat.le_refl _) _
      have hold : (#[.int .i64 0, .int .i64 0, .int .i64 0, .int .i64 0, .int .i64 0, .int .i64 0] : Array Value).size = (rowC ⟨[x0, x1, x2], [y0, y1, y2]⟩).toArray.size := rfl
      have hone : (rowC ⟨[x0, x1, x2], [y0, y1, y2]⟩).toArray.all (·.oneCell') = true := one_iv _
      have HF : Hid (∀ x ∈ roundK.fp (.slice sa qs.length sc) qs, x < wr.heap.size) := hO.lt
      replace hO := hO.below hb3r
      go_wp2_with (first | (refine ld_g (by kernel_rfl) 49 _ rfl _ _ rfl (rowC ⟨[x0, x1, x2], [y0, y1, y2]⟩) _ hrg1 Tryd.underlying49 rfl hsz6 ?_) | (refine st_row (by kernel_rfl) 49 _ _ rfl _ (rowC ⟨[x0, x1, x2], [y0, y1, y2]⟩).toArray rfl rfl 49 _ hBn hsz6' hold hone ?_))
      clear hrg1 hsz6 hsz6' hold hone hBn hb3r
      generalize (wr.alloc (.cells #[.int .i64 0, .int .i64 0, .int .i64 0, .int .i64 0, .int .i64 0, .int .i64 0] 49)).setRow wr.heap.size (rowC ⟨[x0, x1, x2], [y0, y1, y2]⟩).toArray = W3 at *
      have hF : wr.heap.size ∉ blk (.slice sa qs.length sc) := fun hx => by
        have := HF.out _ (by simp only [Kind.fp, List.mem_append]; exact Or.inl hx)
        omega
      have p0 := ld_atO (F := blk (.slice sa qs.length sc)) ([x0, x1, x2].map iv) 47 _ (rng hB3 ([x0, x1, x2].map iv) (o := 0) (fun j v hv => by match j, hv with | 0, hv => exact hv | 1, hv => exact hv | 2, hv => exact hv)) hF Tryd.underlying47 rfl sz_row
      have p1 := ld_atO (F := blk (.slice sa qs.length sc)) ([y0, y1, y2].map iv) 47 _ (rng hB3 ([y0, y1, y2].map iv) (o := 3) (fun j v hv => by match j, hv with | 0, hv => exact hv | 1, hv => exact hv | 2, hv => exact hv)) hF Tryd.underlying47 rfl sz_row
      have hnn : Nonempty (LatO (blk (.slice sa qs.length sc)) W3) := ⟨⟨W3, Out.refl _ _⟩⟩
      have hW : Below W3.heap.size W3 W3.drew := (Below.refl _ _).drew
      have hnw : ∀ w', Below W3.heap.size W3 w' → ∃ u : LatO (blk (.slice sa qs.length sc)) W3, w' = u.val := fun w' hw' => ⟨⟨w', Out.of_below hw'⟩, rfl⟩
      simp only [Act.put]
      refine text_begin (S := fun w' => ∃ u : LatO (blk (.slice sa qs.length sc)) W3, w' = u.val) (by kernel_rfl) ?_
      refine sgr [(0, 2), (4, 1)] 8 (by kernel_rfl) (hnw _ hW) ?_
      simp only [pkE]
      repeat go_big_quiet_step (fail)
      refine wpQuiet_nil ?_
      refine qta 2 (some 17) (.agg ([x0, x1, x2].map iv).toArray) 7 (by kernel_rfl) (fun u hu => ?_) (hnw _ hW) ?_
      · obtain ⟨u, rfl⟩ := hu
        show some (((Instr.loadAt 47 (.pointer (some ⟨wr.heap.size, 0, none⟩))) >>= fun x => pure (Next.value x) : Sem Next).run Tryd.prog u.val) = _
        rw [Sem.run_bind, p0 u]
        rfl
      simp only [Act.put, pjE]
      refine qta 5 (some 20) (.agg ([y0, y1, y2].map iv).toArray) 6 (by kernel_rfl) (fun u hu => ?_) (hnw _ hW) ?_
      · obtain ⟨u, rfl⟩ := hu
        show some (((Instr.loadAt 47 (.pointer (some ⟨wr.heap.size, 3, none⟩))) >>= fun x => pure (Next.value x) : Sem Next).run Tryd.prog u.val) = _
        rw [Sem.run_bind, p1 u]
        rfl
      simp only [Act.put, pjE]
      refine cla 3 (some 18) 27 #[.agg ([x0, x1, x2].map iv).toArray] 5 (by kernel_rfl) ?_
      refine (list_any [x0, x1, x2] _ rfl).mono ?_
      rintro e w8 ⟨a1, c1, rfl, o1, g1, _, hb8⟩
      have L1 : ∀ x ∈ intK.fp (.slice a1 3 c1) [x0, x1, x2], W3.heap.size ≤ x := fun x hx => by have := g1 x hx; have := hW.size; omega
      have M1 := o1.lt
      replace hW := hW.trans (hb8.mono hW.size)
      clear hb8 g1
      refine ⟨_, rfl, hnw _ hW, ?_⟩
      simp only [Act.put, pjE]
      refine cla 6 (some 21) 27 #[.agg ([y0, y1, y2].map iv).toArray] 4 (by kernel_rfl) ?_
      refine (list_any [y0, y1, y2] _ rfl).mono ?_
      rintro e w9 ⟨a2, c2, rfl, o2, g2, _, hb9⟩
      have L2 : ∀ x ∈ intK.fp (.slice a2 3 c2) [y0, y1, y2], W3.heap.size ≤ x := fun x hx => by have := g2 x hx; have := hW.size; omega
      have hdis : ∀ x ∈ intK.fp (.slice a1 3 c1) [x0, x1, x2], ∀ y ∈ intK.fp (.slice a2 3 c2) [y0, y1, y2], x ≠ y := fun x hx y hy e => by have := M1 x hx; have := g2 y hy; omega
      replace hW := hW.trans (hb9.mono hW.size)
      replace o1 := o1.below hb9
      clear hb9 g2 M1
      refine ⟨_, rfl, hnw _ hW, ?_⟩
      simp only [Act.put, pjE]
      refine qta 7 (some 22) (.agg #[.slice a1 3 c1, .slice a2 3 c2]) 3 (by kernel_rfl) (fun u _ => by kernel_rfl) (hnw _ hW) ?_
      simp only [Act.put, pjE]
      refine ona 8 2 rfl (by kernel_rfl) ?_
      have hbA : Below w9.heap.size w9 (w9.alloc (.cells #[.slice a1 3 c1, .slice a2 3 c2] 62)) := by go_grown
      replace hW := hW.trans (hbA.mono hW.size)
      replace o1 := o1.below hbA
      replace o2 := o2.below hbA
      have hsrc : ∀ j u, [Value.slice a1 3 c1, .slice a2 3 c2][j]? = some u → (w9.alloc (.cells #[.slice a1 3 c1, .slice a2 3 c2] 62)).cell? ((⟨w9.heap.size, 0, none⟩ : Addr).add j) = some u := by
        intro j u hj; match j, hj with | 0, hj => simp at hj; subst hj; simp [Addr.add] | 1, hj => simp at hj; subst hj; simp [Addr.add]
      go_wp2
      refine ThenGo.to ⟨hnw _ hW, ?_⟩
      generalize w9.alloc (.cells #[.slice a1 3 c1, .slice a2 3 c2] 62) = Z at *
      clear hbA
      have hO3 := hO.below hW
      have hb9 := hb3.trans (hW.mono hb3.size)
      have hrow0 := hO3.1
      refine ona 9 1 rfl (by kernel_rfl) ?_
      refine wpList_append_own_at _ rfl _ _ 36 rfl 0 62 i0 (.agg #[.slice none 0 0, .slice none 0 0]) 2 48 Tryd.underlying36 hi hz0 hz1 hz2 rfl (by decide) _ qs.length (roundK.row qs) rfl hrow0 ⟨w9.heap.size, 0, none⟩ 1 1 [.slice a1 3 c1, .slice a2 3 c2] rfl rfl hsrc ?c2 ?c3 ?c4 ?c5 ?_
      case c2 => intro u hu; simp at hu; rcases hu with rfl | rfl <;> rfl
      case c3 => have := HQL.out; unfold maxLen; omega
      case c4 => have := HQL.out; omega
      case c5 => omega
      intro v' w5 hown hgrow hnil hat
      clear hnil hrow0 hsrc
      have hW3 : wr.heap.size ≤ W3.heap.size := by have := hB3.lt; omega
      obtain ⟨hO5, hn5, hlo5, hou⟩ := hO3.snoc (p := ⟨.slice a1 3 c1, [x0, x1, x2], .slice a2 3 c2, [y0, y1, y2]⟩) HN.out.1 HN.out.2 ⟨o1, o2⟩ (List.nodup_append.2 ⟨intK_nodup _ _, intK_nodup _ _, hdis⟩) (fun x hx hx' => by
        have := HF.out x hx'
        rcases List.mem_append.1 hx with hx | hx
        · have := L1 x hx; omega
        · have := L2 x hx; omega) (fun x hx => by
        have := hb3.size
        rcases List.mem_append.1 hx with hx | hx
        · have := L1 x hx; omega
        · have := L2 x hx; omega) hb9.size hown hgrow hat
      have hb5 : Below W.heap.size W w5 := Out.keep hb9 hou hb9.size (fun x hx => HN.out.2 x (by simp only [Kind.fp, List.mem_append]; exact Or.inl hx))
      have hW5 : Out (blk (.slice sa qs.length sc)) W3 w5 := (Out.of_below hW).trans hou
      have HE5 : Hid ((qs ++ [(⟨.slice a1 3 c1, [x0, x1, x2], .slice a2 3 c2, [y0, y1, y2]⟩ : RoundQ)]).map RoundQ.e = rs.take (k + 1)) := HPE.out _ rfl
      have HN5 : Hid ((roundK.fp v' (qs ++ [(⟨.slice a1 3 c1, [x0, x1, x2], .slice a2 3 c2, [y0, y1, y2]⟩ : RoundQ)])).Nodup ∧ ∀ k ∈ roundK.fp v' (qs ++ [(⟨.slice a1 3 c1, [x0, x1, x2], .slice a2 3 c2, [y0, y1, y2]⟩ : RoundQ)]), W.heap.size ≤ k) := ⟨hn5, hlo5⟩
      clear hn5 hlo5 hou HPE HN HF o1 o2 L1 L2 hdis hown hgrow hat hO3 hO hb9 hb3
      go_wp2
      refine ThenGo.to ⟨⟨⟨_, hW5⟩, rfl⟩, ?_⟩
      simp only [Act.put, pgE, pjE]
      refine sgr [(10, 1)] 0 (by kernel_rfl) ⟨⟨_, hW5⟩, rfl⟩ ?_
      simp only [pkE]
      repeat go_big_quiet_step (fail)
      refine wpQuiet_nil ?_
      refine text_end (by kernel_rfl) ?_
      clear p0 p1 hnn hW hW5 hnw hB3 hF
      go_wp2
      go_roundw
      case rel => exact ⟨k + 1, _, by omega, by go_num, HE5, hO5, HN5, hb5⟩
      case measure => simp [intOf]; omega
    · have hkl : k = rs.length := by omega
      subst hkl
      have hE := HE.out
      rw [List.take_length] at hE
      clear HE
      have hws := hb0.size
      go_wp2
      go_ret
      exact ⟨_, qs, rfl, hE, hO, HN.out.1, fun x hx => by have := HN.out.2 x hx; omega, hb0.trans (hb.mono hb0.size)⟩

end Go.Proofs.YtkklhbofeghnbaaDoor
