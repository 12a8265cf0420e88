/- A board laid anew as an instance that shares nothing. -/
import Derived.Test.YtkklhbofeghnbaaDoorI6l
namespace Go.Proofs.YtkklhbofeghnbaaDoor
open Go.RowKit
open Go.BigFrame
set_option linter.unusedVariables false
set_option linter.unusedSimpArgs false
set_option maxRecDepth 100000

theorem out_row (w : World) (g : Nat) (cs : Array Value) : Out [g] w (w.setRow g cs) :=
  ⟨rfl, rfl, rfl, by rw [setRow_size]; exact Nat.le_refl _, fun k _ hn => setRow_other w g k cs (by simpa using hn)⟩
theorem sz_inst : (Tryd.prog.info? 39).map (·.size) = some 4 := by kernel_rfl

set_option maxHeartbeats 4000000 in
theorem instance_any (has : Bool) (vb : Value) (bt : List TxnQ) (rs : List RoundE) (dec : List Int) (w : World) (hT : txnK.At w vb bt) (hne : ∀ p ∈ bt, 0 < p.acts.length) (hl : bt.length + nmL TxnQ.n bt ≤ 1048576) (hwel : Wel rs) (h4 : rs.length ≤ 4) (h3 : dec.length = 3) :
    Calls Tryd.prog 16 #[.agg (brdC has vb rs dec).toArray] w fun e w' => ∃ q : InstQ, e = .returned (.agg #[.bool q.has, q.vb, q.vr, q.vd]) ∧ q.e = ⟨has, bt.map TxnQ.e, rs, dec⟩ ∧ instK.own w' q ∧ (instK.foot q).Nodup ∧ (∀ k ∈ instK.foot q, w.heap.size ≤ k) ∧ Below w.heap.size w w' := by
  have B := Blk.new w 54 (brdC has vb rs dec).toArray
  have hc1 := fun w (hT : txnK.At w vb bt) => cloneTxns_any vb bt w hT hne hl
  have hc2 := fun w => roundList_any rs w hwel h4
  have hc3 := fun w => list_any dec w h3
  have hsR : (Tryd.prog.info? 52).map (·.size) = some (rndC rs).length := by rw [rndC_length hwel h4]; exact sz_rounds
  have hsD : (Tryd.prog.info? 47).map (·.size) = some (dec.map iv).length := by rw [List.length_map, h3]; exact sz_row
  have hfac : Hid ((brdC has vb rs dec)[25]? = some (.bool has) ∧ (brdC has vb rs dec)[26]? = some vb ∧ (∀ j v, (rndC rs)[j]? = some v → (brdC has vb rs dec)[0 + j]? = some v) ∧ ∀ j v, (dec.map iv)[j]? = some v → (brdC has vb rs dec)[27 + j]? = some v) := by
    refine ⟨brd_has hwel h4, brd_bat hwel h4, fun j v hv => ?_, fun j v hv => ?_⟩
    · have hj := (List.getElem?_eq_some_iff.1 hv).1
      rw [rndC_length hwel h4] at hj
      rw [Nat.zero_add, brd_rnd hwel h4 j hj]
      exact hv
    · obtain ⟨hj, rfl⟩ := row_get h3 hv
      exact brd_dec hwel h4 h3 j hj
  generalize brdC has vb rs dec = ds at *
  have hb0 : Below w.heap.size w ((w.alloc (.cells ds.toArray 54)).alloc (.cells #[.bool false, .slice none 0 0, .slice none 0 0, .slice none 0 0] 39)) := by go_grown
  have hbb : Below (w.alloc (.cells ds.toArray 54)).heap.size (w.alloc (.cells ds.toArray 54)) ((w.alloc (.cells ds.toArray 54)).alloc (.cells #[.bool false, .slice none 0 0, .slice none 0 0, .slice none 0 0] 39)) := by go_grown
  have R := Blk.new (w.alloc (.cells ds.toArray 54)) 39 #[.bool false, .slice none 0 0, .slice none 0 0, .slice none 0 0]
  rw [World.size_alloc] at R
  replace B := B.below hbb
  clear hbb
  go_enter Tryd.func16, Tryd.ntmps16
  go_wp2_with fail
  have hws : w.heap.size + 2 ≤ ((w.alloc (.cells ds.toArray 54)).alloc (.cells #[.bool false, .slice none 0 0, .slice none 0 0, .slice none 0 0] 39)).heap.size := by simp
  generalize ((w.alloc (.cells ds.toArray 54)).alloc (.cells #[.bool false, .slice none 0 0, .slice none 0 0, .slice none 0 0] 39)) = W at *
  have hF : w.heap.size ∉ [w.heap.size + 1] := by simp
  have p0 := lato_cell (F := [w.heap.size + 1]) (B.cell 25 (.bool has) (by rw [List.getElem?_toArray]; exact hfac.out.1)) hF
  have p1 := lato_cell (F := [w.heap.size + 1]) (B.cell 26 vb (by rw [List.getElem?_toArray]; exact hfac.out.2.1)) hF
  have p2 := ld_atO (F := [w.heap.size + 1]) (rndC rs) 52 _ (rng B (rndC rs) (o := 0) (fun j v hv => by rw [List.getElem?_toArray]; exact hfac.out.2.2.1 j v hv)) hF Tryd.underlying52 rfl hsR
  have p3 := ld_atO (F := [w.heap.size + 1]) (dec.map iv) 47 _ (rng B (dec.map iv) (o := 27) (fun j v hv => by rw [List.getElem?_toArray]; exact hfac.out.2.2.2 j v hv)) hF Tryd.underlying47 rfl hsD
  obtain ⟨ba, bk, rfl⟩ := hT.shape
  clear hsR hsD hfac
  generalize rndC rs = dr at *
  have hnn : Nonempty (LatO [w.heap.size + 1] W) := ⟨⟨W, Out.refl _ _⟩⟩
  have hW : Below W.heap.size W W.drew := (Below.refl _ _).drew
  have hnw : ∀ w', Below W.heap.size W w' → ∃ u : LatO [w.heap.size + 1] W, w' = u.val := fun w' hw' => ⟨⟨w', Out.of_below hw'⟩, rfl⟩
  refine text_begin (S := fun w' => ∃ u : LatO [w.heap.size + 1] W, w' = u.val) (by kernel_rfl) ?_
  refine sgr [(0, 4), (5, 1), (8, 1)] 7 (by kernel_rfl) (hnw _ hW) ?_
  simp only [pkE]
  repeat go_big_quiet_step (fail)
  refine wpQuiet_nil ?_
  refine qta 6 (some 9) (.agg dr.toArray) 6 (by kernel_rfl) (fun u hu => ?_) (hnw _ hW) ?_
  · obtain ⟨u, rfl⟩ := hu
    show some (((Instr.loadAt 52 (.pointer (some ⟨w.heap.size, 0, none⟩))) >>= fun x => pure (Next.value x) : Sem Next).run Tryd.prog u.val) = _
    rw [Sem.run_bind, p2 u]
    rfl
  simp only [Act.put, pjE]
  refine qta 9 (some 12) (.agg (dec.map iv).toArray) 5 (by kernel_rfl) (fun u hu => ?_) (hnw _ hW) ?_
  · obtain ⟨u, rfl⟩ := hu
    show some (((Instr.loadAt 47 (.pointer (some ⟨w.heap.size, 27, none⟩))) >>= fun x => pure (Next.value x) : Sem Next).run Tryd.prog u.val) = _
    rw [Sem.run_bind, p3 u]
    rfl
  simp only [Act.put, pjE]
  refine cla 4 (some 7) 25 #[.slice ba bt.length bk] 4 (by kernel_rfl) ?_
  refine (hc1 _ (hT.below (hb0.trans (hW.mono hb0.size)))).mono ?_
  rintro e w1 ⟨v1, q1, rfl, e1, o1, n1, g1, hb⟩
  have L1 : ∀ x ∈ txnK.fp v1 q1, W.heap.size ≤ x := fun x hx => by have := g1 x hx; have := hW.size; omega
  have M1 := o1.lt
  replace hW := hW.trans (hb.mono hW.size)
  clear hb g1
  refine ⟨_, rfl, hnw _ hW, ?_⟩
  simp only [Act.put, pjE]
  refine cla 7 (some 10) 26 #[.agg dr.toArray] 3 (by kernel_rfl) ?_
  refine (hc2 _).mono ?_
  rintro e w2 ⟨v2, q2, rfl, e2, o2, n2, g2, hb⟩
  have L2 : ∀ x ∈ roundK.fp v2 q2, W.heap.size ≤ x := fun x hx => by have := g2 x hx; have := hW.size; omega
  have D12 : ∀ x ∈ txnK.fp v1 q1, ∀ y ∈ roundK.fp v2 q2, x ≠ y := fun x hx y hy e => by have := M1 x hx; have := g2 y hy; omega
  have M2 := o2.lt
  have hs12 := hb.size
  replace o1 := o1.below hb
  replace hW := hW.trans (hb.mono hW.size)
  clear hb g2
  refine ⟨_, rfl, hnw _ hW, ?_⟩
  simp only [Act.put, pjE]
  refine cla 10 (some 13) 27 #[.agg (dec.map iv).toArray] 2 (by kernel_rfl) ?_
  refine (hc3 _).mono ?_
  rintro e w3 ⟨a3, c3, rfl, o3, g3, _, hb⟩
  have L3 : ∀ x ∈ intK.fp (.slice a3 3 c3) dec, W.heap.size ≤ x := fun x hx => by have := g3 x hx; have := hW.size; omega
  have D13 : ∀ x ∈ txnK.fp v1 q1, ∀ y ∈ intK.fp (.slice a3 3 c3) dec, x ≠ y := fun x hx y hy e => by have := M1 x hx; have := g3 y hy; omega
  have D23 : ∀ x ∈ roundK.fp v2 q2, ∀ y ∈ intK.fp (.slice a3 3 c3) dec, x ≠ y := fun x hx y hy e => by have := M2 x hx; have := g3 y hy; omega
  replace o1 := o1.below hb
  replace o2 := o2.below hb
  replace hW := hW.trans (hb.mono hW.size)
  clear hb g3 M1 M2 hs12
  obtain ⟨s1, t1, rfl⟩ := o1.shape
  obtain ⟨s2, t2, rfl⟩ := o2.shape
  refine ⟨_, rfl, hnw _ hW, ?_⟩
  simp only [Act.put, pjE]
  refine qta 11 (some 14) (.agg #[.bool has, .slice s1 q1.length t1, .slice s2 q2.length t2, .slice a3 3 c3]) 1 (by kernel_rfl) (fun u _ => by kernel_rfl) (hnw _ hW) ?_
  simp only [Act.put, pjE]
  have R3 := R.below hW
  refine ona 12 0 rfl (by kernel_rfl) ?_
  have hRr := R3.row #[.bool has, .slice s1 q1.length t1, .slice s2 q2.length t2, .slice a3 3 c3]
  have hou := out_row w3 (w.heap.size + 1) #[.bool has, .slice s1 q1.length t1, .slice s2 q2.length t2, .slice a3 3 c3]
  have hWo : Out [w.heap.size + 1] W (w3.setRow (w.heap.size + 1) #[.bool has, .slice s1 q1.length t1, .slice s2 q2.length t2, .slice a3 3 c3]) := (Out.of_below hW).trans hou
  refine st_row (by kernel_rfl) 39 _ _ rfl _ #[.bool has, .slice s1 q1.length t1, .slice s2 q2.length t2, .slice a3 3 c3] rfl rfl 39 _ R3 sz_inst rfl (by simp [Value.oneCell']) ?_
  go_wp2
  refine ThenGo.to ⟨⟨⟨_, hWo⟩, rfl⟩, ?_⟩
  refine text_end (by kernel_rfl) ?_
  have hnm : ∀ x, W.heap.size ≤ x → x ∉ [w.heap.size + 1] := fun x hx => by simp only [List.mem_singleton]; omega
  have o1' := o1.out hou (fun x hx => hnm x (L1 x hx))
  have o2' := o2.out hou (fun x hx => hnm x (L2 x hx))
  have o3' := o3.out hou (fun x hx => hnm x (L3 x hx))
  have hBe : Below w.heap.size w (w3.setRow (w.heap.size + 1) #[.bool has, .slice s1 q1.length t1, .slice s2 q2.length t2, .slice a3 3 c3]) := below_row (hb0.trans (hW.mono hb0.size)) (by omega) _
  clear p0 p1 p2 p3 hnn hnw hc1 hc2 hc3 hou hWo o1 o2 o3 R3
  generalize w3.setRow (w.heap.size + 1) #[.bool has, .slice s1 q1.length t1, .slice s2 q2.length t2, .slice a3 3 c3] = w4 at *
  obtain ⟨p0, p1, p2, p3⟩ := hRr.cel4
  go_wp2
  refine bodyPost_ret (v := .agg #[.bool has, .slice s1 q1.length t1, .slice s2 q2.length t2, .slice a3 3 c3]) (by simp [results, Tryd.results16, go_sem, p0, p1, p2, p3]) rfl ?_
  refine ⟨⟨has, .slice s1 q1.length t1, q1, .slice s2 q2.length t2, q2, .slice a3 3 c3, dec⟩, rfl, ?_, ⟨o1', o2', o3'⟩, ?_, ?_, hBe⟩
  · simp only [InstQ.e, e1, e2]
  · exact List.nodup_append.2 ⟨n1, List.nodup_append.2 ⟨n2, intK_nodup _ _, D23⟩, fun x hx y hy => by
      rcases List.mem_append.1 hy with hy | hy
      · exact D12 x hx y hy
      · exact D13 x hx y hy⟩
  · intro x hx
    rcases List.mem_append.1 hx with hx | hx
    · have := L1 x hx; omega
    · rcases List.mem_append.1 hx with hx | hx
      · have := L2 x hx; omega
      · have := L3 x hx; omega

end Go.Proofs.YtkklhbofeghnbaaDoor
