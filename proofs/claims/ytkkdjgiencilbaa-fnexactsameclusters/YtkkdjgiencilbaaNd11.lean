/- A node in the law's helpers: its size, its copy, compared, marked, and whether the marks are held; the same of a NodeResult. No condition. -/
import Derived.Test.YtkkdjgiencilbaaK9r
import Derived.Test.YtkkdjgiencilbaaMd11
namespace Go.Proofs.Ytkkdjgiencilbaa
open Go.RowKit
set_option linter.unusedVariables false
set_option linter.unusedSimpArgs false

set_option maxHeartbeats 2000000 in
theorem szNode_k (kn sf : Int) (p : RepQ) (c : Int) (w : World) (h : repK.rd w p) (hn : RepQ.wf p) (h0 : 0 ≤ c) (h1 : c ≤ 1048576) :
    Calls Try.prog 56 #[.agg #[.int .i64 kn, .int .i64 sf, p.vd, p.vb, p.vt, p.vu, p.vn], .int .i64 c] w fun e w' => ∃ r : Int, e = .returned (.int .i64 r) ∧ (¬ r < 0 → (RepQ.n p : Int) + r = c) ∧ Below w.heap.size w w' := by
  have hm := fun w h => szReplica_k p c w h hn h0 h1
  have hr := fun (w' : World) hb => repK.rd_below (w' := w') h hb
  generalize (RepQ.n p : Int) = NP at *
  clear hn
  obtain ⟨vd, done, vb, base, vt, tent, vu, undos, vn, now⟩ := p
  obtain ⟨a0, k0, rfl⟩ : ∃ a c, vd = .slice a done.length c := h.1.shape
  obtain ⟨a1, k1, rfl⟩ : ∃ a c, vb = .slice a base.length c := h.2.1.shape
  obtain ⟨a2, k2, rfl⟩ : ∃ a c, vt = .slice a tent.length c := h.2.2.1.shape
  obtain ⟨a3, k3, rfl⟩ : ∃ a c, vu = .slice a undos.length c := h.2.2.2.1.shape
  obtain ⟨a4, k4, rfl⟩ : ∃ a c, vn = .slice a now.length c := h.2.2.2.2.shape
  dsimp only at hm
  have hB : Below w.heap.size w (w.alloc (.cells #[.int .i64 kn, .int .i64 sf, .slice a0 done.length k0, .slice a1 base.length k1, .slice a2 tent.length k2, .slice a3 undos.length k3, .slice a4 now.length k4] 110)) := by go_grown
  have B := Blk.new w 110 #[.int .i64 kn, .int .i64 sf, .slice a0 done.length k0, .slice a1 base.length k1, .slice a2 tent.length k2, .slice a3 undos.length k3, .slice a4 now.length k4]
  obtain ⟨q0, q1, q2, q3, q4, q5, q6⟩ := B.cel7
  go_enter Try.func56, Try.ntmps56
  go_wp2_with fail
  clear q0 q1 q2 q3 q4 q5 q6 B
  have hr0 := hr _ hB
  generalize w.alloc (.cells #[.int .i64 kn, .int .i64 sf, .slice a0 done.length k0, .slice a1 base.length k1, .slice a2 tent.length k2, .slice a3 undos.length k3, .slice a4 now.length k4] 110) = W at *
  refine (hm W hr0).mono ?_
  rintro e w1 ⟨r, rfl, hq, hb⟩
  replace hB := hB.trans (hb.mono hB.size)
  by_cases hneg : r < 0
  · go_wp2
    go_ret
    exact ⟨_, rfl, fun h => absurd h (by decide), hB⟩
  · go_wp2
    go_ret
    exact ⟨_, rfl, hq, hB⟩

set_option maxHeartbeats 4000000 in
theorem toNode_k (kn sf : Int) (p : RepQ) (w : World) (h : repK.rd w p) (hl : RepQ.n p ≤ 1048576) :
    Calls Try.prog 60 #[.agg #[.int .i64 kn, .int .i64 sf, p.vd, p.vb, p.vt, p.vu, p.vn]] w fun e w' => ∃ p' : RepQ, e = .returned (.agg #[.int .i64 kn, .int .i64 sf, p'.vd, p'.vb, p'.vt, p'.vu, p'.vn]) ∧ p'.e = p.e ∧ repK.own w' p' ∧ (repK.foot p').Nodup ∧ (∀ k ∈ repK.foot p', w.heap.size ≤ k) ∧ Below w.heap.size w w' := by
  have hm := fun w h => toReplica_k p w h hl
  have hr := fun (w' : World) hb => repK.rd_below (w' := w') h hb
  generalize p.e = PE at *
  obtain ⟨vd, done, vb, base, vt, tent, vu, undos, vn, now⟩ := p
  obtain ⟨a0, k0, rfl⟩ : ∃ a c, vd = .slice a done.length c := h.1.shape
  obtain ⟨a1, k1, rfl⟩ : ∃ a c, vb = .slice a base.length c := h.2.1.shape
  obtain ⟨a2, k2, rfl⟩ : ∃ a c, vt = .slice a tent.length c := h.2.2.1.shape
  obtain ⟨a3, k3, rfl⟩ : ∃ a c, vu = .slice a undos.length c := h.2.2.2.1.shape
  obtain ⟨a4, k4, rfl⟩ : ∃ a c, vn = .slice a now.length c := h.2.2.2.2.shape
  dsimp only at hm
  clear hl
  have hB : Below w.heap.size w (((w.alloc (.cells #[.int .i64 kn, .int .i64 sf, .slice a0 done.length k0, .slice a1 base.length k1, .slice a2 tent.length k2, .slice a3 undos.length k3, .slice a4 now.length k4] 110)).alloc (.cells #[.int .i64 0, .int .i64 0, .slice none 0 0, .slice none 0 0, .slice none 0 0, .slice none 0 0, .slice none 0 0] 79)).alloc (.cells #[.int .i64 kn, .int .i64 sf, .slice none 0 0, .slice none 0 0, .slice none 0 0, .slice none 0 0, .slice none 0 0] 79)) := by go_grown
  have R := (Blk.new (w.alloc (.cells #[.int .i64 kn, .int .i64 sf, .slice a0 done.length k0, .slice a1 base.length k1, .slice a2 tent.length k2, .slice a3 undos.length k3, .slice a4 now.length k4] 110)) 79 #[.int .i64 0, .int .i64 0, .slice none 0 0, .slice none 0 0, .slice none 0 0, .slice none 0 0, .slice none 0 0]).below (w' := (((w.alloc (.cells #[.int .i64 kn, .int .i64 sf, .slice a0 done.length k0, .slice a1 base.length k1, .slice a2 tent.length k2, .slice a3 undos.length k3, .slice a4 now.length k4] 110)).alloc (.cells #[.int .i64 0, .int .i64 0, .slice none 0 0, .slice none 0 0, .slice none 0 0, .slice none 0 0, .slice none 0 0] 79)).alloc (.cells #[.int .i64 kn, .int .i64 sf, .slice none 0 0, .slice none 0 0, .slice none 0 0, .slice none 0 0, .slice none 0 0] 79))) (by go_grown)
  have O := Blk.new ((w.alloc (.cells #[.int .i64 kn, .int .i64 sf, .slice a0 done.length k0, .slice a1 base.length k1, .slice a2 tent.length k2, .slice a3 undos.length k3, .slice a4 now.length k4] 110)).alloc (.cells #[.int .i64 0, .int .i64 0, .slice none 0 0, .slice none 0 0, .slice none 0 0, .slice none 0 0, .slice none 0 0] 79)) 79 #[.int .i64 kn, .int .i64 sf, .slice none 0 0, .slice none 0 0, .slice none 0 0, .slice none 0 0, .slice none 0 0]
  have hS : (((w.alloc (.cells #[.int .i64 kn, .int .i64 sf, .slice a0 done.length k0, .slice a1 base.length k1, .slice a2 tent.length k2, .slice a3 undos.length k3, .slice a4 now.length k4] 110)).alloc (.cells #[.int .i64 0, .int .i64 0, .slice none 0 0, .slice none 0 0, .slice none 0 0, .slice none 0 0, .slice none 0 0] 79)).alloc (.cells #[.int .i64 kn, .int .i64 sf, .slice none 0 0, .slice none 0 0, .slice none 0 0, .slice none 0 0, .slice none 0 0] 79)).heap.size = w.heap.size + 3 := by simp only [World.size_alloc]
  simp only [World.size_alloc] at R O
  have B := (Blk.new w 110 #[.int .i64 kn, .int .i64 sf, .slice a0 done.length k0, .slice a1 base.length k1, .slice a2 tent.length k2, .slice a3 undos.length k3, .slice a4 now.length k4]).below (w' := (((w.alloc (.cells #[.int .i64 kn, .int .i64 sf, .slice a0 done.length k0, .slice a1 base.length k1, .slice a2 tent.length k2, .slice a3 undos.length k3, .slice a4 now.length k4] 110)).alloc (.cells #[.int .i64 0, .int .i64 0, .slice none 0 0, .slice none 0 0, .slice none 0 0, .slice none 0 0, .slice none 0 0] 79)).alloc (.cells #[.int .i64 0, .int .i64 0, .slice none 0 0, .slice none 0 0, .slice none 0 0, .slice none 0 0, .slice none 0 0] 79))) (by go_grown)
  obtain ⟨q0, q1, q2, q3, q4, q5, q6⟩ := B.cel7
  go_enter Try.func60, Try.ntmps60
  go_wp2_with fail
  clear q0 q1 q2 q3 q4 q5 q6 B
  have hr0 := hr _ hB
  generalize (((w.alloc (.cells #[.int .i64 kn, .int .i64 sf, .slice a0 done.length k0, .slice a1 base.length k1, .slice a2 tent.length k2, .slice a3 undos.length k3, .slice a4 now.length k4] 110)).alloc (.cells #[.int .i64 0, .int .i64 0, .slice none 0 0, .slice none 0 0, .slice none 0 0, .slice none 0 0, .slice none 0 0] 79)).alloc (.cells #[.int .i64 kn, .int .i64 sf, .slice none 0 0, .slice none 0 0, .slice none 0 0, .slice none 0 0, .slice none 0 0] 79)) = W at *
  refine (hm W hr0).mono ?_
  rintro e w1 ⟨q, rfl, E0, O0, N0, G0, hb⟩
  replace hB := hB.trans (hb.mono hB.size)
  replace R := R.below hb
  replace O := O.below hb
  have hs1 := hb.size
  clear hb hm hr hr0
  obtain ⟨vqd, qd, vqb, qb, vqt, qt, vqu, qu, vqn, qn⟩ := q
  obtain ⟨x0, z0, rfl⟩ : ∃ a c, vqd = .slice a qd.length c := O0.1.shape
  obtain ⟨x1, z1, rfl⟩ : ∃ a c, vqb = .slice a qb.length c := O0.2.1.shape
  obtain ⟨x2, z2, rfl⟩ : ∃ a c, vqt = .slice a qt.length c := O0.2.2.1.shape
  obtain ⟨x3, z3, rfl⟩ : ∃ a c, vqu = .slice a qu.length c := O0.2.2.2.1.shape
  obtain ⟨x4, z4, rfl⟩ : ∃ a c, vqn = .slice a qn.length c := O0.2.2.2.2.shape
  have U1 := out_mid5 w1 (w.heap.size + 1 + 1) (.slice x0 qd.length z0) (.slice x1 qb.length z1) (.slice x2 qt.length z2) (.slice x3 qu.length z3) (.slice x4 qn.length z4)
  have O2 := O.mid5 (.slice x0 qd.length z0) (.slice x1 qb.length z1) (.slice x2 qt.length z2) (.slice x3 qu.length z3) (.slice x4 qn.length z4)
  have R2 : Blk _ _ _ _ := (U1.block _ R.lt (by simp)).trans R
  have OW := repK.own_out O0 U1 (fun k hk => by have := G0 k hk; simp; omega)
  have hB2 := Out.keep hB U1 hB.size (fun k hk => by simp at hk; omega)
  have hsz : (Try.prog.info? 77).map (·.size) = some (#[.slice x0 qd.length z0, .slice x1 qb.length z1, .slice x2 qt.length z2, .slice x3 qu.length z3, .slice x4 qn.length z4] : Array Value).size := by kernel_rfl
  have hsn : (Try.prog.info? 79).map (·.size) = some (#[.int .i64 kn, .int .i64 sf, .slice x0 qd.length z0, .slice x1 qb.length z1, .slice x2 qt.length z2, .slice x3 qu.length z3, .slice x4 qn.length z4] : Array Value).size := by kernel_rfl
  generalize hV : w1.setCells (w.heap.size + 1 + 1) 2 [.slice x0 qd.length z0, .slice x1 qb.length z1, .slice x2 qt.length z2, .slice x3 qu.length z3, .slice x4 qn.length z4] = V at *
  have R3 := R2.row #[.int .i64 kn, .int .i64 sf, .slice x0 qd.length z0, .slice x1 qb.length z1, .slice x2 qt.length z2, .slice x3 qu.length z3, .slice x4 qn.length z4]
  have U3 := out_row11 V (w.heap.size + 1) #[.int .i64 kn, .int .i64 sf, .slice x0 qd.length z0, .slice x1 qb.length z1, .slice x2 qt.length z2, .slice x3 qu.length z3, .slice x4 qn.length z4]
  have OW3 := repK.own_out OW U3 (fun k hk => by have := G0 k hk; simp; omega)
  have hB3 := Out.keep hB2 U3 hB2.size (fun k hk => by simp at hk; omega)
  obtain ⟨q0, q1, q2, q3, q4, q5, q6⟩ := O2.cel7
  go_wp2_with (first | (refine st_mid (by kernel_rfl) 77 _ _ rfl _ 2 #[.slice x0 qd.length z0, .slice x1 qb.length z1, .slice x2 qt.length z2, .slice x3 qu.length z3, .slice x4 qn.length z4] rfl rfl 79 _ O hsz (by simp) (by simp [Value.oneCell']) ?_; (try dsimp only); rw [hV]) | (refine st_row (by kernel_rfl) 79 _ _ rfl _ #[.int .i64 kn, .int .i64 sf, .slice x0 qd.length z0, .slice x1 qb.length z1, .slice x2 qt.length z2, .slice x3 qu.length z3, .slice x4 qn.length z4] rfl rfl 79 _ R2 hsn rfl (by simp [Value.oneCell']) ?_))
  obtain ⟨r0, r1, r2, r3, r4, r5, r6⟩ := R3.cel7
  exact bodyPost_ret (v := .agg #[.int .i64 kn, .int .i64 sf, .slice x0 qd.length z0, .slice x1 qb.length z1, .slice x2 qt.length z2, .slice x3 qu.length z3, .slice x4 qn.length z4]) (by simp [results, Try.results60, go_sem, r0, r1, r2, r3, r4, r5, r6]) rfl ⟨_, rfl, E0, OW3, N0, fun k hk => by have := G0 k hk; omega, hB3⟩

set_option maxHeartbeats 2000000 in
theorem eqNode_k (kn sf : Int) (p p' : RepQ) (w : World) (h : repK.rd w p) (h' : repK.rd w p') (he : p.e = p'.e) (hl : RepQ.n p ≤ 1048576) :
    Calls Try.prog 66 #[.agg #[.int .i64 kn, .int .i64 sf, p.vd, p.vb, p.vt, p.vu, p.vn], .agg #[.int .i64 kn, .int .i64 sf, p'.vd, p'.vb, p'.vt, p'.vu, p'.vn]] w fun e w' => e = .returned (.bool true) ∧ Below w.heap.size w w' := by
  have hm := fun w h h' => eqReplica_k p p' w h h' he hl
  have hr := fun (w' : World) hb => repK.rd_below (w' := w') h hb
  have hr' := fun (w' : World) hb => repK.rd_below (w' := w') h' hb
  obtain ⟨vd, done, vb, base, vt, tent, vu, undos, vn, now⟩ := p
  obtain ⟨a0, k0, rfl⟩ : ∃ a c, vd = .slice a done.length c := h.1.shape
  obtain ⟨a1, k1, rfl⟩ : ∃ a c, vb = .slice a base.length c := h.2.1.shape
  obtain ⟨a2, k2, rfl⟩ : ∃ a c, vt = .slice a tent.length c := h.2.2.1.shape
  obtain ⟨a3, k3, rfl⟩ : ∃ a c, vu = .slice a undos.length c := h.2.2.2.1.shape
  obtain ⟨a4, k4, rfl⟩ : ∃ a c, vn = .slice a now.length c := h.2.2.2.2.shape
  obtain ⟨vd', done', vb', base', vt', tent', vu', undos', vn', now'⟩ := p'
  obtain ⟨a0', k0', rfl⟩ : ∃ a c, vd' = .slice a done'.length c := h'.1.shape
  obtain ⟨a1', k1', rfl⟩ : ∃ a c, vb' = .slice a base'.length c := h'.2.1.shape
  obtain ⟨a2', k2', rfl⟩ : ∃ a c, vt' = .slice a tent'.length c := h'.2.2.1.shape
  obtain ⟨a3', k3', rfl⟩ : ∃ a c, vu' = .slice a undos'.length c := h'.2.2.2.1.shape
  obtain ⟨a4', k4', rfl⟩ : ∃ a c, vn' = .slice a now'.length c := h'.2.2.2.2.shape
  dsimp only at hm
  clear he hl
  have hB : Below w.heap.size w ((w.alloc (.cells #[.int .i64 kn, .int .i64 sf, .slice a0 done.length k0, .slice a1 base.length k1, .slice a2 tent.length k2, .slice a3 undos.length k3, .slice a4 now.length k4] 79)).alloc (.cells #[.int .i64 kn, .int .i64 sf, .slice a0' done'.length k0', .slice a1' base'.length k1', .slice a2' tent'.length k2', .slice a3' undos'.length k3', .slice a4' now'.length k4'] 79)) := by go_grown
  have B := (Blk.new w 79 #[.int .i64 kn, .int .i64 sf, .slice a0 done.length k0, .slice a1 base.length k1, .slice a2 tent.length k2, .slice a3 undos.length k3, .slice a4 now.length k4]).below (w' := (w.alloc (.cells #[.int .i64 kn, .int .i64 sf, .slice a0 done.length k0, .slice a1 base.length k1, .slice a2 tent.length k2, .slice a3 undos.length k3, .slice a4 now.length k4] 79)).alloc (.cells #[.int .i64 kn, .int .i64 sf, .slice a0' done'.length k0', .slice a1' base'.length k1', .slice a2' tent'.length k2', .slice a3' undos'.length k3', .slice a4' now'.length k4'] 79)) (by go_grown)
  have B' := Blk.new (w.alloc (.cells #[.int .i64 kn, .int .i64 sf, .slice a0 done.length k0, .slice a1 base.length k1, .slice a2 tent.length k2, .slice a3 undos.length k3, .slice a4 now.length k4] 79)) 79 #[.int .i64 kn, .int .i64 sf, .slice a0' done'.length k0', .slice a1' base'.length k1', .slice a2' tent'.length k2', .slice a3' undos'.length k3', .slice a4' now'.length k4']
  simp only [World.size_alloc] at B'
  obtain ⟨q0, q1, q2, q3, q4, q5, q6⟩ := B.cel7
  have s0 := B'.cell 0 _ rfl
  have s1 := B'.cell 1 _ rfl
  have s2 := B'.cell 2 _ rfl
  have s3 := B'.cell 3 _ rfl
  have s4 := B'.cell 4 _ rfl
  have s5 := B'.cell 5 _ rfl
  have s6 := B'.cell 6 _ rfl
  have n0 : (kn != kn) = false := by simp
  have n1 : (sf != sf) = false := by simp
  go_enter Try.func66, Try.ntmps66
  go_wp2_with fail
  clear q0 q1 q2 q3 q4 q5 q6 s0 s1 s2 s3 s4 s5 s6 B B'
  have hr0 := hr _ hB
  have hr0' := hr' _ hB
  generalize ((w.alloc (.cells #[.int .i64 kn, .int .i64 sf, .slice a0 done.length k0, .slice a1 base.length k1, .slice a2 tent.length k2, .slice a3 undos.length k3, .slice a4 now.length k4] 79)).alloc (.cells #[.int .i64 kn, .int .i64 sf, .slice a0' done'.length k0', .slice a1' base'.length k1', .slice a2' tent'.length k2', .slice a3' undos'.length k3', .slice a4' now'.length k4'] 79)) = W at *
  refine (hm W hr0 hr0').mono ?_
  rintro e w3 ⟨rfl, hb⟩
  replace hB := hB.trans (hb.mono hB.size)
  go_wp2
  go_ret
  exact ⟨rfl, hB⟩

end Go.Proofs.Ytkkdjgiencilbaa
