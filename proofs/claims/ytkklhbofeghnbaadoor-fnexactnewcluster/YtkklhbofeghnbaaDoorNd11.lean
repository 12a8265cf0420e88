/- A node in the law's helpers: its size, its copy, compared, marked, and whether the marks are held; the same of a NodeResult. No condition. -/
import Derived.Test.YtkklhbofeghnbaaDoorK9r
import Derived.Test.YtkklhbofeghnbaaDoorMd11
namespace Go.Proofs.YtkklhbofeghnbaaDoor
open Go.RowKit
set_option linter.unusedVariables false
set_option linter.unusedSimpArgs false

set_option maxHeartbeats 2000000 in
theorem eqNode_k (kn sf : Int) (p p' : RepQ) (w : World) (h : repK.rd w p) (h' : repK.rd w p') (he : p.e = p'.e) (hl : RepQ.n p ≤ 1048576) :
    Calls Tryd.prog 29 #[.agg #[.int .i64 kn, .int .i64 sf, p.vd, p.vb, p.vt, p.vu, p.vn], .agg #[.int .i64 kn, .int .i64 sf, p'.vd, p'.vb, p'.vt, p'.vu, p'.vn]] w fun e w' => e = .returned (.bool true) ∧ Below w.heap.size w w' := by
  have hm := fun w h h' => eqReplica_k p p' w h h' he hl
  have hr := fun (w' : World) hb => repK.rd_below (w' := w') h hb
  have hr' := fun (w' : World) hb => repK.rd_below (w' := w') h' hb
  obtain ⟨vd, done, vb, base, vt, tent, vu, undos, vn, now⟩ := p
  obtain ⟨a0, k0, rfl⟩ : ∃ a c, vd = .slice a done.length c := h.1.shape
  obtain ⟨a1, k1, rfl⟩ : ∃ a c, vb = .slice a base.length c := h.2.1.shape
  obtain ⟨a2, k2, rfl⟩ : ∃ a c, vt = .slice a tent.length c := h.2.2.1.shape
  obtain ⟨a3, k3, rfl⟩ : ∃ a c, vu = .slice a undos.length c := h.2.2.2.1.shape
  obtain ⟨a4, k4, rfl⟩ : ∃ a c, vn = .slice a now.length c := h.2.2.2.2.shape
  obtain ⟨vd', done', vb', base', vt', tent', vu', undos', vn', now'⟩ := p'
  obtain ⟨a0', k0', rfl⟩ : ∃ a c, vd' = .slice a done'.length c := h'.1.shape
  obtain ⟨a1', k1', rfl⟩ : ∃ a c, vb' = .slice a base'.length c := h'.2.1.shape
  obtain ⟨a2', k2', rfl⟩ : ∃ a c, vt' = .slice a tent'.length c := h'.2.2.1.shape
  obtain ⟨a3', k3', rfl⟩ : ∃ a c, vu' = .slice a undos'.length c := h'.2.2.2.1.shape
  obtain ⟨a4', k4', rfl⟩ : ∃ a c, vn' = .slice a now'.length c := h'.2.2.2.2.shape
  dsimp only at hm
  clear he hl
  have hB : Below w.heap.size w ((w.alloc (.cells #[.int .i64 kn, .int .i64 sf, .slice a0 done.length k0, .slice a1 base.length k1, .slice a2 tent.length k2, .slice a3 undos.length k3, .slice a4 now.length k4] 74)).alloc (.cells #[.int .i64 kn, .int .i64 sf, .slice a0' done'.length k0', .slice a1' base'.length k1', .slice a2' tent'.length k2', .slice a3' undos'.length k3', .slice a4' now'.length k4'] 74)) := by go_grown
  have B := (Blk.new w 74 #[.int .i64 kn, .int .i64 sf, .slice a0 done.length k0, .slice a1 base.length k1, .slice a2 tent.length k2, .slice a3 undos.length k3, .slice a4 now.length k4]).below (w' := (w.alloc (.cells #[.int .i64 kn, .int .i64 sf, .slice a0 done.length k0, .slice a1 base.length k1, .slice a2 tent.length k2, .slice a3 undos.length k3, .slice a4 now.length k4] 74)).alloc (.cells #[.int .i64 kn, .int .i64 sf, .slice a0' done'.length k0', .slice a1' base'.length k1', .slice a2' tent'.length k2', .slice a3' undos'.length k3', .slice a4' now'.length k4'] 74)) (by go_grown)
  have B' := Blk.new (w.alloc (.cells #[.int .i64 kn, .int .i64 sf, .slice a0 done.length k0, .slice a1 base.length k1, .slice a2 tent.length k2, .slice a3 undos.length k3, .slice a4 now.length k4] 74)) 74 #[.int .i64 kn, .int .i64 sf, .slice a0' done'.length k0', .slice a1' base'.length k1', .slice a2' tent'.length k2', .slice a3' undos'.length k3', .slice a4' now'.length k4']
  simp only [World.size_alloc] at B'
  obtain ⟨q0, q1, q2, q3, q4, q5, q6⟩ := B.cel7
  have s0 := B'.cell 0 _ rfl
  have s1 := B'.cell 1 _ rfl
  have s2 := B'.cell 2 _ rfl
  have s3 := B'.cell 3 _ rfl
  have s4 := B'.cell 4 _ rfl
  have s5 := B'.cell 5 _ rfl
  have s6 := B'.cell 6 _ rfl
  have n0 : (kn != kn) = false := by simp
  have n1 : (sf != sf) = false := by simp
  go_enter Tryd.func29, Tryd.ntmps29
  go_wp2_with fail
  clear q0 q1 q2 q3 q4 q5 q6 s0 s1 s2 s3 s4 s5 s6 B B'
  have hr0 := hr _ hB
  have hr0' := hr' _ hB
  generalize ((w.alloc (.cells #[.int .i64 kn, .int .i64 sf, .slice a0 done.length k0, .slice a1 base.length k1, .slice a2 tent.length k2, .slice a3 undos.length k3, .slice a4 now.length k4] 74)).alloc (.cells #[.int .i64 kn, .int .i64 sf, .slice a0' done'.length k0', .slice a1' base'.length k1', .slice a2' tent'.length k2', .slice a3' undos'.length k3', .slice a4' now'.length k4'] 74)) = W at *
  refine (hm W hr0 hr0').mono ?_
  rintro e w3 ⟨rfl, hb⟩
  replace hB := hB.trans (hb.mono hB.size)
  go_wp2
  go_ret
  exact ⟨rfl, hB⟩

end Go.Proofs.YtkklhbofeghnbaaDoor
