/- Steps: the kind of their cells; what the helpers of the laws do with a step and with lists of steps. No condition. -/
import Derived.Test.YtkkdjgiencilbaaKT
import Derived.Test.YtkkdjgiencilbaaV10
import Derived.Test.YtkkdjgiencilbaaBlk5
import Derived.Test.YtkkdjgiencilbaaSt8
import Derived.Test.YtkkdjgiencilbaaStM
namespace Go.Proofs.Ytkkdjgiencilbaa
open Go.RowKit
open Go.BigFrame
set_option linter.unusedVariables false
set_option linter.unusedSimpArgs false

structure StepQ where
  kd : Int
  nd : Int
  nn : Int
  i : Int
  s : Int
  q : Int
  va : Value
  acts : List ActD
  vk : Int
  vr : Int
  vn : Int
  vv : Int
structure StepD where
  kd : Int
  nd : Int
  nn : Int
  t : TxnD
  v : VoteD
def stepK : Kind StepQ where
  ty := 48
  size := 11
  cells p := [.int .i64 p.kd, .int .i64 p.nd, .int .i64 p.nn, .int .i64 p.i, .int .i64 p.s, .int .i64 p.q, p.va, .int .i64 p.vk, .int .i64 p.vr, .int .i64 p.vn, .int .i64 p.vv]
  own w p := actK.Own w p.va p.acts
  rd w p := actK.At w p.va p.acts
  foot p := actK.fp p.va p.acts
  len _ := rfl
  own_rd h := h.at
  own_out h ho hd := h.out ho hd
  own_lt h := h.lt
  rd_below h hb := h.below hb
def StepQ.e (p : StepQ) : StepD := ⟨p.kd, p.nd, p.nn, ⟨p.i, p.s, p.q, p.acts⟩, ⟨p.vk, p.vr, p.vn, p.vv⟩⟩
def StepQ.n (p : StepQ) : Nat := p.acts.length
def StepQ.wf (p : StepQ) : Prop := p.acts.length ≤ 9223372036854775807

theorem infoStep : (Try.prog.info? 48).map (fun i => (i.zero, i.size, i.bytes)) = some (some (.agg #[.int .i64 0, .int .i64 0, .int .i64 0, .int .i64 0, .int .i64 0, .int .i64 0, .slice none 0 0, .int .i64 0, .int .i64 0, .int .i64 0, .int .i64 0]), 11, 104) := by kernel_rfl

set_option maxHeartbeats 2000000 in
theorem szStep_k (p : StepQ) (c : Int) (w : World) (h : stepK.rd w p) (hn : StepQ.wf p) (h0 : 0 ≤ c) (h1 : c ≤ 1048576) :
    Calls Try.prog 12 #[.agg #[.int .i64 p.kd, .int .i64 p.nd, .int .i64 p.nn, .int .i64 p.i, .int .i64 p.s, .int .i64 p.q, p.va, .int .i64 p.vk, .int .i64 p.vr, .int .i64 p.vn, .int .i64 p.vv], .int .i64 c] w fun e w' => ∃ r : Int, e = .returned (.int .i64 r) ∧ (¬ r < 0 → (StepQ.n p : Int) + r = c) ∧ Below w.heap.size w w' := by
  obtain ⟨kd, nd, nn, i, s, q, va, acts, vk, vr, vn, vv⟩ := p
  have h : actK.At w va acts := h
  have hm := fun w h => szTxn_k (⟨i, s, q, va, acts⟩ : TxnQ) c w h hn h0 h1
  have hr := fun (w' : World) hb => txnK.rd_below (p := (⟨i, s, q, va, acts⟩ : TxnQ)) (w' := w') h hb
  obtain ⟨a, k, rfl⟩ := h.shape
  dsimp only [StepQ.n, TxnQ.n] at hm ⊢
  clear hn h
  have hB : Below w.heap.size w (w.alloc (.cells #[.int .i64 kd, .int .i64 nd, .int .i64 nn, .int .i64 i, .int .i64 s, .int .i64 q, .slice a acts.length k, .int .i64 vk, .int .i64 vr, .int .i64 vn, .int .i64 vv] 40)) := by go_grown
  have B := Blk.new w 40 #[.int .i64 kd, .int .i64 nd, .int .i64 nn, .int .i64 i, .int .i64 s, .int .i64 q, .slice a acts.length k, .int .i64 vk, .int .i64 vr, .int .i64 vn, .int .i64 vv]
  have q0 := B.cell 0 _ rfl
  have q1 := B.cell 1 _ rfl
  have q2 := B.cell 2 _ rfl
  have q3 := B.cell 3 _ rfl
  have q4 := B.cell 4 _ rfl
  have q5 := B.cell 5 _ rfl
  have q6 := B.cell 6 _ rfl
  have q7 := B.cell 7 _ rfl
  have q8 := B.cell 8 _ rfl
  have q9 := B.cell 9 _ rfl
  have q10 := B.cell 10 _ rfl
  go_enter Try.func12, Try.ntmps12
  go_wp2_with fail
  clear q0 q1 q2 q3 q4 q5 q6 q7 q8 q9 q10 B
  have hr0 := hr _ hB
  generalize w.alloc (.cells #[.int .i64 kd, .int .i64 nd, .int .i64 nn, .int .i64 i, .int .i64 s, .int .i64 q, .slice a acts.length k, .int .i64 vk, .int .i64 vr, .int .i64 vn, .int .i64 vv] 40) = W at *
  refine (hm W hr0).mono ?_
  rintro e w1 ⟨r, rfl, hq, hb⟩
  replace hB := hB.trans (hb.mono hB.size)
  by_cases hneg : r < 0
  · go_wp2
    go_ret
    exact ⟨_, rfl, fun h => absurd h (by decide), hB⟩
  · go_wp2
    go_ret
    exact ⟨_, rfl, hq, hB⟩

set_option maxHeartbeats 4000000 in
theorem eqStep_k (p p' : StepQ) (w : World) (h : stepK.rd w p) (h' : stepK.rd w p') (he : p.e = p'.e) (hl : StepQ.n p ≤ 1048576) :
    Calls Try.prog 16 #[.agg #[.int .i64 p.kd, .int .i64 p.nd, .int .i64 p.nn, .int .i64 p.i, .int .i64 p.s, .int .i64 p.q, p.va, .int .i64 p.vk, .int .i64 p.vr, .int .i64 p.vn, .int .i64 p.vv], .agg #[.int .i64 p'.kd, .int .i64 p'.nd, .int .i64 p'.nn, .int .i64 p'.i, .int .i64 p'.s, .int .i64 p'.q, p'.va, .int .i64 p'.vk, .int .i64 p'.vr, .int .i64 p'.vn, .int .i64 p'.vv]] w fun e w' => e = .returned (.bool true) ∧ Below w.heap.size w w' := by
  obtain ⟨kd, nd, nn, i, s, q, va, acts, vk, vr, vn, vv⟩ := p
  obtain ⟨kd', nd', nn', i', s', q', va', acts', vk', vr', vn', vv'⟩ := p'
  simp only [StepQ.e, StepD.mk.injEq, TxnD.mk.injEq, VoteD.mk.injEq] at he
  obtain ⟨rfl, rfl, rfl, ⟨rfl, rfl, rfl, rfl⟩, rfl, rfl, rfl, rfl⟩ := he
  have h : actK.At w va acts := h
  have h' : actK.At w va' acts := h'
  have hm := fun w h h' => eqTxn_k (⟨i, s, q, va, acts⟩ : TxnQ) (⟨i, s, q, va', acts⟩ : TxnQ) w h h' rfl hl
  have hv := fun w => eqVote_true vk vr vn vv w
  have hr := fun (w' : World) hb => txnK.rd_below (p := (⟨i, s, q, va, acts⟩ : TxnQ)) (w' := w') h hb
  have hr' := fun (w' : World) hb => txnK.rd_below (p := (⟨i, s, q, va', acts⟩ : TxnQ)) (w' := w') h' hb
  obtain ⟨a, k, rfl⟩ := h.shape
  obtain ⟨a', k', rfl⟩ := h'.shape
  dsimp only at hm
  clear h h' hl
  have hB : Below w.heap.size w ((w.alloc (.cells #[.int .i64 kd, .int .i64 nd, .int .i64 nn, .int .i64 i, .int .i64 s, .int .i64 q, .slice a acts.length k, .int .i64 vk, .int .i64 vr, .int .i64 vn, .int .i64 vv] 48)).alloc (.cells #[.int .i64 kd, .int .i64 nd, .int .i64 nn, .int .i64 i, .int .i64 s, .int .i64 q, .slice a' acts.length k', .int .i64 vk, .int .i64 vr, .int .i64 vn, .int .i64 vv] 48)) := by go_grown
  have B := (Blk.new w 48 #[.int .i64 kd, .int .i64 nd, .int .i64 nn, .int .i64 i, .int .i64 s, .int .i64 q, .slice a acts.length k, .int .i64 vk, .int .i64 vr, .int .i64 vn, .int .i64 vv]).below (w' := (w.alloc (.cells #[.int .i64 kd, .int .i64 nd, .int .i64 nn, .int .i64 i, .int .i64 s, .int .i64 q, .slice a acts.length k, .int .i64 vk, .int .i64 vr, .int .i64 vn, .int .i64 vv] 48)).alloc (.cells #[.int .i64 kd, .int .i64 nd, .int .i64 nn, .int .i64 i, .int .i64 s, .int .i64 q, .slice a' acts.length k', .int .i64 vk, .int .i64 vr, .int .i64 vn, .int .i64 vv] 48)) (by go_grown)
  have B' := Blk.new (w.alloc (.cells #[.int .i64 kd, .int .i64 nd, .int .i64 nn, .int .i64 i, .int .i64 s, .int .i64 q, .slice a acts.length k, .int .i64 vk, .int .i64 vr, .int .i64 vn, .int .i64 vv] 48)) 48 #[.int .i64 kd, .int .i64 nd, .int .i64 nn, .int .i64 i, .int .i64 s, .int .i64 q, .slice a' acts.length k', .int .i64 vk, .int .i64 vr, .int .i64 vn, .int .i64 vv]
  simp only [World.size_alloc] at B'
  have q0 := B.cell 0 _ rfl
  have q1 := B.cell 1 _ rfl
  have q2 := B.cell 2 _ rfl
  have q3 := B.cell 3 _ rfl
  have q4 := B.cell 4 _ rfl
  have q5 := B.cell 5 _ rfl
  have q6 := B.cell 6 _ rfl
  have q7 := B.cell 7 _ rfl
  have q8 := B.cell 8 _ rfl
  have q9 := B.cell 9 _ rfl
  have q10 := B.cell 10 _ rfl
  have s0 := B'.cell 0 _ rfl
  have s1 := B'.cell 1 _ rfl
  have s2 := B'.cell 2 _ rfl
  have s3 := B'.cell 3 _ rfl
  have s4 := B'.cell 4 _ rfl
  have s5 := B'.cell 5 _ rfl
  have s6 := B'.cell 6 _ rfl
  have s7 := B'.cell 7 _ rfl
  have s8 := B'.cell 8 _ rfl
  have s9 := B'.cell 9 _ rfl
  have s10 := B'.cell 10 _ rfl
  have n0 : (kd != kd) = false := by simp
  have n1 : (nd != nd) = false := by simp
  have n2 : (nn != nn) = false := by simp
  go_enter Try.func16, Try.ntmps16
  go_wp2_with fail
  clear q0 q1 q2 q3 q4 q5 q6 q7 q8 q9 q10 s0 s1 s2 s3 s4 s5 s6 s7 s8 s9 s10
  have hr0 := hr _ hB
  have hr0' := hr' _ hB
  generalize ((w.alloc (.cells #[.int .i64 kd, .int .i64 nd, .int .i64 nn, .int .i64 i, .int .i64 s, .int .i64 q, .slice a acts.length k, .int .i64 vk, .int .i64 vr, .int .i64 vn, .int .i64 vv] 48)).alloc (.cells #[.int .i64 kd, .int .i64 nd, .int .i64 nn, .int .i64 i, .int .i64 s, .int .i64 q, .slice a' acts.length k', .int .i64 vk, .int .i64 vr, .int .i64 vn, .int .i64 vv] 48)) = W at *
  refine (hm W hr0 hr0').mono ?_
  rintro e w3 ⟨rfl, hb⟩
  replace hB := hB.trans (hb.mono hB.size)
  replace B := B.below hb
  replace B' := B'.below hb
  have q7 := B.cell 7 _ rfl
  have q8 := B.cell 8 _ rfl
  have q9 := B.cell 9 _ rfl
  have q10 := B.cell 10 _ rfl
  have s7 := B'.cell 7 _ rfl
  have s8 := B'.cell 8 _ rfl
  have s9 := B'.cell 9 _ rfl
  have s10 := B'.cell 10 _ rfl
  go_wp2_with fail
  clear q7 q8 q9 q10 s7 s8 s9 s10 B B'
  refine (hv w3).mono ?_
  rintro e w4 ⟨rfl, hb4⟩
  replace hB := hB.trans (hb4.mono hB.size)
  go_wp2
  go_ret
  exact ⟨rfl, hB⟩

set_option maxHeartbeats 4000000 in
theorem toStep_k (p : StepQ) (w : World) (h : stepK.rd w p) (hl : StepQ.n p ≤ 1048576) :
    Calls Try.prog 14 #[.agg #[.int .i64 p.kd, .int .i64 p.nd, .int .i64 p.nn, .int .i64 p.i, .int .i64 p.s, .int .i64 p.q, p.va, .int .i64 p.vk, .int .i64 p.vr, .int .i64 p.vn, .int .i64 p.vv]] w fun e w' => ∃ p' : StepQ, e = .returned (.agg #[.int .i64 p'.kd, .int .i64 p'.nd, .int .i64 p'.nn, .int .i64 p'.i, .int .i64 p'.s, .int .i64 p'.q, p'.va, .int .i64 p'.vk, .int .i64 p'.vr, .int .i64 p'.vn, .int .i64 p'.vv]) ∧ p'.e = p.e ∧ stepK.own w' p' ∧ (stepK.foot p').Nodup ∧ (∀ k ∈ stepK.foot p', w.heap.size ≤ k) ∧ Below w.heap.size w w' := by
  obtain ⟨kd, nd, nn, i, s, q, va, acts, vk, vr, vn, vv⟩ := p
  have h : actK.At w va acts := h
  have hm := fun w h => toTxn_k (⟨i, s, q, va, acts⟩ : TxnQ) w h hl
  have hr := fun (w' : World) hb => txnK.rd_below (p := (⟨i, s, q, va, acts⟩ : TxnQ)) (w' := w') h hb
  have hv := fun w => toVote_any vk vr vn vv w
  obtain ⟨a, k, rfl⟩ := h.shape
  dsimp only at hm
  clear h hl
  have hB : Below w.heap.size w (((w.alloc (.cells #[.int .i64 kd, .int .i64 nd, .int .i64 nn, .int .i64 i, .int .i64 s, .int .i64 q, .slice a acts.length k, .int .i64 vk, .int .i64 vr, .int .i64 vn, .int .i64 vv] 40)).alloc (.cells #[.int .i64 0, .int .i64 0, .int .i64 0, .int .i64 0, .int .i64 0, .int .i64 0, .slice none 0 0, .int .i64 0, .int .i64 0, .int .i64 0, .int .i64 0] 48)).alloc (.cells #[.int .i64 kd, .int .i64 nd, .int .i64 nn, .int .i64 0, .int .i64 0, .int .i64 0, .slice none 0 0, .int .i64 0, .int .i64 0, .int .i64 0, .int .i64 0] 48)) := by go_grown
  have R := (Blk.new (w.alloc (.cells #[.int .i64 kd, .int .i64 nd, .int .i64 nn, .int .i64 i, .int .i64 s, .int .i64 q, .slice a acts.length k, .int .i64 vk, .int .i64 vr, .int .i64 vn, .int .i64 vv] 40)) 48 #[.int .i64 0, .int .i64 0, .int .i64 0, .int .i64 0, .int .i64 0, .int .i64 0, .slice none 0 0, .int .i64 0, .int .i64 0, .int .i64 0, .int .i64 0]).below (w' := (((w.alloc (.cells #[.int .i64 kd, .int .i64 nd, .int .i64 nn, .int .i64 i, .int .i64 s, .int .i64 q, .slice a acts.length k, .int .i64 vk, .int .i64 vr, .int .i64 vn, .int .i64 vv] 40)).alloc (.cells #[.int .i64 0, .int .i64 0, .int .i64 0, .int .i64 0, .int .i64 0, .int .i64 0, .slice none 0 0, .int .i64 0, .int .i64 0, .int .i64 0, .int .i64 0] 48)).alloc (.cells #[.int .i64 kd, .int .i64 nd, .int .i64 nn, .int .i64 0, .int .i64 0, .int .i64 0, .slice none 0 0, .int .i64 0, .int .i64 0, .int .i64 0, .int .i64 0] 48))) (by go_grown)
  have O := Blk.new ((w.alloc (.cells #[.int .i64 kd, .int .i64 nd, .int .i64 nn, .int .i64 i, .int .i64 s, .int .i64 q, .slice a acts.length k, .int .i64 vk, .int .i64 vr, .int .i64 vn, .int .i64 vv] 40)).alloc (.cells #[.int .i64 0, .int .i64 0, .int .i64 0, .int .i64 0, .int .i64 0, .int .i64 0, .slice none 0 0, .int .i64 0, .int .i64 0, .int .i64 0, .int .i64 0] 48)) 48 #[.int .i64 kd, .int .i64 nd, .int .i64 nn, .int .i64 0, .int .i64 0, .int .i64 0, .slice none 0 0, .int .i64 0, .int .i64 0, .int .i64 0, .int .i64 0]
  have hS : (((w.alloc (.cells #[.int .i64 kd, .int .i64 nd, .int .i64 nn, .int .i64 i, .int .i64 s, .int .i64 q, .slice a acts.length k, .int .i64 vk, .int .i64 vr, .int .i64 vn, .int .i64 vv] 40)).alloc (.cells #[.int .i64 0, .int .i64 0, .int .i64 0, .int .i64 0, .int .i64 0, .int .i64 0, .slice none 0 0, .int .i64 0, .int .i64 0, .int .i64 0, .int .i64 0] 48)).alloc (.cells #[.int .i64 kd, .int .i64 nd, .int .i64 nn, .int .i64 0, .int .i64 0, .int .i64 0, .slice none 0 0, .int .i64 0, .int .i64 0, .int .i64 0, .int .i64 0] 48)).heap.size = w.heap.size + 3 := by simp only [World.size_alloc]
  simp only [World.size_alloc] at R O
  have B := (Blk.new w 40 #[.int .i64 kd, .int .i64 nd, .int .i64 nn, .int .i64 i, .int .i64 s, .int .i64 q, .slice a acts.length k, .int .i64 vk, .int .i64 vr, .int .i64 vn, .int .i64 vv]).below (w' := (((w.alloc (.cells #[.int .i64 kd, .int .i64 nd, .int .i64 nn, .int .i64 i, .int .i64 s, .int .i64 q, .slice a acts.length k, .int .i64 vk, .int .i64 vr, .int .i64 vn, .int .i64 vv] 40)).alloc (.cells #[.int .i64 0, .int .i64 0, .int .i64 0, .int .i64 0, .int .i64 0, .int .i64 0, .slice none 0 0, .int .i64 0, .int .i64 0, .int .i64 0, .int .i64 0] 48)).alloc (.cells #[.int .i64 0, .int .i64 0, .int .i64 0, .int .i64 0, .int .i64 0, .int .i64 0, .slice none 0 0, .int .i64 0, .int .i64 0, .int .i64 0, .int .i64 0] 48))) (by go_grown)
  have B2 := (Blk.new w 40 #[.int .i64 kd, .int .i64 nd, .int .i64 nn, .int .i64 i, .int .i64 s, .int .i64 q, .slice a acts.length k, .int .i64 vk, .int .i64 vr, .int .i64 vn, .int .i64 vv]).below (w' := (((w.alloc (.cells #[.int .i64 kd, .int .i64 nd, .int .i64 nn, .int .i64 i, .int .i64 s, .int .i64 q, .slice a acts.length k, .int .i64 vk, .int .i64 vr, .int .i64 vn, .int .i64 vv] 40)).alloc (.cells #[.int .i64 0, .int .i64 0, .int .i64 0, .int .i64 0, .int .i64 0, .int .i64 0, .slice none 0 0, .int .i64 0, .int .i64 0, .int .i64 0, .int .i64 0] 48)).alloc (.cells #[.int .i64 kd, .int .i64 nd, .int .i64 nn, .int .i64 0, .int .i64 0, .int .i64 0, .slice none 0 0, .int .i64 0, .int .i64 0, .int .i64 0, .int .i64 0] 48))) (by go_grown)
  have q0 := B.cell 0 _ rfl
  have q1 := B.cell 1 _ rfl
  have q2 := B.cell 2 _ rfl
  have q3 := B.cell 3 _ rfl
  have q4 := B.cell 4 _ rfl
  have q5 := B.cell 5 _ rfl
  have q6 := B.cell 6 _ rfl
  have q7 := B.cell 7 _ rfl
  have q8 := B.cell 8 _ rfl
  have q9 := B.cell 9 _ rfl
  have q10 := B.cell 10 _ rfl
  go_enter Try.func14, Try.ntmps14
  go_wp2_with fail
  clear q0 q1 q2 q3 q4 q5 q6 q7 q8 q9 q10 B
  have hr0 := hr _ hB
  generalize (((w.alloc (.cells #[.int .i64 kd, .int .i64 nd, .int .i64 nn, .int .i64 i, .int .i64 s, .int .i64 q, .slice a acts.length k, .int .i64 vk, .int .i64 vr, .int .i64 vn, .int .i64 vv] 40)).alloc (.cells #[.int .i64 0, .int .i64 0, .int .i64 0, .int .i64 0, .int .i64 0, .int .i64 0, .slice none 0 0, .int .i64 0, .int .i64 0, .int .i64 0, .int .i64 0] 48)).alloc (.cells #[.int .i64 kd, .int .i64 nd, .int .i64 nn, .int .i64 0, .int .i64 0, .int .i64 0, .slice none 0 0, .int .i64 0, .int .i64 0, .int .i64 0, .int .i64 0] 48)) = W at *
  refine (hm W hr0).mono ?_
  rintro e w1 ⟨p1, rfl, E0, O0, N0, G0, hb⟩
  obtain ⟨pi, ps, pq, px, pa⟩ := p1
  simp only [TxnQ.e, TxnD.mk.injEq] at E0
  obtain ⟨rfl, rfl, rfl, rfl⟩ := E0
  have O0 : actK.Own w1 px pa := O0
  obtain ⟨x, z, rfl⟩ := O0.shape
  replace hB := hB.trans (hb.mono hB.size)
  replace R := R.below hb
  replace O := O.below hb
  replace B2 := B2.below hb
  have hs1 := hb.size
  have N0 : (actK.fp (.slice x pa.length z) pa).Nodup := N0
  have G0 : ∀ k ∈ actK.fp (.slice x pa.length z) pa, W.heap.size ≤ k := G0
  clear hb hm hr hr0
  dsimp only
  have hsz : (Try.prog.info? 45).map (·.size) = some (#[.int .i64 pi, .int .i64 ps, .int .i64 pq, .slice x pa.length z] : Array Value).size := by kernel_rfl
  have hsv : (Try.prog.info? 46).map (·.size) = some (#[.int .i64 vk, .int .i64 vr, .int .i64 vn, .int .i64 vv] : Array Value).size := by kernel_rfl
  have hsn : (Try.prog.info? 48).map (·.size) = some (#[.int .i64 kd, .int .i64 nd, .int .i64 nn, .int .i64 pi, .int .i64 ps, .int .i64 pq, .slice x pa.length z, .int .i64 vk, .int .i64 vr, .int .i64 vn, .int .i64 vv] : Array Value).size := by kernel_rfl
  have U1 := (((((Out.refl [w.heap.size + 1 + 1] w1).set (b := w.heap.size + 1 + 1) (j := 3) (u := .int .i64 pi) (by simp)).set (b := w.heap.size + 1 + 1) (j := 4) (u := .int .i64 ps) (by simp)).set (b := w.heap.size + 1 + 1) (j := 5) (u := .int .i64 pq) (by simp)).set (b := w.heap.size + 1 + 1) (j := 6) (u := .slice x pa.length z) (by simp))
  have O2 := (((O.set 3 (.int .i64 pi)).set 4 (.int .i64 ps)).set 5 (.int .i64 pq)).set 6 (.slice x pa.length z)
  simp only [pjE] at O2
  have R2 : Blk _ _ _ _ := (U1.block _ R.lt (by simp)).trans R
  have B3 : Blk _ _ _ _ := (U1.block _ B2.lt (by simp; omega)).trans B2
  have OW := O0.out U1 (fun k hk => by have := G0 k hk; simp; omega)
  have hB2 := Out.keep hB U1 hB.size (fun k hk => by simp at hk; omega)
  have hsz1 : w1.heap.size = (w1.setCells (w.heap.size + 1 + 1) 3 [.int .i64 pi, .int .i64 ps, .int .i64 pq, .slice x pa.length z]).heap.size := by simp [World.setCells]
  change Blk (w1.setCells (w.heap.size + 1 + 1) 3 [.int .i64 pi, .int .i64 ps, .int .i64 pq, .slice x pa.length z]) _ _ _ at O2
  change Blk (w1.setCells (w.heap.size + 1 + 1) 3 [.int .i64 pi, .int .i64 ps, .int .i64 pq, .slice x pa.length z]) _ _ _ at R2
  change Blk (w1.setCells (w.heap.size + 1 + 1) 3 [.int .i64 pi, .int .i64 ps, .int .i64 pq, .slice x pa.length z]) _ _ _ at B3
  change actK.Own (w1.setCells (w.heap.size + 1 + 1) 3 [.int .i64 pi, .int .i64 ps, .int .i64 pq, .slice x pa.length z]) _ _ at OW
  change Below _ _ (w1.setCells (w.heap.size + 1 + 1) 3 [.int .i64 pi, .int .i64 ps, .int .i64 pq, .slice x pa.length z]) at hB2
  clear U1
  generalize hV : w1.setCells (w.heap.size + 1 + 1) 3 [.int .i64 pi, .int .i64 ps, .int .i64 pq, .slice x pa.length z] = V at *
  have q7 := B3.cell 7 _ rfl
  have q8 := B3.cell 8 _ rfl
  have q9 := B3.cell 9 _ rfl
  have q10 := B3.cell 10 _ rfl
  go_wp2_with (first | fail | (refine st_mid (by kernel_rfl) 45 _ _ rfl _ 3 #[.int .i64 pi, .int .i64 ps, .int .i64 pq, .slice x pa.length z] rfl rfl 48 _ O hsz (by simp) (by simp [Value.oneCell']) ?_; (try dsimp only); rw [hV]))
  clear q7 q8 q9 q10 B3 B2
  refine (hv V).mono ?_
  rintro e w2 ⟨rfl, hb⟩
  replace hB2 := hB2.trans (hb.mono hB2.size)
  replace R2 := R2.below hb
  replace O2 := O2.below hb
  replace OW := OW.below hb
  have hs2 := hb.size
  clear hb hv
  have U2 := (((((Out.refl [w.heap.size + 1 + 1] w2).set (b := w.heap.size + 1 + 1) (j := 7) (u := .int .i64 vk) (by simp)).set (b := w.heap.size + 1 + 1) (j := 8) (u := .int .i64 vr) (by simp)).set (b := w.heap.size + 1 + 1) (j := 9) (u := .int .i64 vn) (by simp)).set (b := w.heap.size + 1 + 1) (j := 10) (u := .int .i64 vv) (by simp))
  have O4 := (((O2.set 7 (.int .i64 vk)).set 8 (.int .i64 vr)).set 9 (.int .i64 vn)).set 10 (.int .i64 vv)
  simp only [pjE] at O4
  have R4 : Blk _ _ _ _ := (U2.block _ R2.lt (by simp)).trans R2
  have OW2 := OW.out U2 (fun k hk => by have := G0 k hk; simp; omega)
  have hB4 := Out.keep hB2 U2 hB2.size (fun k hk => by simp at hk; omega)
  change Blk (w2.setCells (w.heap.size + 1 + 1) 7 [.int .i64 vk, .int .i64 vr, .int .i64 vn, .int .i64 vv]) _ _ _ at O4
  change Blk (w2.setCells (w.heap.size + 1 + 1) 7 [.int .i64 vk, .int .i64 vr, .int .i64 vn, .int .i64 vv]) _ _ _ at R4
  change actK.Own (w2.setCells (w.heap.size + 1 + 1) 7 [.int .i64 vk, .int .i64 vr, .int .i64 vn, .int .i64 vv]) _ _ at OW2
  change Below _ _ (w2.setCells (w.heap.size + 1 + 1) 7 [.int .i64 vk, .int .i64 vr, .int .i64 vn, .int .i64 vv]) at hB4
  clear U2
  generalize hV2 : w2.setCells (w.heap.size + 1 + 1) 7 [.int .i64 vk, .int .i64 vr, .int .i64 vn, .int .i64 vv] = V2 at *
  have R5 := R4.row #[.int .i64 kd, .int .i64 nd, .int .i64 nn, .int .i64 pi, .int .i64 ps, .int .i64 pq, .slice x pa.length z, .int .i64 vk, .int .i64 vr, .int .i64 vn, .int .i64 vv]
  have U5 := out_row V2 (w.heap.size + 1) #[.int .i64 kd, .int .i64 nd, .int .i64 nn, .int .i64 pi, .int .i64 ps, .int .i64 pq, .slice x pa.length z, .int .i64 vk, .int .i64 vr, .int .i64 vn, .int .i64 vv]
  have OW5 := OW2.out U5 (fun k hk => by have := G0 k hk; simp; omega)
  have hB5 := Out.keep hB4 U5 hB4.size (fun k hk => by simp at hk; omega)
  have q0 := O4.cell 0 _ rfl
  have q1 := O4.cell 1 _ rfl
  have q2 := O4.cell 2 _ rfl
  have q3 := O4.cell 3 _ rfl
  have q4 := O4.cell 4 _ rfl
  have q5 := O4.cell 5 _ rfl
  have q6 := O4.cell 6 _ rfl
  have q7 := O4.cell 7 _ rfl
  have q8 := O4.cell 8 _ rfl
  have q9 := O4.cell 9 _ rfl
  have q10 := O4.cell 10 _ rfl
  go_wp2_with (first | (refine st_mid (by kernel_rfl) 46 _ _ rfl _ 7 #[.int .i64 vk, .int .i64 vr, .int .i64 vn, .int .i64 vv] rfl rfl 48 _ O2 hsv (by simp) (by simp [Value.oneCell']) ?_; (try dsimp only); rw [hV2]) | (refine st_row (by kernel_rfl) 48 _ _ rfl _ #[.int .i64 kd, .int .i64 nd, .int .i64 nn, .int .i64 pi, .int .i64 ps, .int .i64 pq, .slice x pa.length z, .int .i64 vk, .int .i64 vr, .int .i64 vn, .int .i64 vv] rfl rfl 48 _ R4 hsn rfl (by simp [Value.oneCell']) ?_))
  have r0 := R5.cell 0 _ rfl
  have r1 := R5.cell 1 _ rfl
  have r2 := R5.cell 2 _ rfl
  have r3 := R5.cell 3 _ rfl
  have r4 := R5.cell 4 _ rfl
  have r5 := R5.cell 5 _ rfl
  have r6 := R5.cell 6 _ rfl
  have r7 := R5.cell 7 _ rfl
  have r8 := R5.cell 8 _ rfl
  have r9 := R5.cell 9 _ rfl
  have r10 := R5.cell 10 _ rfl
  exact bodyPost_ret (v := .agg #[.int .i64 kd, .int .i64 nd, .int .i64 nn, .int .i64 pi, .int .i64 ps, .int .i64 pq, .slice x pa.length z, .int .i64 vk, .int .i64 vr, .int .i64 vn, .int .i64 vv]) (by simp [results, Try.results14, go_sem, r0, r1, r2, r3, r4, r5, r6, r7, r8, r9, r10]) rfl ⟨⟨kd, nd, nn, pi, ps, pq, .slice x pa.length z, pa, vk, vr, vn, vv⟩, rfl, rfl, OW5, N0, fun k hk => by have := G0 k hk; omega, hB5⟩

set_option maxHeartbeats 1000000 in
theorem szSteps_k (v : Value) (ps : List StepQ) (c : Int) (w : World) (h : stepK.At w v ps) (hn : ps.length ≤ 9223372036854775807) (hn1 : ∀ p ∈ ps, StepQ.wf p) (h0 : 0 ≤ c) (h1 : c ≤ 1048576) :
    Calls Try.prog 17 #[v, .int .i64 c] w fun e w' => ∃ r : Int, e = .returned (.int .i64 r) ∧ (¬ r < 0 → ((ps.length + nmL StepQ.n ps : Nat) : Int) + r = c) ∧ Below w.heap.size w w' := by
  obtain ⟨a, cap, rfl⟩ := h.shape
  by_cases hbig : c - ps.length < 0
  · go_enter Try.func17, Try.ntmps17
    go_wp2
    go_ret
    exact ⟨_, rfl, fun h => by omega, Below.refl _ _⟩
  · go_enter Try.func17, Try.ntmps17
    go_wp2
    go_loopw [1, 5] (fun l i wr => ∃ (k : Nat) (x : Int), k ≤ ps.length ∧ i = .int .i64 k ∧ l = .int .i64 x ∧ 0 ≤ x ∧ x ≤ 1048576 ∧ Hid (ps.length + nmL StepQ.n (ps.take k) + x = c) ∧ Below w.heap.size w wr) (fun _ i _ => ps.length - (intOf i).toNat)
    case atStart => exact ⟨0, c - ps.length, Nat.zero_le _, rfl, by go_num, by omega, by omega, show _ = _ by simp [nmL]; omega, Below.refl _ _⟩
    case round =>
      obtain ⟨k, x, hk, rfl, rfl, hx0, hx1, HS, hb⟩ := hrel
      by_cases hlt : k < ps.length
      · obtain ⟨b, off, rfl, hbs, hc, hrd⟩ := (h.below hb).cell (by decide) k hlt
        have hc' : ∀ j x, (stepK.cells ps[k])[j]? = some x → wr.cell? ⟨b, off + k * 11 + j, none⟩ = some x := hc
        have c0 := hc' 0 (.int .i64 ps[k].kd) rfl
        have c1 := hc' 1 (.int .i64 ps[k].nd) rfl
        have c2 := hc' 2 (.int .i64 ps[k].nn) rfl
        have c3 := hc' 3 (.int .i64 ps[k].i) rfl
        have c4 := hc' 4 (.int .i64 ps[k].s) rfl
        have c5 := hc' 5 (.int .i64 ps[k].q) rfl
        have c6 := hc' 6 (ps[k].va) rfl
        have c7 := hc' 7 (.int .i64 ps[k].vk) rfl
        have c8 := hc' 8 (.int .i64 ps[k].vr) rfl
        have c9 := hc' 9 (.int .i64 ps[k].vn) rfl
        have c10 := hc' 10 (.int .i64 ps[k].vv) rfl
        have hs := nmL_succ StepQ.n ps k hlt
        have HN := hn1 _ (List.getElem_mem hlt)
        have HS' : Hid (∀ y : Int, (StepQ.n ps[k] : Int) + y = x → ps.length + nmL StepQ.n (ps.take (k + 1)) + y = c) := by
          intro y hy
          have := HS.out
          omega
        clear HS hs hc hc'
        generalize ps[k] = p at *
        have hsz := szStep_k p x wr hrd HN hx0 hx1
        generalize StepQ.n p = m at *
        rw [Nat.add_zero] at c0
        go_wp2_with fail
        refine hsz.mono ?_
        rintro e w2 ⟨r, rfl, hr, hb2⟩
        replace hb := hb.trans (hb2.mono hb.size)
        clear hb2 hsz c0 c1 c2 c3 c4 c5 c6 c7 c8 c9 c10
        by_cases hneg : r < 0
        · go_wp2
          go_ret
          exact ⟨_, rfl, fun h => by omega, hb⟩
        · have hrx := hr (by omega)
          have HR : Hid (ps.length + nmL StepQ.n (ps.take (k + 1)) + r = c) := HS'.out r hrx
          have hr1 : r ≤ 1048576 := by omega
          clear HS' hr hrx
          go_wp2
          go_roundw
          case rel => exact ⟨k + 1, r, by omega, by go_num, rfl, by omega, hr1, HR.out, hb⟩
          case measure => simp [intOf]; omega
      · have hkl : k = ps.length := by omega
        subst hkl
        rw [List.take_length] at HS
        go_wp2
        go_ret
        exact ⟨_, rfl, fun _ => by have := HS.out; omega, hb⟩

set_option maxHeartbeats 2000000 in
theorem eqSteps_k (v v' : Value) (ps qs : List StepQ) (w : World) (h : stepK.At w v ps) (h' : stepK.At w v' qs) (he : ps.map StepQ.e = qs.map StepQ.e) (hl : (ps.length + nmL StepQ.n ps) ≤ 1048576) :
    Calls Try.prog 22 #[v, v'] w fun e w' => e = .returned (.bool true) ∧ Below w.heap.size w w' := by
  obtain ⟨a, cap, rfl⟩ := h.shape
  obtain ⟨a', cap', rfl⟩ := h'.shape
  have hlen : qs.length = ps.length := by
    have := congrArg List.length he
    simpa using this.symm
  rw [hlen] at h' ⊢
  have HL : Hid (qs.length = ps.length) := hlen
  clear hlen
  go_enter Try.func22, Try.ntmps22
  go_wp2
  go_loopw [5] (fun i wr => ∃ k : Nat, k ≤ ps.length ∧ i = .int .i64 k ∧ Below w.heap.size w wr) (fun i _ => ps.length - (intOf i).toNat)
  case atStart => exact ⟨0, Nat.zero_le _, rfl, Below.refl _ _⟩
  case round =>
    obtain ⟨k, hk, rfl, hb⟩ := hrel
    by_cases hlt : k < ps.length
    · have hlt' : k < qs.length := by have := HL.out; omega
      obtain ⟨b, off, rfl, hbs, hc, hrd⟩ := (h.below hb).cell (by decide) k hlt
      obtain ⟨b', off', rfl, hbs', hd, hrd'⟩ := (h'.below hb).cell (by decide) k hlt'
      have hc' : ∀ j x, (stepK.cells ps[k])[j]? = some x → wr.cell? ⟨b, off + k * 11 + j, none⟩ = some x := hc
      have hd' : ∀ j x, (stepK.cells qs[k])[j]? = some x → wr.cell? ⟨b', off' + k * 11 + j, none⟩ = some x := hd
      have c0 := hc' 0 (.int .i64 ps[k].kd) rfl
      have d0 := hd' 0 (.int .i64 qs[k].kd) rfl
      have c1 := hc' 1 (.int .i64 ps[k].nd) rfl
      have d1 := hd' 1 (.int .i64 qs[k].nd) rfl
      have c2 := hc' 2 (.int .i64 ps[k].nn) rfl
      have d2 := hd' 2 (.int .i64 qs[k].nn) rfl
      have c3 := hc' 3 (.int .i64 ps[k].i) rfl
      have d3 := hd' 3 (.int .i64 qs[k].i) rfl
      have c4 := hc' 4 (.int .i64 ps[k].s) rfl
      have d4 := hd' 4 (.int .i64 qs[k].s) rfl
      have c5 := hc' 5 (.int .i64 ps[k].q) rfl
      have d5 := hd' 5 (.int .i64 qs[k].q) rfl
      have c6 := hc' 6 (ps[k].va) rfl
      have d6 := hd' 6 (qs[k].va) rfl
      have c7 := hc' 7 (.int .i64 ps[k].vk) rfl
      have d7 := hd' 7 (.int .i64 qs[k].vk) rfl
      have c8 := hc' 8 (.int .i64 ps[k].vr) rfl
      have d8 := hd' 8 (.int .i64 qs[k].vr) rfl
      have c9 := hc' 9 (.int .i64 ps[k].vn) rfl
      have d9 := hd' 9 (.int .i64 qs[k].vn) rfl
      have c10 := hc' 10 (.int .i64 ps[k].vv) rfl
      have d10 := hd' 10 (.int .i64 qs[k].vv) rfl
      have hee : StepQ.e ps[k] = StepQ.e qs[k] := by
        have := congrArg (·[k]?) he
        simpa [hlt, hlt'] using this
      have hzl := nm_le StepQ.n ps k hlt
      clear hc hc' hd hd'
      generalize ps[k] = p at *
      generalize qs[k] = p' at *
      have hEQ := fun w h1 h2 => eqStep_k p p' w h1 h2 hee (show StepQ.n p ≤ 1048576 by omega)
      clear hee hzl
      rw [Nat.add_zero] at c0 d0
      have k0 := lat_cell c0
      have l0 := lat_cell d0
      have k1 := lat_cell c1
      have l1 := lat_cell d1
      have k2 := lat_cell c2
      have l2 := lat_cell d2
      have k3 := lat_cell c3
      have l3 := lat_cell d3
      have k4 := lat_cell c4
      have l4 := lat_cell d4
      have k5 := lat_cell c5
      have l5 := lat_cell d5
      have k6 := lat_cell c6
      have l6 := lat_cell d6
      have k7 := lat_cell c7
      have l7 := lat_cell d7
      have k8 := lat_cell c8
      have l8 := lat_cell d8
      have k9 := lat_cell c9
      have l9 := lat_cell d9
      have k10 := lat_cell c10
      have l10 := lat_cell d10
      clear c0 d0 c1 d1 c2 d2 c3 d3 c4 d4 c5 d5 c6 d6 c7 d7 c8 d8 c9 d9 c10 d10
      have hW : Below wr.heap.size wr wr.drew := (Below.refl _ _).drew
      have hne : Nonempty (Lat wr) := ⟨⟨wr, Below.refl _ _⟩⟩
      go_wp2_with fail
      refine text_begin (S := fun w' => ∃ u : Lat wr, w' = u.val) (by kernel_rfl) ?_
      refine sgr [(0, 8)] 2 (by kernel_rfl) ⟨⟨_, hW⟩, rfl⟩ ?_
      simp only [pkE]
      repeat go_big_quiet_step (fail)
      refine wpQuiet_nil ?_
      refine cla 8 (some 25) 16 #[.agg #[.int .i64 p.kd, .int .i64 p.nd, .int .i64 p.nn, .int .i64 p.i, .int .i64 p.s, .int .i64 p.q, p.va, .int .i64 p.vk, .int .i64 p.vr, .int .i64 p.vn, .int .i64 p.vv], .agg #[.int .i64 p'.kd, .int .i64 p'.nd, .int .i64 p'.nn, .int .i64 p'.i, .int .i64 p'.s, .int .i64 p'.q, p'.va, .int .i64 p'.vk, .int .i64 p'.vr, .int .i64 p'.vn, .int .i64 p'.vv]] 1 (by kernel_rfl) ?_
      refine (hEQ _ (stepK.rd_below hrd hW) (stepK.rd_below hrd' hW)).mono ?_
      rintro e w2 ⟨rfl, hb2⟩
      replace hW := hW.trans (hb2.mono hW.size)
      clear hb2
      refine ⟨_, rfl, ⟨⟨_, hW⟩, rfl⟩, ?_⟩
      simp only [Act.put, pjE]
      refine sgr [(9, 1)] 0 (by kernel_rfl) ⟨⟨_, hW⟩, rfl⟩ ?_
      simp only [pkE]
      repeat go_big_quiet_step (fail)
      refine wpQuiet_nil ?_
      refine text_end (by kernel_rfl) ?_
      replace hb := hb.trans (hW.mono hb.size)
      clear k0 l0 k1 l1 k2 l2 k3 l3 k4 l4 k5 l5 k6 l6 k7 l7 k8 l8 k9 l9 k10 l10 hW hne hrd hrd' hEQ
      go_wp2
      go_roundw
      case rel => exact ⟨k + 1, by omega, by go_num, hb⟩
      case measure => simp [intOf]; omega
    · go_wp2
      go_ret
      exact ⟨rfl, hb⟩

set_option maxHeartbeats 2000000 in
theorem toSteps_k (v : Value) (ps : List StepQ) (w : World) (h : stepK.At w v ps) (hl : (ps.length + nmL StepQ.n ps) ≤ 1048576) :
    Calls Try.prog 19 #[v] w fun e w' => ∃ v' qs, e = .returned v' ∧ qs.map StepQ.e = ps.map StepQ.e ∧ stepK.Own w' v' qs ∧ (stepK.fp v' qs).Nodup ∧ (∀ k ∈ stepK.fp v' qs, w.heap.size ≤ k) ∧ Below w.heap.size w w' := by
  obtain ⟨a, cap, rfl⟩ := h.shape
  obtain ⟨i0, hi, hz0, hz1, hz2⟩ := info_parts infoStep
  have hbytes : i0.bytes * ps.length ≤ 281474976710656 := by rw [hz2]; omega
  have hmax : ps.length ≤ maxLen := by unfold maxLen; omega
  go_enter Try.func19, Try.ntmps19
  go_wp2_with (at_make; refine wpList_make_full _ rfl _ _ 58 rfl w.heap.size 48 i0 (.agg #[.int .i64 0, .int .i64 0, .int .i64 0, .int .i64 0, .int .i64 0, .int .i64 0, .slice none 0 0, .int .i64 0, .int .i64 0, .int .i64 0, .int .i64 0]) 11 Try.underlying58 hi hz0 hz1 _ _ _ _ ps.length rfl rfl rfl rfl hbytes hmax (Nat.le_refl _) ?_)
  intro w1 hown hgrow
  have hb1 : Below w.heap.size w w1 := (Below.refl _ _).grown hgrow (Nat.le_refl _) (by simp)
  have hO : stepK.Own w1 (.slice (some ⟨w.heap.size, 0, none⟩) ps.length ps.length) (List.replicate ps.length (⟨0, 0, 0, 0, 0, 0, .slice none 0 0, [], 0, 0, 0, 0⟩ : StepQ)) := by
    refine ⟨?_, fun p hp => ?_⟩
    · rw [List.length_replicate, ← made_row (⟨0, 0, 0, 0, 0, 0, .slice none 0 0, [], 0, 0, 0, 0⟩ : StepQ) _ (by decide)]
      exact own_base hown (Nat.zero_le _)
    · rw [(List.mem_replicate.1 hp).2]
      exact ⟨World.ownsRow_nil _ _ _ _, fun p hp => by simp at hp⟩
  have hF : stepK.fp (.slice (some ⟨w.heap.size, 0, none⟩) ps.length ps.length) (List.replicate ps.length (⟨0, 0, 0, 0, 0, 0, .slice none 0 0, [], 0, 0, 0, 0⟩ : StepQ)) = [w.heap.size] := fp_new rfl
  have HN : Hid ((stepK.fp (.slice (some ⟨w.heap.size, 0, none⟩) ps.length ps.length) (List.replicate ps.length (⟨0, 0, 0, 0, 0, 0, .slice none 0 0, [], 0, 0, 0, 0⟩ : StepQ))).Nodup) := by rw [hF]; show List.Nodup _; simp
  have HG : Hid (∀ x ∈ stepK.fp (.slice (some ⟨w.heap.size, 0, none⟩) ps.length ps.length) (List.replicate ps.length (⟨0, 0, 0, 0, 0, 0, .slice none 0 0, [], 0, 0, 0, 0⟩ : StepQ)), w.heap.size ≤ x) := by rw [hF]; intro x hx; simp at hx; omega
  have HZ : Hid (∀ j (hj : j < (List.replicate ps.length (⟨0, 0, 0, 0, 0, 0, .slice none 0 0, [], 0, 0, 0, 0⟩ : StepQ)).length), 0 ≤ j → (List.replicate ps.length (⟨0, 0, 0, 0, 0, 0, .slice none 0 0, [], 0, 0, 0, 0⟩ : StepQ))[j] = (⟨0, 0, 0, 0, 0, 0, .slice none 0 0, [], 0, 0, 0, 0⟩ : StepQ)) := fun j hj _ => by simp
  have hql : (List.replicate ps.length (⟨0, 0, 0, 0, 0, 0, .slice none 0 0, [], 0, 0, 0, 0⟩ : StepQ)).length = ps.length := by simp
  clear hown hgrow hF
  generalize List.replicate ps.length (⟨0, 0, 0, 0, 0, 0, .slice none 0 0, [], 0, 0, 0, 0⟩ : StepQ) = qs0 at *
  have HE : Hid ((qs0.take 0).map StepQ.e = (ps.take 0).map StepQ.e) := show _ = _ by simp
  go_wp2
  go_loopw [4] (fun i wr => ∃ (k : Nat) (qs : List StepQ), k ≤ ps.length ∧ i = .int .i64 k ∧ Hid (qs.length = ps.length) ∧ Hid ((qs.take k).map StepQ.e = (ps.take k).map StepQ.e) ∧ Hid (∀ j (hj : j < qs.length), k ≤ j → qs[j] = (⟨0, 0, 0, 0, 0, 0, .slice none 0 0, [], 0, 0, 0, 0⟩ : StepQ)) ∧ stepK.Own wr (.slice (some ⟨w.heap.size, 0, none⟩) ps.length ps.length) qs ∧
    Hid ((stepK.fp (.slice (some ⟨w.heap.size, 0, none⟩) ps.length ps.length) qs).Nodup) ∧ Hid (∀ x ∈ stepK.fp (.slice (some ⟨w.heap.size, 0, none⟩) ps.length ps.length) qs, w.heap.size ≤ x) ∧ Below w.heap.size w wr) (fun i _ => ps.length - (intOf i).toNat)
  case atStart => exact ⟨0, qs0, Nat.zero_le _, rfl, hql, HE, HZ, hO, HN, HG, hb1⟩
  case round =>
    clear HE HZ hO HN HG hb1 hql
    obtain ⟨k, qs, hk, rfl, HQ, HE, HZ, hO, HN, HG, hb⟩ := hrel
    by_cases hlt : k < ps.length
    · have hltq : k < qs.length := by have := HQ.out; omega
      have hzk := HZ.out k hltq (Nat.le_refl _)
      obtain ⟨b, off, rfl, hbs, hc, hrd⟩ := (h.below hb).cell (by decide) k hlt
      have hc' : ∀ j x, (stepK.cells ps[k])[j]? = some x → wr.cell? ⟨b, off + k * 11 + j, none⟩ = some x := hc
      have c0 := hc' 0 (.int .i64 ps[k].kd) rfl
      have c1 := hc' 1 (.int .i64 ps[k].nd) rfl
      have c2 := hc' 2 (.int .i64 ps[k].nn) rfl
      have c3 := hc' 3 (.int .i64 ps[k].i) rfl
      have c4 := hc' 4 (.int .i64 ps[k].s) rfl
      have c5 := hc' 5 (.int .i64 ps[k].q) rfl
      have c6 := hc' 6 (ps[k].va) rfl
      have c7 := hc' 7 (.int .i64 ps[k].vk) rfl
      have c8 := hc' 8 (.int .i64 ps[k].vr) rfl
      have c9 := hc' 9 (.int .i64 ps[k].vn) rfl
      have c10 := hc' 10 (.int .i64 ps[k].vv) rfl
      have hzl := nm_le StepQ.n ps k hlt
      have HPE : Hid (∀ p' : StepQ, p'.e = StepQ.e ps[k] → ((qs.set k p').take (k + 1)).map StepQ.e = (ps.take (k + 1)).map StepQ.e) := by
        intro p' hp'
        have h1 := HE.out
        rw [List.take_succ_eq_append_getElem hlt, List.take_succ_eq_append_getElem (show k < (qs.set k p').length by simpa using hltq)]
        simp only [List.map_append, List.map_cons, List.map_nil, List.getElem_set_self, hp', List.take_set_of_le (Nat.le_refl k), h1]
      clear hc hc'
      generalize ps[k] = p at *
      have hto := toStep_k p wr hrd (by omega)
      rw [Nat.add_zero] at c0
      go_wp2_with fail
      refine hto.mono ?_
      rintro e w2 ⟨p', rfl, hpe, hown', hnd', hlo', hb2⟩
      obtain ⟨x0, x1, x2, x3, x4, x5, x6, y6, x7, x8, x9, x10⟩ := p'
      have o6 : actK.Own w2 x6 y6 := hown'
      obtain ⟨a6, b6, rfl⟩ := o6.shape
      clear o6
      dsimp only
      generalize hP : (⟨x0, x1, x2, x3, x4, x5, .slice a6 y6.length b6, y6, x7, x8, x9, x10⟩ : StepQ) = p' at hpe hown' hnd' hlo'
      have hcp : stepK.cells p' = [.int .i64 x0, .int .i64 x1, .int .i64 x2, .int .i64 x3, .int .i64 x4, .int .i64 x5, .slice a6 y6.length b6, .int .i64 x7, .int .i64 x8, .int .i64 x9, .int .i64 x10] := by rw [← hP]; rfl
      have hO2 := hO.below hb2
      obtain ⟨e0, f0⟩ := hO2.cell k hltq 0 _ (by rw [hzk]; rfl)
      obtain ⟨e1, f1⟩ := hO2.cell k hltq 1 _ (by rw [hzk]; rfl)
      obtain ⟨e2, f2⟩ := hO2.cell k hltq 2 _ (by rw [hzk]; rfl)
      obtain ⟨e3, f3⟩ := hO2.cell k hltq 3 _ (by rw [hzk]; rfl)
      obtain ⟨e4, f4⟩ := hO2.cell k hltq 4 _ (by rw [hzk]; rfl)
      obtain ⟨e5, f5⟩ := hO2.cell k hltq 5 _ (by rw [hzk]; rfl)
      obtain ⟨e6, f6⟩ := hO2.cell k hltq 6 _ (by rw [hzk]; rfl)
      obtain ⟨e7, f7⟩ := hO2.cell k hltq 7 _ (by rw [hzk]; rfl)
      obtain ⟨e8, f8⟩ := hO2.cell k hltq 8 _ (by rw [hzk]; rfl)
      obtain ⟨e9, f9⟩ := hO2.cell k hltq 9 _ (by rw [hzk]; rfl)
      obtain ⟨e10, f10⟩ := hO2.cell k hltq 10 _ (by rw [hzk]; rfl)
      have hkk : ∀ j, k * stepK.size + j = k * 11 + j := fun j => rfl
      rw [hkk] at e0 f0 e1 f1 e2 f2 e3 f3 e4 f4 e5 f5 e6 f6 e7 f7 e8 f8 e9 f9 e10 f10
      rw [Nat.add_zero] at e0 f0
      have hrow0 := hO2.1
      have hQ := HQ.out
      rw [hQ] at hrow0
      have hrow := own_setFrom hrow0 (k * 11) [.int .i64 x0, .int .i64 x1, .int .i64 x2, .int .i64 x3, .int .i64 x4, .int .i64 x5, .slice a6 y6.length b6, .int .i64 x7, .int .i64 x8, .int .i64 x9, .int .i64 x10]
      rw [← hcp] at hrow
      have hfp : ∀ x ∈ stepK.fp (.slice (some ⟨w.heap.size, 0, none⟩) ps.length ps.length) qs, x < wr.heap.size := hO.lt
      have hg0 : w.heap.size ∈ stepK.fp (.slice (some ⟨w.heap.size, 0, none⟩) ps.length ps.length) qs := by simp [Kind.fp, blk, Value.ownBlock]
      have hgl : w.heap.size < wr.heap.size := hfp _ hg0
      have hNq := HN.out
      have hdis : ∀ x ∈ stepK.foot p', x ∉ stepK.fp (.slice (some ⟨w.heap.size, 0, none⟩) ps.length ps.length) qs := fun x hx hxx => by have := hlo' x hx; have := hfp x hxx; omega
      have hput : stepK.Own (((((((((((w2.setCell ⟨w.heap.size, k * 11, none⟩ (.int .i64 x0)).setCell ⟨w.heap.size, k * 11 + 1, none⟩ (.int .i64 x1)).setCell ⟨w.heap.size, k * 11 + 2, none⟩ (.int .i64 x2)).setCell ⟨w.heap.size, k * 11 + 3, none⟩ (.int .i64 x3)).setCell ⟨w.heap.size, k * 11 + 4, none⟩ (.int .i64 x4)).setCell ⟨w.heap.size, k * 11 + 5, none⟩ (.int .i64 x5)).setCell ⟨w.heap.size, k * 11 + 6, none⟩ (.slice a6 y6.length b6)).setCell ⟨w.heap.size, k * 11 + 7, none⟩ (.int .i64 x7)).setCell ⟨w.heap.size, k * 11 + 8, none⟩ (.int .i64 x8)).setCell ⟨w.heap.size, k * 11 + 9, none⟩ (.int .i64 x9)).setCell ⟨w.heap.size, k * 11 + 10, none⟩ (.int .i64 x10)) (.slice (some ⟨w.heap.size, 0, none⟩) ps.length ps.length) (qs.set k p') := by
        refine Kind.Own.put hO2 k hltq p' ?_ (((((((((((Out.setCell _ _ _ _).trans (Out.setCell _ _ _ _)).trans (Out.setCell _ _ _ _)).trans (Out.setCell _ _ _ _)).trans (Out.setCell _ _ _ _)).trans (Out.setCell _ _ _ _)).trans (Out.setCell _ _ _ _)).trans (Out.setCell _ _ _ _)).trans (Out.setCell _ _ _ _)).trans (Out.setCell _ _ _ _)).trans (Out.setCell _ _ _ _)) ?_ hown' ?_
        · rw [hQ]
          rw [hcp] at hrow ⊢
          exact hrow
        · intro q hq x hx hxe
          simp only [Kind.fp, blk, Value.ownBlock, Option.toList, List.cons_append, List.nil_append, List.nodup_cons] at hNq
          exact hNq.1 (List.mem_flatMap.2 ⟨q, hq, hxe ▸ hx⟩)
        · intro x hx hxe
          have := hlo' x hx
          omega
      have R : Hid (stepK.Own (((((((((((w2.setCell ⟨w.heap.size, k * 11, none⟩ (.int .i64 x0)).setCell ⟨w.heap.size, k * 11 + 1, none⟩ (.int .i64 x1)).setCell ⟨w.heap.size, k * 11 + 2, none⟩ (.int .i64 x2)).setCell ⟨w.heap.size, k * 11 + 3, none⟩ (.int .i64 x3)).setCell ⟨w.heap.size, k * 11 + 4, none⟩ (.int .i64 x4)).setCell ⟨w.heap.size, k * 11 + 5, none⟩ (.int .i64 x5)).setCell ⟨w.heap.size, k * 11 + 6, none⟩ (.slice a6 y6.length b6)).setCell ⟨w.heap.size, k * 11 + 7, none⟩ (.int .i64 x7)).setCell ⟨w.heap.size, k * 11 + 8, none⟩ (.int .i64 x8)).setCell ⟨w.heap.size, k * 11 + 9, none⟩ (.int .i64 x9)).setCell ⟨w.heap.size, k * 11 + 10, none⟩ (.int .i64 x10)) (.slice (some ⟨w.heap.size, 0, none⟩) ps.length ps.length) (qs.set k p') ∧ Below w.heap.size w (((((((((((w2.setCell ⟨w.heap.size, k * 11, none⟩ (.int .i64 x0)).setCell ⟨w.heap.size, k * 11 + 1, none⟩ (.int .i64 x1)).setCell ⟨w.heap.size, k * 11 + 2, none⟩ (.int .i64 x2)).setCell ⟨w.heap.size, k * 11 + 3, none⟩ (.int .i64 x3)).setCell ⟨w.heap.size, k * 11 + 4, none⟩ (.int .i64 x4)).setCell ⟨w.heap.size, k * 11 + 5, none⟩ (.int .i64 x5)).setCell ⟨w.heap.size, k * 11 + 6, none⟩ (.slice a6 y6.length b6)).setCell ⟨w.heap.size, k * 11 + 7, none⟩ (.int .i64 x7)).setCell ⟨w.heap.size, k * 11 + 8, none⟩ (.int .i64 x8)).setCell ⟨w.heap.size, k * 11 + 9, none⟩ (.int .i64 x9)).setCell ⟨w.heap.size, k * 11 + 10, none⟩ (.int .i64 x10))) := by
        refine ⟨hput, ?_⟩
        have hbb := hb.trans (hb2.mono hb.size)
        exact (((((((((((hbb.setCell (p := ⟨w.heap.size, k * 11, none⟩) (Nat.le_refl _) _).setCell (p := ⟨w.heap.size, k * 11 + 1, none⟩) (Nat.le_refl _) _).setCell (p := ⟨w.heap.size, k * 11 + 2, none⟩) (Nat.le_refl _) _).setCell (p := ⟨w.heap.size, k * 11 + 3, none⟩) (Nat.le_refl _) _).setCell (p := ⟨w.heap.size, k * 11 + 4, none⟩) (Nat.le_refl _) _).setCell (p := ⟨w.heap.size, k * 11 + 5, none⟩) (Nat.le_refl _) _).setCell (p := ⟨w.heap.size, k * 11 + 6, none⟩) (Nat.le_refl _) _).setCell (p := ⟨w.heap.size, k * 11 + 7, none⟩) (Nat.le_refl _) _).setCell (p := ⟨w.heap.size, k * 11 + 8, none⟩) (Nat.le_refl _) _).setCell (p := ⟨w.heap.size, k * 11 + 9, none⟩) (Nat.le_refl _) _).setCell (p := ⟨w.heap.size, k * 11 + 10, none⟩) (Nat.le_refl _) _)
      have R1 : Hid ((stepK.fp (.slice (some ⟨w.heap.size, 0, none⟩) ps.length ps.length) (qs.set k p')).Nodup) := nodup_put hNq k hltq p' (by rw [hzk]; rfl) hnd' hdis
      have R2 : Hid (∀ x ∈ stepK.fp (.slice (some ⟨w.heap.size, 0, none⟩) ps.length ps.length) (qs.set k p'), w.heap.size ≤ x) := by
        intro x hx
        simp only [Kind.fp, List.mem_append] at hx
        rcases hx with hx | hx
        · exact HG.out x (by simp only [Kind.fp, List.mem_append]; exact Or.inl hx)
        · rcases mem_foot_set hltq hx with hx | hx
          · exact HG.out x (by simp only [Kind.fp, List.mem_append]; exact Or.inr hx)
          · have := hlo' x hx
            omega
      have R3 : Hid (∀ j (hj : j < (qs.set k p').length), k + 1 ≤ j → (qs.set k p')[j] = (⟨0, 0, 0, 0, 0, 0, .slice none 0 0, [], 0, 0, 0, 0⟩ : StepQ)) := fun j hj hkj => by
        rw [List.getElem_set_ne (by omega)]
        exact HZ.out j (by simpa using hj) (by omega)
      have R4 : Hid ((qs.set k p').length = ps.length) := by rw [List.length_set]; exact HQ.out
      have R5 : Hid (((qs.set k p').take (k + 1)).map StepQ.e = (ps.take (k + 1)).map StepQ.e) := HPE.out p' hpe
      clear hput hrow hrow0 hQ hO2 hO HN HG HZ HE HQ HPE hNq hdis hown' hnd' hlo' hfp hg0 hb hzk hrd hto hpe hkk hcp hP
      go_wp2
      go_roundw
      case rel => exact ⟨k + 1, qs.set k p', by omega, by go_num, R4.out, R5.out, R3.out, R.out.1, R1.out, R2.out, R.out.2⟩
      case measure => simp [intOf]; omega
    · have hkl : k = ps.length := by omega
      subst hkl
      have hQ := HQ.out
      have hE := HE.out
      rw [List.take_length, List.take_of_length_le (by omega)] at hE
      clear HE HZ
      go_wp2
      go_ret
      exact ⟨_, qs, rfl, hE, hO, HN.out, HG.out, hb⟩

end Go.Proofs.Ytkkdjgiencilbaa
