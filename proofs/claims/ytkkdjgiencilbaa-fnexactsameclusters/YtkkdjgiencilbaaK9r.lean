/- A replica where it lies; what the helpers of the laws do with it: count, compare, copy. No condition. -/
import Derived.Test.YtkkdjgiencilbaaK9u
namespace Go.Proofs.Ytkkdjgiencilbaa
open Go.RowKit
open Go.BigFrame
set_option linter.unusedVariables false
set_option linter.unusedSimpArgs false

/-- A replica where it lies. -/
structure RepQ where
  vd : Value
  done : List TxnQ
  vb : Value
  base : List ItemD
  vt : Value
  tent : List TxnQ
  vu : Value
  undos : List USQ
  vn : Value
  now : List ItemD
/-- What it tells. -/
structure RepE where
  done : List TxnD
  base : List ItemD
  tent : List TxnD
  undos : List (List UndoD)
  now : List ItemD
def RepQ.e (p : RepQ) : RepE := ⟨p.done.map TxnQ.e, p.base, p.tent.map TxnQ.e, p.undos.map USQ.e, p.now⟩
def repK : Kind RepQ where
  ty := 77
  size := 5
  cells p := [p.vd, p.vb, p.vt, p.vu, p.vn]
  own w p := txnK.Own w p.vd p.done ∧ itemK.Own w p.vb p.base ∧ txnK.Own w p.vt p.tent ∧ ussK.Own w p.vu p.undos ∧ itemK.Own w p.vn p.now
  rd w p := txnK.At w p.vd p.done ∧ itemK.At w p.vb p.base ∧ txnK.At w p.vt p.tent ∧ ussK.At w p.vu p.undos ∧ itemK.At w p.vn p.now
  foot p := txnK.fp p.vd p.done ++ (itemK.fp p.vb p.base ++ (txnK.fp p.vt p.tent ++ (ussK.fp p.vu p.undos ++ itemK.fp p.vn p.now)))
  len _ := rfl
  own_rd h := ⟨h.1.at, h.2.1.at, h.2.2.1.at, h.2.2.2.1.at, h.2.2.2.2.at⟩
  own_out h ho hd := ⟨h.1.out ho (fun k hk => hd k (List.mem_append_left _ hk)), h.2.1.out ho (fun k hk => hd k (List.mem_append_right _ (List.mem_append_left _ hk))), h.2.2.1.out ho (fun k hk => hd k (List.mem_append_right _ (List.mem_append_right _ (List.mem_append_left _ hk)))), h.2.2.2.1.out ho (fun k hk => hd k (List.mem_append_right _ (List.mem_append_right _ (List.mem_append_right _ (List.mem_append_left _ hk))))), h.2.2.2.2.out ho (fun k hk => hd k (List.mem_append_right _ (List.mem_append_right _ (List.mem_append_right _ (List.mem_append_right _ hk)))))⟩
  own_lt h k hk := by
    rcases List.mem_append.1 hk with hk | hk
    · exact h.1.lt k hk
    rcases List.mem_append.1 hk with hk | hk
    · exact h.2.1.lt k hk
    rcases List.mem_append.1 hk with hk | hk
    · exact h.2.2.1.lt k hk
    rcases List.mem_append.1 hk with hk | hk
    · exact h.2.2.2.1.lt k hk
    · exact h.2.2.2.2.lt k hk
  rd_below h hb := ⟨h.1.below hb, h.2.1.below hb, h.2.2.1.below hb, h.2.2.2.1.below hb, h.2.2.2.2.below hb⟩
def RepQ.n (p : RepQ) : Nat := (p.done.length + nmL TxnQ.n p.done) + p.base.length + (p.tent.length + nmL TxnQ.n p.tent) + (p.undos.length + nmL USQ.n p.undos) + p.now.length
def RepQ.wf (p : RepQ) : Prop := (p.done.length ≤ 9223372036854775807 ∧ ∀ q ∈ p.done, TxnQ.wf q) ∧ p.base.length ≤ 9223372036854775807 ∧ (p.tent.length ≤ 9223372036854775807 ∧ ∀ q ∈ p.tent, TxnQ.wf q) ∧ (p.undos.length ≤ 9223372036854775807 ∧ ∀ q ∈ p.undos, USQ.wf q) ∧ p.now.length ≤ 9223372036854775807

set_option maxHeartbeats 1000000 in
theorem szReplica_k (p : RepQ) (c : Int) (w : World) (h : repK.rd w p) (hn : RepQ.wf p) (h0 : 0 ≤ c) (h1 : c ≤ 1048576) :
    Calls Try.prog 79 #[.agg #[p.vd, p.vb, p.vt, p.vu, p.vn], .int .i64 c] w fun e w' => ∃ r : Int, e = .returned (.int .i64 r) ∧ (¬ r < 0 → (RepQ.n p : Int) + r = c) ∧ Below w.heap.size w w' := by
  obtain ⟨vd, done, vb, base, vt, tent, vu, undos, vn, now⟩ := p
  obtain ⟨h_0, h_1, h_2, h_3, h_4⟩ : txnK.At w vd done ∧ itemK.At w vb base ∧ txnK.At w vt tent ∧ ussK.At w vu undos ∧ itemK.At w vn now := h
  obtain ⟨hn_0, hn_1, hn_2, hn_3, hn_4⟩ : (done.length ≤ 9223372036854775807 ∧ ∀ p ∈ done, TxnQ.wf p) ∧ base.length ≤ 9223372036854775807 ∧ (tent.length ≤ 9223372036854775807 ∧ ∀ p ∈ tent, TxnQ.wf p) ∧ (undos.length ≤ 9223372036854775807 ∧ ∀ p ∈ undos, USQ.wf p) ∧ now.length ≤ 9223372036854775807 := hn
  obtain ⟨a0, k0, rfl⟩ := h_0.shape
  obtain ⟨a1, k1, rfl⟩ := h_1.shape
  obtain ⟨a2, k2, rfl⟩ := h_2.shape
  obtain ⟨a3, k3, rfl⟩ := h_3.shape
  obtain ⟨a4, k4, rfl⟩ := h_4.shape
  have B := Blk.new w 108 #[.slice a0 done.length k0, .slice a1 base.length k1, .slice a2 tent.length k2, .slice a3 undos.length k3, .slice a4 now.length k4]
  have hB : Below w.heap.size w (w.alloc (.cells #[.slice a0 done.length k0, .slice a1 base.length k1, .slice a2 tent.length k2, .slice a3 undos.length k3, .slice a4 now.length k4] 108)) := by go_grown
  dsimp only [RepQ.n]
  go_enter Try.func79, Try.ntmps79
  go_wp2_with fail
  generalize w.alloc (.cells #[.slice a0 done.length k0, .slice a1 base.length k1, .slice a2 tent.length k2, .slice a3 undos.length k3, .slice a4 now.length k4] 108) = W at *
  refine (szTxns_k _ done c W (h_0.below hB) hn_0.1 hn_0.2 (by omega) (by omega)).mono ?_
  rintro e w0 ⟨r0, rfl, hr0, hb0⟩
  replace B := B.below hb0
  replace hB := hB.trans (hb0.mono hB.size)
  clear hb0
  by_cases hneg0 : r0 < 0
  · go_wp2
    go_ret
    exact ⟨_, rfl, fun h => by omega, hB⟩
  have hs0 := hr0 hneg0
  clear hr0
  have p1 := B.cell 1 _ rfl
  go_wp2_with fail
  clear p1
  refine (szItems_k _ base r0 w0 (h_1.below hB) hn_1 (by omega) (by omega)).mono ?_
  rintro e w1 ⟨r1, rfl, hr1, hb1⟩
  replace B := B.below hb1
  replace hB := hB.trans (hb1.mono hB.size)
  clear hb1
  by_cases hneg1 : r1 < 0
  · go_wp2
    go_ret
    exact ⟨_, rfl, fun h => by omega, hB⟩
  have hs1 := hr1 hneg1
  clear hr1
  have p2 := B.cell 2 _ rfl
  go_wp2_with fail
  clear p2
  refine (szTxns_k _ tent r1 w1 (h_2.below hB) hn_2.1 hn_2.2 (by omega) (by omega)).mono ?_
  rintro e w2 ⟨r2, rfl, hr2, hb2⟩
  replace B := B.below hb2
  replace hB := hB.trans (hb2.mono hB.size)
  clear hb2
  by_cases hneg2 : r2 < 0
  · go_wp2
    go_ret
    exact ⟨_, rfl, fun h => by omega, hB⟩
  have hs2 := hr2 hneg2
  clear hr2
  have p3 := B.cell 3 _ rfl
  go_wp2_with fail
  clear p3
  refine (szUss_k _ undos r2 w2 (h_3.below hB) hn_3.1 hn_3.2 (by omega) (by omega)).mono ?_
  rintro e w3 ⟨r3, rfl, hr3, hb3⟩
  replace B := B.below hb3
  replace hB := hB.trans (hb3.mono hB.size)
  clear hb3
  by_cases hneg3 : r3 < 0
  · go_wp2
    go_ret
    exact ⟨_, rfl, fun h => by omega, hB⟩
  have hs3 := hr3 hneg3
  clear hr3
  have p4 := B.cell 4 _ rfl
  go_wp2_with fail
  clear p4
  refine (szItems_k _ now r3 w3 (h_4.below hB) hn_4 (by omega) (by omega)).mono ?_
  rintro e w4 ⟨r4, rfl, hr4, hb4⟩
  replace B := B.below hb4
  replace hB := hB.trans (hb4.mono hB.size)
  clear hb4
  by_cases hneg4 : r4 < 0
  · go_wp2
    go_ret
    exact ⟨_, rfl, fun h => by omega, hB⟩
  have hs4 := hr4 hneg4
  clear hr4
  go_wp2
  go_ret
  exact ⟨_, rfl, fun _ => by omega, hB⟩

set_option maxHeartbeats 1000000 in
theorem eqReplica_k (p p' : RepQ) (w : World) (h : repK.rd w p) (h' : repK.rd w p') (he : p.e = p'.e) (hl : RepQ.n p ≤ 1048576) :
    Calls Try.prog 95 #[.agg #[p.vd, p.vb, p.vt, p.vu, p.vn], .agg #[p'.vd, p'.vb, p'.vt, p'.vu, p'.vn]] w fun e w' => e = .returned (.bool true) ∧ Below w.heap.size w w' := by
  obtain ⟨vd, done, vb, base, vt, tent, vu, undos, vn, now⟩ := p
  obtain ⟨vd', done', vb', base', vt', tent', vu', undos', vn', now'⟩ := p'
  simp only [RepQ.e, RepE.mk.injEq] at he
  obtain ⟨e_0, e_1, e_2, e_3, e_4⟩ := he
  dsimp only [RepQ.n] at hl
  obtain ⟨h_0, h_1, h_2, h_3, h_4⟩ : txnK.At w vd done ∧ itemK.At w vb base ∧ txnK.At w vt tent ∧ ussK.At w vu undos ∧ itemK.At w vn now := h
  obtain ⟨g_0, g_1, g_2, g_3, g_4⟩ : txnK.At w vd' done'  ∧ itemK.At w vb' base'  ∧ txnK.At w vt' tent'  ∧ ussK.At w vu' undos'  ∧ itemK.At w vn' now'  := h'
  subst e_1
  subst e_4
  have hq0 := fun w h1 h2 => eqTxns_k vd vd' done done' w h1 h2 e_0 (by omega)
  have hq1 := fun w h1 h2 => eqItems_k vb vb' base w h1 h2 (by omega)
  have hq2 := fun w h1 h2 => eqTxns_k vt vt' tent tent' w h1 h2 e_2 (by omega)
  have hq3 := fun w h1 h2 => eqUss_k vu vu' undos undos' w h1 h2 e_3 (by omega)
  have hq4 := fun w h1 h2 => eqItems_k vn vn' now w h1 h2 (by omega)
  obtain ⟨a0, k0, rfl⟩ := h_0.shape
  obtain ⟨b0, m0, rfl⟩ := g_0.shape
  obtain ⟨a1, k1, rfl⟩ := h_1.shape
  obtain ⟨b1, m1, rfl⟩ := g_1.shape
  obtain ⟨a2, k2, rfl⟩ := h_2.shape
  obtain ⟨b2, m2, rfl⟩ := g_2.shape
  obtain ⟨a3, k3, rfl⟩ := h_3.shape
  obtain ⟨b3, m3, rfl⟩ := g_3.shape
  obtain ⟨a4, k4, rfl⟩ := h_4.shape
  obtain ⟨b4, m4, rfl⟩ := g_4.shape
  have B := (Blk.new w 77 #[.slice a0 done.length k0, .slice a1 base.length k1, .slice a2 tent.length k2, .slice a3 undos.length k3, .slice a4 now.length k4]).below (w' := (w.alloc (.cells #[.slice a0 done.length k0, .slice a1 base.length k1, .slice a2 tent.length k2, .slice a3 undos.length k3, .slice a4 now.length k4] 77)).alloc (.cells #[.slice b0 done'.length m0, .slice b1 base.length m1, .slice b2 tent'.length m2, .slice b3 undos'.length m3, .slice b4 now.length m4] 77)) (by go_grown)
  have C := Blk.new (w.alloc (.cells #[.slice a0 done.length k0, .slice a1 base.length k1, .slice a2 tent.length k2, .slice a3 undos.length k3, .slice a4 now.length k4] 77)) 77 #[.slice b0 done'.length m0, .slice b1 base.length m1, .slice b2 tent'.length m2, .slice b3 undos'.length m3, .slice b4 now.length m4]
  have hB : Below w.heap.size w ((w.alloc (.cells #[.slice a0 done.length k0, .slice a1 base.length k1, .slice a2 tent.length k2, .slice a3 undos.length k3, .slice a4 now.length k4] 77)).alloc (.cells #[.slice b0 done'.length m0, .slice b1 base.length m1, .slice b2 tent'.length m2, .slice b3 undos'.length m3, .slice b4 now.length m4] 77)) := by go_grown
  rw [World.size_alloc] at C
  clear e_0 e_2 e_3
  go_enter Try.func95, Try.ntmps95
  go_wp2_with fail
  generalize (w.alloc (.cells #[.slice a0 done.length k0, .slice a1 base.length k1, .slice a2 tent.length k2, .slice a3 undos.length k3, .slice a4 now.length k4] 77)).alloc (.cells #[.slice b0 done'.length m0, .slice b1 base.length m1, .slice b2 tent'.length m2, .slice b3 undos'.length m3, .slice b4 now.length m4] 77) = W at *
  refine (hq0 W (h_0.below hB) (g_0.below hB)).mono ?_
  rintro e w0 ⟨rfl, hb0⟩
  replace B := B.below hb0
  replace C := C.below hb0
  replace hB := hB.trans (hb0.mono hB.size)
  clear hb0 hq0
  have p1 := B.cell 1 _ rfl
  have q1 := C.cell 1 _ rfl
  go_wp2_with fail
  clear p1 q1
  refine (hq1 w0 (h_1.below hB) (g_1.below hB)).mono ?_
  rintro e w1 ⟨rfl, hb1⟩
  replace B := B.below hb1
  replace C := C.below hb1
  replace hB := hB.trans (hb1.mono hB.size)
  clear hb1 hq1
  have p2 := B.cell 2 _ rfl
  have q2 := C.cell 2 _ rfl
  go_wp2_with fail
  clear p2 q2
  refine (hq2 w1 (h_2.below hB) (g_2.below hB)).mono ?_
  rintro e w2 ⟨rfl, hb2⟩
  replace B := B.below hb2
  replace C := C.below hb2
  replace hB := hB.trans (hb2.mono hB.size)
  clear hb2 hq2
  have p3 := B.cell 3 _ rfl
  have q3 := C.cell 3 _ rfl
  go_wp2_with fail
  clear p3 q3
  refine (hq3 w2 (h_3.below hB) (g_3.below hB)).mono ?_
  rintro e w3 ⟨rfl, hb3⟩
  replace B := B.below hb3
  replace C := C.below hb3
  replace hB := hB.trans (hb3.mono hB.size)
  clear hb3 hq3
  have p4 := B.cell 4 _ rfl
  have q4 := C.cell 4 _ rfl
  go_wp2_with fail
  clear p4 q4
  refine (hq4 w3 (h_4.below hB) (g_4.below hB)).mono ?_
  rintro e w4 ⟨rfl, hb4⟩
  replace B := B.below hb4
  replace C := C.below hb4
  replace hB := hB.trans (hb4.mono hB.size)
  clear hb4 hq4
  go_wp2
  go_ret
  exact ⟨rfl, hB⟩

theorem apart9 {A B : List Nat} {m : Nat} (hA : ∀ k ∈ A, k < m) (hB : ∀ k ∈ B, m ≤ k) : ∀ a ∈ A, ∀ b ∈ B, a ≠ b := fun a ha b hb e => by
  have := hA a ha
  have := hB b hb
  omega

set_option maxHeartbeats 4000000 in
theorem toReplica_k (p : RepQ) (w : World) (h : repK.rd w p) (hl : RepQ.n p ≤ 1048576) :
    Calls Try.prog 85 #[.agg #[p.vd, p.vb, p.vt, p.vu, p.vn]] w fun e w' => ∃ p' : RepQ, e = .returned (.agg #[p'.vd, p'.vb, p'.vt, p'.vu, p'.vn]) ∧ p'.e = p.e ∧ repK.own w' p' ∧ (repK.foot p').Nodup ∧ (∀ k ∈ repK.foot p', w.heap.size ≤ k) ∧ Below w.heap.size w w' := by
  obtain ⟨vd, done, vb, base, vt, tent, vu, undos, vn, now⟩ := p
  dsimp only [RepQ.n] at hl
  obtain ⟨h_0, h_1, h_2, h_3, h_4⟩ : txnK.At w vd done ∧ itemK.At w vb base ∧ txnK.At w vt tent ∧ ussK.At w vu undos ∧ itemK.At w vn now := h
  have ht0 := fun w h1 => toTxns_k vd done w h1 (by omega)
  have ht1 := fun w h1 => toItems_k vb base w h1 (by omega)
  have ht2 := fun w h1 => toTxns_k vt tent w h1 (by omega)
  have ht3 := fun w h1 => toUss_k vu undos w h1 (by omega)
  have ht4 := fun w h1 => toItems_k vn now w h1 (by omega)
  obtain ⟨a0, k0, rfl⟩ := h_0.shape
  obtain ⟨a1, k1, rfl⟩ := h_1.shape
  obtain ⟨a2, k2, rfl⟩ := h_2.shape
  obtain ⟨a3, k3, rfl⟩ := h_3.shape
  obtain ⟨a4, k4, rfl⟩ := h_4.shape
  have B := (Blk.new w 108 #[.slice a0 done.length k0, .slice a1 base.length k1, .slice a2 tent.length k2, .slice a3 undos.length k3, .slice a4 now.length k4]).below (w' := ((w.alloc (.cells #[.slice a0 done.length k0, .slice a1 base.length k1, .slice a2 tent.length k2, .slice a3 undos.length k3, .slice a4 now.length k4] 108)).alloc (.cells #[.slice none 0 0, .slice none 0 0, .slice none 0 0, .slice none 0 0, .slice none 0 0] 77)).alloc (.cells #[.slice none 0 0, .slice none 0 0, .slice none 0 0, .slice none 0 0, .slice none 0 0] 77)) (by go_grown)
  have C := (Blk.new (w.alloc (.cells #[.slice a0 done.length k0, .slice a1 base.length k1, .slice a2 tent.length k2, .slice a3 undos.length k3, .slice a4 now.length k4] 108)) 77 #[.slice none 0 0, .slice none 0 0, .slice none 0 0, .slice none 0 0, .slice none 0 0]).below (w' := ((w.alloc (.cells #[.slice a0 done.length k0, .slice a1 base.length k1, .slice a2 tent.length k2, .slice a3 undos.length k3, .slice a4 now.length k4] 108)).alloc (.cells #[.slice none 0 0, .slice none 0 0, .slice none 0 0, .slice none 0 0, .slice none 0 0] 77)).alloc (.cells #[.slice none 0 0, .slice none 0 0, .slice none 0 0, .slice none 0 0, .slice none 0 0] 77)) (by go_grown)
  have D := Blk.new ((w.alloc (.cells #[.slice a0 done.length k0, .slice a1 base.length k1, .slice a2 tent.length k2, .slice a3 undos.length k3, .slice a4 now.length k4] 108)).alloc (.cells #[.slice none 0 0, .slice none 0 0, .slice none 0 0, .slice none 0 0, .slice none 0 0] 77)) 77 #[.slice none 0 0, .slice none 0 0, .slice none 0 0, .slice none 0 0, .slice none 0 0]
  have hB : Below w.heap.size w (((w.alloc (.cells #[.slice a0 done.length k0, .slice a1 base.length k1, .slice a2 tent.length k2, .slice a3 undos.length k3, .slice a4 now.length k4] 108)).alloc (.cells #[.slice none 0 0, .slice none 0 0, .slice none 0 0, .slice none 0 0, .slice none 0 0] 77)).alloc (.cells #[.slice none 0 0, .slice none 0 0, .slice none 0 0, .slice none 0 0, .slice none 0 0] 77)) := by go_grown
  simp only [World.size_alloc] at C D
  have hS : w.heap.size + 3 ≤ (((w.alloc (.cells #[.slice a0 done.length k0, .slice a1 base.length k1, .slice a2 tent.length k2, .slice a3 undos.length k3, .slice a4 now.length k4] 108)).alloc (.cells #[.slice none 0 0, .slice none 0 0, .slice none 0 0, .slice none 0 0, .slice none 0 0] 77)).alloc (.cells #[.slice none 0 0, .slice none 0 0, .slice none 0 0, .slice none 0 0, .slice none 0 0] 77)).heap.size := by simp only [World.size_alloc]; omega
  go_enter Try.func85, Try.ntmps85
  go_wp2_with fail
  generalize ((w.alloc (.cells #[.slice a0 done.length k0, .slice a1 base.length k1, .slice a2 tent.length k2, .slice a3 undos.length k3, .slice a4 now.length k4] 108)).alloc (.cells #[.slice none 0 0, .slice none 0 0, .slice none 0 0, .slice none 0 0, .slice none 0 0] 77)).alloc (.cells #[.slice none 0 0, .slice none 0 0, .slice none 0 0, .slice none 0 0, .slice none 0 0] 77) = W at *
  refine (ht0 W (h_0.below hB)).mono ?_
  rintro e y0 ⟨v0, q0, rfl, E0, O0, N0, G0, hb⟩
  replace B := B.below hb
  replace C := C.below hb
  replace D := D.below hb
  replace hB := hB.trans (hb.mono hB.size)
  have s0 := hb.size
  obtain ⟨x0, z0, rfl⟩ := O0.shape
  clear hb ht0
  have p1 := B.cell 1 _ rfl
  have d0 := D.cell 0 _ rfl
  have f0 := D.frozen 0
  go_wp2_with fail
  clear p1 d0 f0
  have U0 := (Out.refl [w.heap.size + 1, w.heap.size + 1 + 1] y0).set (b := w.heap.size + 1 + 1) (j := 0) (u := .slice x0 q0.length z0) (by simp)
  replace D := D.set 0 (.slice x0 q0.length z0)
  replace B := B.other (b' := w.heap.size + 1 + 1) (by omega) 0 (.slice x0 q0.length z0)
  replace C := C.other (b' := w.heap.size + 1 + 1) (by omega) 0 (.slice x0 q0.length z0)
  replace hB := hB.setCell (p := ⟨w.heap.size + 1 + 1, 0, none⟩) (by show w.heap.size ≤ w.heap.size + 1 + 1; omega) (.slice x0 q0.length z0)
  simp only [pjE] at D
  have t0 := U0.size
  generalize y0.setCell ⟨w.heap.size + 1 + 1, 0, none⟩ (.slice x0 q0.length z0) = V0 at *
  refine (ht1 V0 (h_1.below hB)).mono ?_
  rintro e y1 ⟨v1, rfl, O1, N1, G1, hb⟩
  replace U0 := U0.call hb
  replace B := B.below hb
  replace C := C.below hb
  replace D := D.below hb
  replace hB := hB.trans (hb.mono hB.size)
  have s1 := hb.size
  obtain ⟨x1, z1, rfl⟩ := O1.shape
  clear hb ht1
  have p2 := B.cell 2 _ rfl
  have d1 := D.cell 1 _ rfl
  have f1 := D.frozen 1
  go_wp2_with fail
  clear p2 d1 f1
  have U1 := (Out.refl [w.heap.size + 1, w.heap.size + 1 + 1] y1).set (b := w.heap.size + 1 + 1) (j := 1) (u := .slice x1 base.length z1) (by simp)
  replace U0 := U0.set (b := w.heap.size + 1 + 1) (j := 1) (u := .slice x1 base.length z1) (by simp)
  replace D := D.set 1 (.slice x1 base.length z1)
  replace B := B.other (b' := w.heap.size + 1 + 1) (by omega) 1 (.slice x1 base.length z1)
  replace C := C.other (b' := w.heap.size + 1 + 1) (by omega) 1 (.slice x1 base.length z1)
  replace hB := hB.setCell (p := ⟨w.heap.size + 1 + 1, 1, none⟩) (by show w.heap.size ≤ w.heap.size + 1 + 1; omega) (.slice x1 base.length z1)
  simp only [pjE] at D
  have t1 := U1.size
  generalize y1.setCell ⟨w.heap.size + 1 + 1, 1, none⟩ (.slice x1 base.length z1) = V1 at *
  refine (ht2 V1 (h_2.below hB)).mono ?_
  rintro e y2 ⟨v2, q2, rfl, E2, O2, N2, G2, hb⟩
  replace U0 := U0.call hb
  replace U1 := U1.call hb
  replace B := B.below hb
  replace C := C.below hb
  replace D := D.below hb
  replace hB := hB.trans (hb.mono hB.size)
  have s2 := hb.size
  obtain ⟨x2, z2, rfl⟩ := O2.shape
  clear hb ht2
  have p3 := B.cell 3 _ rfl
  have d2 := D.cell 2 _ rfl
  have f2 := D.frozen 2
  go_wp2_with fail
  clear p3 d2 f2
  have U2 := (Out.refl [w.heap.size + 1, w.heap.size + 1 + 1] y2).set (b := w.heap.size + 1 + 1) (j := 2) (u := .slice x2 q2.length z2) (by simp)
  replace U0 := U0.set (b := w.heap.size + 1 + 1) (j := 2) (u := .slice x2 q2.length z2) (by simp)
  replace U1 := U1.set (b := w.heap.size + 1 + 1) (j := 2) (u := .slice x2 q2.length z2) (by simp)
  replace D := D.set 2 (.slice x2 q2.length z2)
  replace B := B.other (b' := w.heap.size + 1 + 1) (by omega) 2 (.slice x2 q2.length z2)
  replace C := C.other (b' := w.heap.size + 1 + 1) (by omega) 2 (.slice x2 q2.length z2)
  replace hB := hB.setCell (p := ⟨w.heap.size + 1 + 1, 2, none⟩) (by show w.heap.size ≤ w.heap.size + 1 + 1; omega) (.slice x2 q2.length z2)
  simp only [pjE] at D
  have t2 := U2.size
  generalize y2.setCell ⟨w.heap.size + 1 + 1, 2, none⟩ (.slice x2 q2.length z2) = V2 at *
  refine (ht3 V2 (h_3.below hB)).mono ?_
  rintro e y3 ⟨v3, q3, rfl, E3, O3, N3, G3, hb⟩
  replace U0 := U0.call hb
  replace U1 := U1.call hb
  replace U2 := U2.call hb
  replace B := B.below hb
  replace C := C.below hb
  replace D := D.below hb
  replace hB := hB.trans (hb.mono hB.size)
  have s3 := hb.size
  obtain ⟨x3, z3, rfl⟩ := O3.shape
  clear hb ht3
  have p4 := B.cell 4 _ rfl
  have d3 := D.cell 3 _ rfl
  have f3 := D.frozen 3
  go_wp2_with fail
  clear p4 d3 f3
  have U3 := (Out.refl [w.heap.size + 1, w.heap.size + 1 + 1] y3).set (b := w.heap.size + 1 + 1) (j := 3) (u := .slice x3 q3.length z3) (by simp)
  replace U0 := U0.set (b := w.heap.size + 1 + 1) (j := 3) (u := .slice x3 q3.length z3) (by simp)
  replace U1 := U1.set (b := w.heap.size + 1 + 1) (j := 3) (u := .slice x3 q3.length z3) (by simp)
  replace U2 := U2.set (b := w.heap.size + 1 + 1) (j := 3) (u := .slice x3 q3.length z3) (by simp)
  replace D := D.set 3 (.slice x3 q3.length z3)
  replace B := B.other (b' := w.heap.size + 1 + 1) (by omega) 3 (.slice x3 q3.length z3)
  replace C := C.other (b' := w.heap.size + 1 + 1) (by omega) 3 (.slice x3 q3.length z3)
  replace hB := hB.setCell (p := ⟨w.heap.size + 1 + 1, 3, none⟩) (by show w.heap.size ≤ w.heap.size + 1 + 1; omega) (.slice x3 q3.length z3)
  simp only [pjE] at D
  have t3 := U3.size
  generalize y3.setCell ⟨w.heap.size + 1 + 1, 3, none⟩ (.slice x3 q3.length z3) = V3 at *
  refine (ht4 V3 (h_4.below hB)).mono ?_
  rintro e y4 ⟨v4, rfl, O4, N4, G4, hb⟩
  replace U0 := U0.call hb
  replace U1 := U1.call hb
  replace U2 := U2.call hb
  replace U3 := U3.call hb
  replace B := B.below hb
  replace C := C.below hb
  replace D := D.below hb
  replace hB := hB.trans (hb.mono hB.size)
  have s4 := hb.size
  obtain ⟨x4, z4, rfl⟩ := O4.shape
  clear hb ht4
  clear B
  have d0 := D.cell 0 _ rfl
  have f0 := D.frozen 0
  have c0 := C.cell 0 _ rfl
  have g0 := C.frozen 0
  have d1 := D.cell 1 _ rfl
  have f1 := D.frozen 1
  have c1 := C.cell 1 _ rfl
  have g1 := C.frozen 1
  have d2 := D.cell 2 _ rfl
  have f2 := D.frozen 2
  have c2 := C.cell 2 _ rfl
  have g2 := C.frozen 2
  have d3 := D.cell 3 _ rfl
  have f3 := D.frozen 3
  have c3 := C.cell 3 _ rfl
  have g3 := C.frozen 3
  have d4 := D.cell 4 _ rfl
  have f4 := D.frozen 4
  have c4 := C.cell 4 _ rfl
  have g4 := C.frozen 4
  have R : Hid (∀ j u j' u' j'' u'' j''' u''' j'''' u'''' j''''' u''''', repK.own ((((((y4.setCell ⟨w.heap.size + 1 + 1, j, none⟩ u).setCell ⟨w.heap.size + 1, j', none⟩ u').setCell ⟨w.heap.size + 1, j'', none⟩ u'').setCell ⟨w.heap.size + 1, j''', none⟩ u''').setCell ⟨w.heap.size + 1, j'''', none⟩ u'''').setCell ⟨w.heap.size + 1, j''''', none⟩ u''''') ⟨.slice x0 q0.length z0, q0, .slice x1 base.length z1, base, .slice x2 q2.length z2, q2, .slice x3 q3.length z3, q3, .slice x4 now.length z4, now⟩ ∧ Below w.heap.size w ((((((y4.setCell ⟨w.heap.size + 1 + 1, j, none⟩ u).setCell ⟨w.heap.size + 1, j', none⟩ u').setCell ⟨w.heap.size + 1, j'', none⟩ u'').setCell ⟨w.heap.size + 1, j''', none⟩ u''').setCell ⟨w.heap.size + 1, j'''', none⟩ u'''').setCell ⟨w.heap.size + 1, j''''', none⟩ u''''')) := by
    intro j u j' u' j'' u'' j''' u''' j'''' u'''' j''''' u'''''
    have X0 := ((((((U0.set (b := w.heap.size + 1 + 1) (j := j) (u := u) (by simp)).set (b := w.heap.size + 1) (j := j') (u := u') (by simp)).set (b := w.heap.size + 1) (j := j'') (u := u'') (by simp)).set (b := w.heap.size + 1) (j := j''') (u := u''') (by simp)).set (b := w.heap.size + 1) (j := j'''') (u := u'''') (by simp)).set (b := w.heap.size + 1) (j := j''''') (u := u''''') (by simp))
    have X1 := ((((((U1.set (b := w.heap.size + 1 + 1) (j := j) (u := u) (by simp)).set (b := w.heap.size + 1) (j := j') (u := u') (by simp)).set (b := w.heap.size + 1) (j := j'') (u := u'') (by simp)).set (b := w.heap.size + 1) (j := j''') (u := u''') (by simp)).set (b := w.heap.size + 1) (j := j'''') (u := u'''') (by simp)).set (b := w.heap.size + 1) (j := j''''') (u := u''''') (by simp))
    have X2 := ((((((U2.set (b := w.heap.size + 1 + 1) (j := j) (u := u) (by simp)).set (b := w.heap.size + 1) (j := j') (u := u') (by simp)).set (b := w.heap.size + 1) (j := j'') (u := u'') (by simp)).set (b := w.heap.size + 1) (j := j''') (u := u''') (by simp)).set (b := w.heap.size + 1) (j := j'''') (u := u'''') (by simp)).set (b := w.heap.size + 1) (j := j''''') (u := u''''') (by simp))
    have X3 := ((((((U3.set (b := w.heap.size + 1 + 1) (j := j) (u := u) (by simp)).set (b := w.heap.size + 1) (j := j') (u := u') (by simp)).set (b := w.heap.size + 1) (j := j'') (u := u'') (by simp)).set (b := w.heap.size + 1) (j := j''') (u := u''') (by simp)).set (b := w.heap.size + 1) (j := j'''') (u := u'''') (by simp)).set (b := w.heap.size + 1) (j := j''''') (u := u''''') (by simp))
    have X4 := (((((((Out.refl [w.heap.size + 1, w.heap.size + 1 + 1] y4).set (b := w.heap.size + 1 + 1) (j := j) (u := u) (by simp)).set (b := w.heap.size + 1) (j := j') (u := u') (by simp)).set (b := w.heap.size + 1) (j := j'') (u := u'') (by simp)).set (b := w.heap.size + 1) (j := j''') (u := u''') (by simp)).set (b := w.heap.size + 1) (j := j'''') (u := u'''') (by simp)).set (b := w.heap.size + 1) (j := j''''') (u := u''''') (by simp))
    refine ⟨⟨O0.out X0 (fun k hk => ?_), O1.out X1 (fun k hk => ?_), O2.out X2 (fun k hk => ?_), O3.out X3 (fun k hk => ?_), O4.out X4 (fun k hk => ?_)⟩, ?_⟩
    · have := G0 k hk
      simp only [List.mem_cons, List.not_mem_nil, or_false]; omega
    · have := G1 k hk
      simp only [List.mem_cons, List.not_mem_nil, or_false]; omega
    · have := G2 k hk
      simp only [List.mem_cons, List.not_mem_nil, or_false]; omega
    · have := G3 k hk
      simp only [List.mem_cons, List.not_mem_nil, or_false]; omega
    · have := G4 k hk
      simp only [List.mem_cons, List.not_mem_nil, or_false]; omega
    · exact ((((((hB.setCell (p := ⟨w.heap.size + 1 + 1, j, none⟩) (by show w.heap.size ≤ w.heap.size + 1 + 1; omega) u).setCell (p := ⟨w.heap.size + 1, j', none⟩) (by show w.heap.size ≤ w.heap.size + 1; omega) u').setCell (p := ⟨w.heap.size + 1, j'', none⟩) (by show w.heap.size ≤ w.heap.size + 1; omega) u'').setCell (p := ⟨w.heap.size + 1, j''', none⟩) (by show w.heap.size ≤ w.heap.size + 1; omega) u''').setCell (p := ⟨w.heap.size + 1, j'''', none⟩) (by show w.heap.size ≤ w.heap.size + 1; omega) u'''').setCell (p := ⟨w.heap.size + 1, j''''', none⟩) (by show w.heap.size ≤ w.heap.size + 1; omega) u''''')
  have R1 : Hid ((repK.foot ⟨.slice x0 q0.length z0, q0, .slice x1 base.length z1, base, .slice x2 q2.length z2, q2, .slice x3 q3.length z3, q3, .slice x4 now.length z4, now⟩).Nodup ∧ (∀ k ∈ repK.foot ⟨.slice x0 q0.length z0, q0, .slice x1 base.length z1, base, .slice x2 q2.length z2, q2, .slice x3 q3.length z3, q3, .slice x4 now.length z4, now⟩, w.heap.size ≤ k)) := by
    have L0 := O0.lt
    have L1 := O1.lt
    have L2 := O2.lt
    have L3 := O3.lt
    have L4 := O4.lt
    have T0 := U0.size
    have T1 := U1.size
    have T2 := U2.size
    have T3 := U3.size
    refine ⟨?_, ?_⟩
    · show List.Nodup (_ ++ _)
      exact List.nodup_append.2 ⟨N0, List.nodup_append.2 ⟨N1, List.nodup_append.2 ⟨N2, List.nodup_append.2 ⟨N3, N4, apart9 (m := (V3).heap.size) (fun k hk => by have := L3 k hk; omega) (fun k hk => by have := G4 k hk; omega)⟩, apart9 (m := (V2).heap.size) (fun k hk => by have := L2 k hk; omega) (fun k hk => by rcases List.mem_append.1 hk with hk | hk <;> first | (have := G3 k hk; omega) | (have := G4 k hk; omega))⟩, apart9 (m := (V1).heap.size) (fun k hk => by have := L1 k hk; omega) (fun k hk => by rcases List.mem_append.1 hk with hk | hk <;> first | (have := G2 k hk; omega) | (rcases List.mem_append.1 hk with hk | hk <;> first | (have := G3 k hk; omega) | (have := G4 k hk; omega)))⟩, apart9 (m := (V0).heap.size) (fun k hk => by have := L0 k hk; omega) (fun k hk => by rcases List.mem_append.1 hk with hk | hk <;> first | (have := G1 k hk; omega) | (rcases List.mem_append.1 hk with hk | hk <;> first | (have := G2 k hk; omega) | (rcases List.mem_append.1 hk with hk | hk <;> first | (have := G3 k hk; omega) | (have := G4 k hk; omega))))⟩
    · exact (fun k hk => by rcases List.mem_append.1 hk with hk | hk <;> first | (have := G0 k hk; omega) | (rcases List.mem_append.1 hk with hk | hk <;> first | (have := G1 k hk; omega) | (rcases List.mem_append.1 hk with hk | hk <;> first | (have := G2 k hk; omega) | (rcases List.mem_append.1 hk with hk | hk <;> first | (have := G3 k hk; omega) | (have := G4 k hk; omega)))))
  have R2 : Hid (RepQ.e ⟨.slice x0 q0.length z0, q0, .slice x1 base.length z1, base, .slice x2 q2.length z2, q2, .slice x3 q3.length z3, q3, .slice x4 now.length z4, now⟩ = RepQ.e ⟨.slice a0 done.length k0, done, .slice a1 base.length k1, base, .slice a2 tent.length k2, tent, .slice a3 undos.length k3, undos, .slice a4 now.length k4, now⟩) := show _ = _ by simp only [RepQ.e, E0, E2, E3]
  clear O0 N0 G0 O1 N1 G1 O2 N2 G2 O3 N3 G3 O4 N4 G4 U0 U1 U2 U3 E0 E2 E3 hB C D h_0 h_1 h_2 h_3 h_4
  go_wp2
  exact bodyPost_ret (v := .agg #[.slice x0 q0.length z0, .slice x1 base.length z1, .slice x2 q2.length z2, .slice x3 q3.length z3, .slice x4 now.length z4]) (by simp [results, Try.results85, go_sem, c0, c1, c2, c3, c4]) rfl ⟨⟨.slice x0 q0.length z0, q0, .slice x1 base.length z1, base, .slice x2 q2.length z2, q2, .slice x3 q3.length z3, q3, .slice x4 now.length z4, now⟩, rfl, R2.out, (R.out _ _ _ _ _ _ _ _ _ _ _ _).1, R1.out.1, R1.out.2, (R.out _ _ _ _ _ _ _ _ _ _ _ _).2⟩

end Go.Proofs.Ytkkdjgiencilbaa
