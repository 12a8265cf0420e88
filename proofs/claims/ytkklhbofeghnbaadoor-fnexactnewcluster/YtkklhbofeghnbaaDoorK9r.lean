/- A replica where it lies; what the helpers of the laws do with it: count, compare, copy. No condition. -/
import Derived.Test.YtkklhbofeghnbaaDoorK9u
namespace Go.Proofs.YtkklhbofeghnbaaDoor
open Go.RowKit
open Go.BigFrame
set_option linter.unusedVariables false
set_option linter.unusedSimpArgs false

/-- A replica where it lies. -/
structure RepQ where
  vd : Value
  done : List TxnQ
  vb : Value
  base : List ItemD
  vt : Value
  tent : List TxnQ
  vu : Value
  undos : List USQ
  vn : Value
  now : List ItemD
/-- What it tells. -/
structure RepE where
  done : List TxnD
  base : List ItemD
  tent : List TxnD
  undos : List (List UndoD)
  now : List ItemD
def RepQ.e (p : RepQ) : RepE := ⟨p.done.map TxnQ.e, p.base, p.tent.map TxnQ.e, p.undos.map USQ.e, p.now⟩
def repK : Kind RepQ where
  ty := 72
  size := 5
  cells p := [p.vd, p.vb, p.vt, p.vu, p.vn]
  own w p := txnK.Own w p.vd p.done ∧ itemK.Own w p.vb p.base ∧ txnK.Own w p.vt p.tent ∧ ussK.Own w p.vu p.undos ∧ itemK.Own w p.vn p.now
  rd w p := txnK.At w p.vd p.done ∧ itemK.At w p.vb p.base ∧ txnK.At w p.vt p.tent ∧ ussK.At w p.vu p.undos ∧ itemK.At w p.vn p.now
  foot p := txnK.fp p.vd p.done ++ (itemK.fp p.vb p.base ++ (txnK.fp p.vt p.tent ++ (ussK.fp p.vu p.undos ++ itemK.fp p.vn p.now)))
  len _ := rfl
  own_rd h := ⟨h.1.at, h.2.1.at, h.2.2.1.at, h.2.2.2.1.at, h.2.2.2.2.at⟩
  own_out h ho hd := ⟨h.1.out ho (fun k hk => hd k (List.mem_append_left _ hk)), h.2.1.out ho (fun k hk => hd k (List.mem_append_right _ (List.mem_append_left _ hk))), h.2.2.1.out ho (fun k hk => hd k (List.mem_append_right _ (List.mem_append_right _ (List.mem_append_left _ hk)))), h.2.2.2.1.out ho (fun k hk => hd k (List.mem_append_right _ (List.mem_append_right _ (List.mem_append_right _ (List.mem_append_left _ hk))))), h.2.2.2.2.out ho (fun k hk => hd k (List.mem_append_right _ (List.mem_append_right _ (List.mem_append_right _ (List.mem_append_right _ hk)))))⟩
  own_lt h k hk := by
    rcases List.mem_append.1 hk with hk | hk
    · exact h.1.lt k hk
    rcases List.mem_append.1 hk with hk | hk
    · exact h.2.1.lt k hk
    rcases List.mem_append.1 hk with hk | hk
    · exact h.2.2.1.lt k hk
    rcases List.mem_append.1 hk with hk | hk
    · exact h.2.2.2.1.lt k hk
    · exact h.2.2.2.2.lt k hk
  rd_below h hb := ⟨h.1.below hb, h.2.1.below hb, h.2.2.1.below hb, h.2.2.2.1.below hb, h.2.2.2.2.below hb⟩
def RepQ.n (p : RepQ) : Nat := (p.done.length + nmL TxnQ.n p.done) + p.base.length + (p.tent.length + nmL TxnQ.n p.tent) + (p.undos.length + nmL USQ.n p.undos) + p.now.length
def RepQ.wf (p : RepQ) : Prop := (p.done.length ≤ 9223372036854775807 ∧ ∀ q ∈ p.done, TxnQ.wf q) ∧ p.base.length ≤ 9223372036854775807 ∧ (p.tent.length ≤ 9223372036854775807 ∧ ∀ q ∈ p.tent, TxnQ.wf q) ∧ (p.undos.length ≤ 9223372036854775807 ∧ ∀ q ∈ p.undos, USQ.wf q) ∧ p.now.length ≤ 9223372036854775807

set_option maxHeartbeats 1000000 in
theorem eqReplica_k (p p' : RepQ) (w : World) (h : repK.rd w p) (h' : repK.rd w p') (he : p.e = p'.e) (hl : RepQ.n p ≤ 1048576) :
    Calls Tryd.prog 45 #[.agg #[p.vd, p.vb, p.vt, p.vu, p.vn], .agg #[p'.vd, p'.vb, p'.vt, p'.vu, p'.vn]] w fun e w' => e = .returned (.bool true) ∧ Below w.heap.size w w' := by
  obtain ⟨vd, done, vb, base, vt, tent, vu, undos, vn, now⟩ := p
  obtain ⟨vd', done', vb', base', vt', tent', vu', undos', vn', now'⟩ := p'
  simp only [RepQ.e, RepE.mk.injEq] at he
  obtain ⟨e_0, e_1, e_2, e_3, e_4⟩ := he
  dsimp only [RepQ.n] at hl
  obtain ⟨h_0, h_1, h_2, h_3, h_4⟩ : txnK.At w vd done ∧ itemK.At w vb base ∧ txnK.At w vt tent ∧ ussK.At w vu undos ∧ itemK.At w vn now := h
  obtain ⟨g_0, g_1, g_2, g_3, g_4⟩ : txnK.At w vd' done'  ∧ itemK.At w vb' base'  ∧ txnK.At w vt' tent'  ∧ ussK.At w vu' undos'  ∧ itemK.At w vn' now'  := h'
  subst e_1
  subst e_4
  have hq0 := fun w h1 h2 => eqTxns_k vd vd' done done' w h1 h2 e_0 (by omega)
  have hq1 := fun w h1 h2 => eqItems_k vb vb' base w h1 h2 (by omega)
  have hq2 := fun w h1 h2 => eqTxns_k vt vt' tent tent' w h1 h2 e_2 (by omega)
  have hq3 := fun w h1 h2 => eqUss_k vu vu' undos undos' w h1 h2 e_3 (by omega)
  have hq4 := fun w h1 h2 => eqItems_k vn vn' now w h1 h2 (by omega)
  obtain ⟨a0, k0, rfl⟩ := h_0.shape
  obtain ⟨b0, m0, rfl⟩ := g_0.shape
  obtain ⟨a1, k1, rfl⟩ := h_1.shape
  obtain ⟨b1, m1, rfl⟩ := g_1.shape
  obtain ⟨a2, k2, rfl⟩ := h_2.shape
  obtain ⟨b2, m2, rfl⟩ := g_2.shape
  obtain ⟨a3, k3, rfl⟩ := h_3.shape
  obtain ⟨b3, m3, rfl⟩ := g_3.shape
  obtain ⟨a4, k4, rfl⟩ := h_4.shape
  obtain ⟨b4, m4, rfl⟩ := g_4.shape
  have B := (Blk.new w 72 #[.slice a0 done.length k0, .slice a1 base.length k1, .slice a2 tent.length k2, .slice a3 undos.length k3, .slice a4 now.length k4]).below (w' := (w.alloc (.cells #[.slice a0 done.length k0, .slice a1 base.length k1, .slice a2 tent.length k2, .slice a3 undos.length k3, .slice a4 now.length k4] 72)).alloc (.cells #[.slice b0 done'.length m0, .slice b1 base.length m1, .slice b2 tent'.length m2, .slice b3 undos'.length m3, .slice b4 now.length m4] 72)) (by go_grown)
  have C := Blk.new (w.alloc (.cells #[.slice a0 done.length k0, .slice a1 base.length k1, .slice a2 tent.length k2, .slice a3 undos.length k3, .slice a4 now.length k4] 72)) 72 #[.slice b0 done'.length m0, .slice b1 base.length m1, .slice b2 tent'.length m2, .slice b3 undos'.length m3, .slice b4 now.length m4]
  have hB : Below w.heap.size w ((w.alloc (.cells #[.slice a0 done.length k0, .slice a1 base.length k1, .slice a2 tent.length k2, .slice a3 undos.length k3, .slice a4 now.length k4] 72)).alloc (.cells #[.slice b0 done'.length m0, .slice b1 base.length m1, .slice b2 tent'.length m2, .slice b3 undos'.length m3, .slice b4 now.length m4] 72)) := by go_grown
  rw [World.size_alloc] at C
  clear e_0 e_2 e_3
  go_enter Tryd.func45, Tryd.ntmps45
  go_wp2_with fail
  generalize (w.alloc (.cells #[.slice a0 done.length k0, .slice a1 base.length k1, .slice a2 tent.length k2, .slice a3 undos.length k3, .slice a4 now.length k4] 72)).alloc (.cells #[.slice b0 done'.length m0, .slice b1 base.length m1, .slice b2 tent'.length m2, .slice b3 undos'.length m3, .slice b4 now.length m4] 72) = W at *
  refine (hq0 W (h_0.below hB) (g_0.below hB)).mono ?_
  rintro e w0 ⟨rfl, hb0⟩
  replace B := B.below hb0
  replace C := C.below hb0
  replace hB := hB.trans (hb0.mono hB.size)
  clear hb0 hq0
  have p1 := B.cell 1 _ rfl
  have q1 := C.cell 1 _ rfl
  go_wp2_with fail
  clear p1 q1
  refine (hq1 w0 (h_1.below hB) (g_1.below hB)).mono ?_
  rintro e w1 ⟨rfl, hb1⟩
  replace B := B.below hb1
  replace C := C.below hb1
  replace hB := hB.trans (hb1.mono hB.size)
  clear hb1 hq1
  have p2 := B.cell 2 _ rfl
  have q2 := C.cell 2 _ rfl
  go_wp2_with fail
  clear p2 q2
  refine (hq2 w1 (h_2.below hB) (g_2.below hB)).mono ?_
  rintro e w2 ⟨rfl, hb2⟩
  replace B := B.below hb2
  replace C := C.below hb2
  replace hB := hB.trans (hb2.mono hB.size)
  clear hb2 hq2
  have p3 := B.cell 3 _ rfl
  have q3 := C.cell 3 _ rfl
  go_wp2_with fail
  clear p3 q3
  refine (hq3 w2 (h_3.below hB) (g_3.below hB)).mono ?_
  rintro e w3 ⟨rfl, hb3⟩
  replace B := B.below hb3
  replace C := C.below hb3
  replace hB := hB.trans (hb3.mono hB.size)
  clear hb3 hq3
  have p4 := B.cell 4 _ rfl
  have q4 := C.cell 4 _ rfl
  go_wp2_with fail
  clear p4 q4
  refine (hq4 w3 (h_4.below hB) (g_4.below hB)).mono ?_
  rintro e w4 ⟨rfl, hb4⟩
  replace B := B.below hb4
  replace C := C.below hb4
  replace hB := hB.trans (hb4.mono hB.size)
  clear hb4 hq4
  go_wp2
  go_ret
  exact ⟨rfl, hB⟩

theorem apart9 {A B : List Nat} {m : Nat} (hA : ∀ k ∈ A, k < m) (hB : ∀ k ∈ B, m ≤ k) : ∀ a ∈ A, ∀ b ∈ B, a ≠ b := fun a ha b hb e => by
  have := hA a ha
  have := hB b hb
  omega

end Go.Proofs.YtkklhbofeghnbaaDoor
