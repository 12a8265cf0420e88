/- A cluster by value: its kind; what the helpers of the laws do with it. No condition. -/
import Derived.Test.YtkkdjgiencilbaaK12
import Derived.Test.YtkkdjgiencilbaaBlk5
namespace Go.Proofs.Ytkkdjgiencilbaa
open Go.RowKit
open Go.BigFrame
set_option linter.unusedVariables false
set_option linter.unusedSimpArgs false
set_option maxRecDepth 100000

structure CluQ where
  vo : Value
  ord : List InstQ
  vm : Value
  mem : List NodeQ
structure CluE where
  ord : List InstE
  mem : List NodeE
def CluQ.e (p : CluQ) : CluE := ⟨p.ord.map InstQ.e, p.mem.map NodeQ.e⟩
def CluQ.n (p : CluQ) : Nat := (p.ord.length + nmL InstQ.n p.ord) + (p.mem.length + nmL NodeQ.n p.mem)
def CluQ.wf (p : CluQ) : Prop := (p.ord.length ≤ 9223372036854775807 ∧ ∀ q ∈ p.ord, InstQ.wf q) ∧ (p.mem.length ≤ 9223372036854775807 ∧ ∀ q ∈ p.mem, NodeQ.wf q)
def cluK : Kind CluQ where
  ty := 31
  size := 2
  cells p := [p.vo, p.vm]
  own w p := instK.Own w p.vo p.ord ∧ nodeK.Own w p.vm p.mem
  rd w p := instK.At w p.vo p.ord ∧ nodeK.At w p.vm p.mem
  foot p := instK.fp p.vo p.ord ++ nodeK.fp p.vm p.mem
  len _ := rfl
  own_rd h := ⟨h.1.at, h.2.at⟩
  own_out h ho hd := ⟨h.1.out ho (fun k hk => hd k (List.mem_append_left _ hk)), h.2.out ho (fun k hk => hd k (List.mem_append_right _ hk))⟩
  own_lt h k hk := by
    rcases List.mem_append.1 hk with hk | hk
    · exact h.1.lt k hk
    · exact h.2.lt k hk
  rd_below h hb := ⟨h.1.below hb, h.2.below hb⟩

set_option maxHeartbeats 1000000 in
theorem szCluster_k (p : CluQ) (c : Int) (w : World) (h : cluK.rd w p) (hn : CluQ.wf p) (h0 : 0 ≤ c) (h1 : c ≤ 1048576) :
    Calls Try.prog 7 #[.agg #[p.vo, p.vm], .int .i64 c] w fun e w' => ∃ r : Int, e = .returned (.int .i64 r) ∧ (¬ r < 0 → (CluQ.n p : Int) + r = c) ∧ Below w.heap.size w w' := by
  obtain ⟨vo, ord, vm, mem⟩ := p
  obtain ⟨h_0, h_1⟩ : instK.At w vo ord ∧ nodeK.At w vm mem := h
  obtain ⟨hn_0, hn_1⟩ : (ord.length ≤ 9223372036854775807 ∧ ∀ p ∈ ord, InstQ.wf p) ∧ (mem.length ≤ 9223372036854775807 ∧ ∀ p ∈ mem, NodeQ.wf p) := hn
  obtain ⟨a0, k0, rfl⟩ := h_0.shape
  obtain ⟨a1, k1, rfl⟩ := h_1.shape
  have B := Blk.new w 25 #[.slice a0 ord.length k0, .slice a1 mem.length k1]
  have hB : Below w.heap.size w (w.alloc (.cells #[.slice a0 ord.length k0, .slice a1 mem.length k1] 25)) := by go_grown
  dsimp only [CluQ.n]
  go_enter Try.func7, Try.ntmps7
  go_wp2_with fail
  generalize w.alloc (.cells #[.slice a0 ord.length k0, .slice a1 mem.length k1] 25) = W at *
  refine (szInstances_k _ ord c W (h_0.below hB) hn_0.1 hn_0.2 (by omega) (by omega)).mono ?_
  rintro e w0 ⟨r0, rfl, hr0, hb0⟩
  replace B := B.below hb0
  replace hB := hB.trans (hb0.mono hB.size)
  clear hb0
  by_cases hneg0 : r0 < 0
  · go_wp2
    go_ret
    exact ⟨_, rfl, fun h => by omega, hB⟩
  have hs0 := hr0 hneg0
  clear hr0
  have p1 := B.cell 1 _ rfl
  go_wp2_with fail
  clear p1
  refine (szNodes_k _ mem r0 w0 (h_1.below hB) hn_1.1 hn_1.2 (by omega) (by omega)).mono ?_
  rintro e w1 ⟨r1, rfl, hr1, hb1⟩
  replace B := B.below hb1
  replace hB := hB.trans (hb1.mono hB.size)
  clear hb1
  by_cases hneg1 : r1 < 0
  · go_wp2
    go_ret
    exact ⟨_, rfl, fun h => by omega, hB⟩
  have hs1 := hr1 hneg1
  clear hr1
  go_wp2
  go_ret
  exact ⟨_, rfl, fun _ => by omega, hB⟩

set_option maxHeartbeats 1000000 in
theorem eqCluster_k (p p' : CluQ) (w : World) (h : cluK.rd w p) (h' : cluK.rd w p') (he : p.e = p'.e) (hl : CluQ.n p ≤ 1048576) :
    Calls Try.prog 11 #[.agg #[p.vo, p.vm], .agg #[p'.vo, p'.vm]] w fun e w' => e = .returned (.bool true) ∧ Below w.heap.size w w' := by
  obtain ⟨vo, ord, vm, mem⟩ := p
  obtain ⟨vo', ord', vm', mem'⟩ := p'
  simp only [CluQ.e, CluE.mk.injEq] at he
  obtain ⟨e_0, e_1⟩ := he
  dsimp only [CluQ.n] at hl
  obtain ⟨h_0, h_1⟩ : instK.At w vo ord ∧ nodeK.At w vm mem := h
  obtain ⟨g_0, g_1⟩ : instK.At w vo' ord'  ∧ nodeK.At w vm' mem'  := h'
  have hq0 := fun w h1 h2 => eqInstances_k vo vo' ord ord' w h1 h2 e_0 (by omega)
  have hq1 := fun w h1 h2 => eqNodes_k vm vm' mem mem' w h1 h2 e_1 (by omega)
  obtain ⟨a0, k0, rfl⟩ := h_0.shape
  obtain ⟨b0, m0, rfl⟩ := g_0.shape
  obtain ⟨a1, k1, rfl⟩ := h_1.shape
  obtain ⟨b1, m1, rfl⟩ := g_1.shape
  have B := (Blk.new w 31 #[.slice a0 ord.length k0, .slice a1 mem.length k1]).below (w' := (w.alloc (.cells #[.slice a0 ord.length k0, .slice a1 mem.length k1] 31)).alloc (.cells #[.slice b0 ord'.length m0, .slice b1 mem'.length m1] 31)) (by go_grown)
  have C := Blk.new (w.alloc (.cells #[.slice a0 ord.length k0, .slice a1 mem.length k1] 31)) 31 #[.slice b0 ord'.length m0, .slice b1 mem'.length m1]
  have hB : Below w.heap.size w ((w.alloc (.cells #[.slice a0 ord.length k0, .slice a1 mem.length k1] 31)).alloc (.cells #[.slice b0 ord'.length m0, .slice b1 mem'.length m1] 31)) := by go_grown
  rw [World.size_alloc] at C
  clear e_0 e_1
  go_enter Try.func11, Try.ntmps11
  go_wp2_with fail
  generalize (w.alloc (.cells #[.slice a0 ord.length k0, .slice a1 mem.length k1] 31)).alloc (.cells #[.slice b0 ord'.length m0, .slice b1 mem'.length m1] 31) = W at *
  refine (hq0 W (h_0.below hB) (g_0.below hB)).mono ?_
  rintro e w0 ⟨rfl, hb0⟩
  replace B := B.below hb0
  replace C := C.below hb0
  replace hB := hB.trans (hb0.mono hB.size)
  clear hb0 hq0
  have p1 := B.cell 1 _ rfl
  have q1 := C.cell 1 _ rfl
  go_wp2_with fail
  clear p1 q1
  refine (hq1 w0 (h_1.below hB) (g_1.below hB)).mono ?_
  rintro e w1 ⟨rfl, hb1⟩
  replace B := B.below hb1
  replace C := C.below hb1
  replace hB := hB.trans (hb1.mono hB.size)
  clear hb1 hq1
  go_wp2
  go_ret
  exact ⟨rfl, hB⟩

set_option maxHeartbeats 4000000 in
theorem toCluster_k (p : CluQ) (w : World) (h : cluK.rd w p) (hl : CluQ.n p ≤ 1048576) :
    Calls Try.prog 9 #[.agg #[p.vo, p.vm]] w fun e w' => ∃ p' : CluQ, e = .returned (.agg #[p'.vo, p'.vm]) ∧ p'.e = p.e ∧ cluK.own w' p' ∧ (cluK.foot p').Nodup ∧ (∀ k ∈ cluK.foot p', w.heap.size ≤ k) ∧ Below w.heap.size w w' := by
  obtain ⟨vo, ord, vm, mem⟩ := p
  dsimp only [CluQ.n] at hl
  obtain ⟨h_0, h_1⟩ : instK.At w vo ord ∧ nodeK.At w vm mem := h
  have ht0 := fun w h1 => toInstances_k vo ord w h1 (by omega)
  have ht1 := fun w h1 => toNodes_k vm mem w h1 (by omega)
  obtain ⟨a0, k0, rfl⟩ := h_0.shape
  obtain ⟨a1, k1, rfl⟩ := h_1.shape
  have B := (Blk.new w 25 #[.slice a0 ord.length k0, .slice a1 mem.length k1]).below (w' := ((w.alloc (.cells #[.slice a0 ord.length k0, .slice a1 mem.length k1] 25)).alloc (.cells #[.slice none 0 0, .slice none 0 0] 31)).alloc (.cells #[.slice none 0 0, .slice none 0 0] 31)) (by go_grown)
  have C := (Blk.new (w.alloc (.cells #[.slice a0 ord.length k0, .slice a1 mem.length k1] 25)) 31 #[.slice none 0 0, .slice none 0 0]).below (w' := ((w.alloc (.cells #[.slice a0 ord.length k0, .slice a1 mem.length k1] 25)).alloc (.cells #[.slice none 0 0, .slice none 0 0] 31)).alloc (.cells #[.slice none 0 0, .slice none 0 0] 31)) (by go_grown)
  have D := Blk.new ((w.alloc (.cells #[.slice a0 ord.length k0, .slice a1 mem.length k1] 25)).alloc (.cells #[.slice none 0 0, .slice none 0 0] 31)) 31 #[.slice none 0 0, .slice none 0 0]
  have hB : Below w.heap.size w (((w.alloc (.cells #[.slice a0 ord.length k0, .slice a1 mem.length k1] 25)).alloc (.cells #[.slice none 0 0, .slice none 0 0] 31)).alloc (.cells #[.slice none 0 0, .slice none 0 0] 31)) := by go_grown
  simp only [World.size_alloc] at C D
  have hS : w.heap.size + 3 ≤ (((w.alloc (.cells #[.slice a0 ord.length k0, .slice a1 mem.length k1] 25)).alloc (.cells #[.slice none 0 0, .slice none 0 0] 31)).alloc (.cells #[.slice none 0 0, .slice none 0 0] 31)).heap.size := by simp only [World.size_alloc]; omega
  go_enter Try.func9, Try.ntmps9
  go_wp2_with fail
  generalize ((w.alloc (.cells #[.slice a0 ord.length k0, .slice a1 mem.length k1] 25)).alloc (.cells #[.slice none 0 0, .slice none 0 0] 31)).alloc (.cells #[.slice none 0 0, .slice none 0 0] 31) = W at *
  refine (ht0 W (h_0.below hB)).mono ?_
  rintro e y0 ⟨v0, q0, rfl, E0, O0, N0, G0, hb⟩
  replace B := B.below hb
  replace C := C.below hb
  replace D := D.below hb
  replace hB := hB.trans (hb.mono hB.size)
  have s0 := hb.size
  obtain ⟨x0, z0, rfl⟩ := O0.shape
  clear hb ht0
  have p1 := B.cell 1 _ rfl
  have d0 := D.cell 0 _ rfl
  have f0 := D.frozen 0
  go_wp2_with fail
  clear p1 d0 f0
  have U0 := (Out.refl [w.heap.size + 1, w.heap.size + 1 + 1] y0).set (b := w.heap.size + 1 + 1) (j := 0) (u := .slice x0 q0.length z0) (by simp)
  replace D := D.set 0 (.slice x0 q0.length z0)
  replace B := B.other (b' := w.heap.size + 1 + 1) (by omega) 0 (.slice x0 q0.length z0)
  replace C := C.other (b' := w.heap.size + 1 + 1) (by omega) 0 (.slice x0 q0.length z0)
  replace hB := hB.setCell (p := ⟨w.heap.size + 1 + 1, 0, none⟩) (by show w.heap.size ≤ w.heap.size + 1 + 1; omega) (.slice x0 q0.length z0)
  simp only [pjE] at D
  have t0 := U0.size
  generalize y0.setCell ⟨w.heap.size + 1 + 1, 0, none⟩ (.slice x0 q0.length z0) = V0 at *
  refine (ht1 V0 (h_1.below hB)).mono ?_
  rintro e y1 ⟨v1, q1, rfl, E1, O1, N1, G1, hb⟩
  replace U0 := U0.call hb
  replace B := B.below hb
  replace C := C.below hb
  replace D := D.below hb
  replace hB := hB.trans (hb.mono hB.size)
  have s1 := hb.size
  obtain ⟨x1, z1, rfl⟩ := O1.shape
  clear hb ht1
  clear B
  have d0 := D.cell 0 _ rfl
  have f0 := D.frozen 0
  have c0 := C.cell 0 _ rfl
  have g0 := C.frozen 0
  have d1 := D.cell 1 _ rfl
  have f1 := D.frozen 1
  have c1 := C.cell 1 _ rfl
  have g1 := C.frozen 1
  have R : Hid (∀ j u j' u' j'' u'', cluK.own (((y1.setCell ⟨w.heap.size + 1 + 1, j, none⟩ u).setCell ⟨w.heap.size + 1, j', none⟩ u').setCell ⟨w.heap.size + 1, j'', none⟩ u'') ⟨.slice x0 q0.length z0, q0, .slice x1 q1.length z1, q1⟩ ∧ Below w.heap.size w (((y1.setCell ⟨w.heap.size + 1 + 1, j, none⟩ u).setCell ⟨w.heap.size + 1, j', none⟩ u').setCell ⟨w.heap.size + 1, j'', none⟩ u'')) := by
    intro j u j' u' j'' u''
    have X0 := (((U0.set (b := w.heap.size + 1 + 1) (j := j) (u := u) (by simp)).set (b := w.heap.size + 1) (j := j') (u := u') (by simp)).set (b := w.heap.size + 1) (j := j'') (u := u'') (by simp))
    have X1 := ((((Out.refl [w.heap.size + 1, w.heap.size + 1 + 1] y1).set (b := w.heap.size + 1 + 1) (j := j) (u := u) (by simp)).set (b := w.heap.size + 1) (j := j') (u := u') (by simp)).set (b := w.heap.size + 1) (j := j'') (u := u'') (by simp))
    refine ⟨⟨O0.out X0 (fun k hk => ?_), O1.out X1 (fun k hk => ?_)⟩, ?_⟩
    · have := G0 k hk
      simp only [List.mem_cons, List.not_mem_nil, or_false]; omega
    · have := G1 k hk
      simp only [List.mem_cons, List.not_mem_nil, or_false]; omega
    · exact (((hB.setCell (p := ⟨w.heap.size + 1 + 1, j, none⟩) (by show w.heap.size ≤ w.heap.size + 1 + 1; omega) u).setCell (p := ⟨w.heap.size + 1, j', none⟩) (by show w.heap.size ≤ w.heap.size + 1; omega) u').setCell (p := ⟨w.heap.size + 1, j'', none⟩) (by show w.heap.size ≤ w.heap.size + 1; omega) u'')
  have R1 : Hid ((cluK.foot ⟨.slice x0 q0.length z0, q0, .slice x1 q1.length z1, q1⟩).Nodup ∧ (∀ k ∈ cluK.foot ⟨.slice x0 q0.length z0, q0, .slice x1 q1.length z1, q1⟩, w.heap.size ≤ k)) := by
    have L0 := O0.lt
    have L1 := O1.lt
    have T0 := U0.size
    refine ⟨?_, ?_⟩
    · show List.Nodup (_ ++ _)
      exact List.nodup_append.2 ⟨N0, N1, apart_of (m := (V0).heap.size) (fun k hk => by have := L0 k hk; omega) (fun k hk => by have := G1 k hk; omega)⟩
    · exact (fun k hk => by rcases List.mem_append.1 hk with hk | hk <;> first | (have := G0 k hk; omega) | (have := G1 k hk; omega))
  have R2 : Hid (CluQ.e ⟨.slice x0 q0.length z0, q0, .slice x1 q1.length z1, q1⟩ = CluQ.e ⟨.slice a0 ord.length k0, ord, .slice a1 mem.length k1, mem⟩) := show _ = _ by simp only [CluQ.e, E0, E1]
  clear O0 N0 G0 O1 N1 G1 U0 E0 E1 hB C D h_0 h_1
  go_wp2
  exact bodyPost_ret (v := .agg #[.slice x0 q0.length z0, .slice x1 q1.length z1]) (by simp [results, Try.results9, go_sem, c0, c1]) rfl ⟨⟨.slice x0 q0.length z0, q0, .slice x1 q1.length z1, q1⟩, rfl, R2.out, (R.out _ _ _ _ _ _).1, R1.out.1, R1.out.2, (R.out _ _ _ _ _ _).2⟩

end Go.Proofs.Ytkkdjgiencilbaa
