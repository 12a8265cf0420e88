/- Texts that stand together: data, memory, helpers. No condition. -/
import Derived.Test.YtkklhbofeghnbaaDoorNd11
import Derived.Test.YtkklhbofeghnbaaDoorKIs
import Derived.Test.YtkklhbofeghnbaaDoorFoot3
import Derived.Test.YtkklhbofeghnbaaDoorBlk5
import Derived.Test.YtkklhbofeghnbaaDoorK9x
import Derived.Test.YtkklhbofeghnbaaDoorJD
import Derived.Test.YtkklhbofeghnbaaDoorJB
namespace Go.Proofs.YtkklhbofeghnbaaDoor
open Go.RowKit
open Go.BigFrame
set_option linter.unusedVariables false
set_option linter.unusedSimpArgs false
set_option maxRecDepth 100000

/-- A node where it lies. -/
structure NodeQ where
  kn : Int
  sf : Int
  vd : Value
  done : List TxnQ
  vb : Value
  base : List ItemD
  vt : Value
  tent : List TxnQ
  vu : Value
  undos : List USQ
  vn : Value
  now : List ItemD
/-- What it tells. -/
structure NodeE where
  kn : Int
  sf : Int
  rep : RepE
def NodeQ.r (p : NodeQ) : RepQ := ⟨p.vd, p.done, p.vb, p.base, p.vt, p.tent, p.vu, p.undos, p.vn, p.now⟩
def NodeQ.of (kn sf : Int) (r : RepQ) : NodeQ := ⟨kn, sf, r.vd, r.done, r.vb, r.base, r.vt, r.tent, r.vu, r.undos, r.vn, r.now⟩
def NodeQ.e (p : NodeQ) : NodeE := ⟨p.kn, p.sf, p.r.e⟩
def NodeQ.n (p : NodeQ) : Nat := p.r.n
def NodeQ.wf (p : NodeQ) : Prop := p.r.wf
def nodeK : Kind NodeQ where
  ty := 74
  size := 7
  cells p := [.int .i64 p.kn, .int .i64 p.sf, p.vd, p.vb, p.vt, p.vu, p.vn]
  own w p := repK.own w p.r
  rd w p := repK.rd w p.r
  foot p := repK.foot p.r
  len _ := rfl
  own_rd h := repK.own_rd h
  own_out h ho hd := repK.own_out h ho hd
  own_lt h := repK.own_lt h
  rd_below h hb := repK.rd_below h hb

theorem infoNode12 : (Tryd.prog.info? 74).map (fun i => (i.zero, i.size, i.bytes)) = some (some (.agg #[.int .i64 0, .int .i64 0, .slice none 0 0, .slice none 0 0, .slice none 0 0, .slice none 0 0, .slice none 0 0]), 7, 136) := by kernel_rfl


theorem eqNode_l (p p' : NodeQ) (w : World) (h : nodeK.rd w p) (h' : nodeK.rd w p') (he : p.e = p'.e) (hl : NodeQ.n p ≤ 1048576) :
    Calls Tryd.prog 29 #[.agg #[.int .i64 p.kn, .int .i64 p.sf, p.vd, p.vb, p.vt, p.vu, p.vn], .agg #[.int .i64 p'.kn, .int .i64 p'.sf, p'.vd, p'.vb, p'.vt, p'.vu, p'.vn]] w fun e w' => e = .returned (.bool true) ∧ Below w.heap.size w w' := by
  simp only [NodeQ.e, NodeE.mk.injEq] at he
  obtain ⟨e1, e2, e3⟩ := he
  rw [← e1, ← e2]
  exact eqNode_k p.kn p.sf p.r p'.r w h h' e3 hl

set_option maxHeartbeats 2000000 in
theorem eqNodes_k (v v' : Value) (ps qs : List NodeQ) (w : World) (h : nodeK.At w v ps) (h' : nodeK.At w v' qs) (he : ps.map NodeQ.e = qs.map NodeQ.e) (hl : (ps.length + nmL NodeQ.n ps) ≤ 1048576) :
    Calls Tryd.prog 18 #[v, v'] w fun e w' => e = .returned (.bool true) ∧ Below w.heap.size w w' := by
  obtain ⟨a, cap, rfl⟩ := h.shape
  obtain ⟨a', cap', rfl⟩ := h'.shape
  have hlen : qs.length = ps.length := by
    have := congrArg List.length he
    simpa using this.symm
  rw [hlen] at h' ⊢
  have HL : Hid (qs.length = ps.length) := hlen
  clear hlen
  go_enter Tryd.func18, Tryd.ntmps18
  go_wp2
  go_loopw [5] (fun i wr => ∃ k : Nat, k ≤ ps.length ∧ i = .int .i64 k ∧ Below w.heap.size w wr) (fun i _ => ps.length - (intOf i).toNat)
  case atStart => exact ⟨0, Nat.zero_le _, rfl, Below.refl _ _⟩
  case round =>
    obtain ⟨k, hk, rfl, hb⟩ := hrel
    by_cases hlt : k < ps.length
    · have hlt' : k < qs.length := by have := HL.out; omega
      obtain ⟨b, off, rfl, hbs, hc, hrd⟩ := (h.below hb).cell (by decide) k hlt
      obtain ⟨b', off', rfl, hbs', hd, hrd'⟩ := (h'.below hb).cell (by decide) k hlt'
      have hc' : ∀ j x, (nodeK.cells ps[k])[j]? = some x → wr.cell? ⟨b, off + k * 7 + j, none⟩ = some x := hc
      have hd' : ∀ j x, (nodeK.cells qs[k])[j]? = some x → wr.cell? ⟨b', off' + k * 7 + j, none⟩ = some x := hd
      have c0 := hc' 0 (.int .i64 ps[k].kn) rfl
      have d0 := hd' 0 (.int .i64 qs[k].kn) rfl
      have c1 := hc' 1 (.int .i64 ps[k].sf) rfl
      have d1 := hd' 1 (.int .i64 qs[k].sf) rfl
      have c2 := hc' 2 (ps[k].vd) rfl
      have d2 := hd' 2 (qs[k].vd) rfl
      have c3 := hc' 3 (ps[k].vb) rfl
      have d3 := hd' 3 (qs[k].vb) rfl
      have c4 := hc' 4 (ps[k].vt) rfl
      have d4 := hd' 4 (qs[k].vt) rfl
      have c5 := hc' 5 (ps[k].vu) rfl
      have d5 := hd' 5 (qs[k].vu) rfl
      have c6 := hc' 6 (ps[k].vn) rfl
      have d6 := hd' 6 (qs[k].vn) rfl
      have hee : NodeQ.e ps[k] = NodeQ.e qs[k] := by
        have := congrArg (·[k]?) he
        simpa [hlt, hlt'] using this
      have hzl := nm_le NodeQ.n ps k hlt
      clear hc hc' hd hd'
      generalize ps[k] = p at *
      generalize qs[k] = p' at *
      have hEQ := fun w h1 h2 => eqNode_l p p' w h1 h2 hee (show NodeQ.n p ≤ 1048576 by omega)
      clear hee hzl
      rw [Nat.add_zero] at c0 d0
      have k0 := lat_cell c0
      have l0 := lat_cell d0
      have k1 := lat_cell c1
      have l1 := lat_cell d1
      have k2 := lat_cell c2
      have l2 := lat_cell d2
      have k3 := lat_cell c3
      have l3 := lat_cell d3
      have k4 := lat_cell c4
      have l4 := lat_cell d4
      have k5 := lat_cell c5
      have l5 := lat_cell d5
      have k6 := lat_cell c6
      have l6 := lat_cell d6
      clear c0 d0 c1 d1 c2 d2 c3 d3 c4 d4 c5 d5 c6 d6
      have hW : Below wr.heap.size wr wr.drew := (Below.refl _ _).drew
      have hne : Nonempty (Lat wr) := ⟨⟨wr, Below.refl _ _⟩⟩
      go_wp2_with fail
      refine text_begin (S := fun w' => ∃ u : Lat wr, w' = u.val) (by kernel_rfl) ?_
      refine sgr [(0, 8)] 2 (by kernel_rfl) ⟨⟨_, hW⟩, rfl⟩ ?_
      simp only [pkE]
      repeat go_big_quiet_step (fail)
      refine wpQuiet_nil ?_
      refine cla 8 (some 25) 29 #[.agg #[.int .i64 p.kn, .int .i64 p.sf, p.vd, p.vb, p.vt, p.vu, p.vn], .agg #[.int .i64 p'.kn, .int .i64 p'.sf, p'.vd, p'.vb, p'.vt, p'.vu, p'.vn]] 1 (by kernel_rfl) ?_
      refine (hEQ _ (nodeK.rd_below hrd hW) (nodeK.rd_below hrd' hW)).mono ?_
      rintro e w2 ⟨rfl, hb2⟩
      replace hW := hW.trans (hb2.mono hW.size)
      clear hb2
      refine ⟨_, rfl, ⟨⟨_, hW⟩, rfl⟩, ?_⟩
      simp only [Act.put, pjE]
      refine sgr [(9, 1)] 0 (by kernel_rfl) ⟨⟨_, hW⟩, rfl⟩ ?_
      simp only [pkE]
      repeat go_big_quiet_step (fail)
      refine wpQuiet_nil ?_
      refine text_end (by kernel_rfl) ?_
      replace hb := hb.trans (hW.mono hb.size)
      clear k0 l0 k1 l1 k2 l2 k3 l3 k4 l4 k5 l5 k6 l6 hW hne hrd hrd' hEQ
      go_wp2
      go_roundw
      case rel => exact ⟨k + 1, by omega, by go_num, hb⟩
      case measure => simp [intOf]; omega
    · go_wp2
      go_ret
      exact ⟨rfl, hb⟩

end Go.Proofs.YtkklhbofeghnbaaDoor

namespace Go.Proofs.YtkklhbofeghnbaaDoor
open Go.RowKit
open Go.BigFrame
set_option linter.unusedVariables false
set_option linter.unusedSimpArgs false
set_option maxRecDepth 100000

structure CluQ where
  vo : Value
  ord : List InstQ
  vm : Value
  mem : List NodeQ
structure CluE where
  ord : List InstE
  mem : List NodeE
def CluQ.e (p : CluQ) : CluE := ⟨p.ord.map InstQ.e, p.mem.map NodeQ.e⟩
def CluQ.n (p : CluQ) : Nat := (p.ord.length + nmL InstQ.n p.ord) + (p.mem.length + nmL NodeQ.n p.mem)
def CluQ.wf (p : CluQ) : Prop := (p.ord.length ≤ 9223372036854775807 ∧ ∀ q ∈ p.ord, InstQ.wf q) ∧ (p.mem.length ≤ 9223372036854775807 ∧ ∀ q ∈ p.mem, NodeQ.wf q)
def cluK : Kind CluQ where
  ty := 25
  size := 2
  cells p := [p.vo, p.vm]
  own w p := instK.Own w p.vo p.ord ∧ nodeK.Own w p.vm p.mem
  rd w p := instK.At w p.vo p.ord ∧ nodeK.At w p.vm p.mem
  foot p := instK.fp p.vo p.ord ++ nodeK.fp p.vm p.mem
  len _ := rfl
  own_rd h := ⟨h.1.at, h.2.at⟩
  own_out h ho hd := ⟨h.1.out ho (fun k hk => hd k (List.mem_append_left _ hk)), h.2.out ho (fun k hk => hd k (List.mem_append_right _ hk))⟩
  own_lt h k hk := by
    rcases List.mem_append.1 hk with hk | hk
    · exact h.1.lt k hk
    · exact h.2.lt k hk
  rd_below h hb := ⟨h.1.below hb, h.2.below hb⟩

set_option maxHeartbeats 1000000 in
theorem eqCluster_k (p p' : CluQ) (w : World) (h : cluK.rd w p) (h' : cluK.rd w p') (he : p.e = p'.e) (hl : CluQ.n p ≤ 1048576) :
    Calls Tryd.prog 11 #[.agg #[p.vo, p.vm], .agg #[p'.vo, p'.vm]] w fun e w' => e = .returned (.bool true) ∧ Below w.heap.size w w' := by
  obtain ⟨vo, ord, vm, mem⟩ := p
  obtain ⟨vo', ord', vm', mem'⟩ := p'
  simp only [CluQ.e, CluE.mk.injEq] at he
  obtain ⟨e_0, e_1⟩ := he
  dsimp only [CluQ.n] at hl
  obtain ⟨h_0, h_1⟩ : instK.At w vo ord ∧ nodeK.At w vm mem := h
  obtain ⟨g_0, g_1⟩ : instK.At w vo' ord'  ∧ nodeK.At w vm' mem'  := h'
  have hq0 := fun w h1 h2 => eqInstances_k vo vo' ord ord' w h1 h2 e_0 (by omega)
  have hq1 := fun w h1 h2 => eqNodes_k vm vm' mem mem' w h1 h2 e_1 (by omega)
  obtain ⟨a0, k0, rfl⟩ := h_0.shape
  obtain ⟨b0, m0, rfl⟩ := g_0.shape
  obtain ⟨a1, k1, rfl⟩ := h_1.shape
  obtain ⟨b1, m1, rfl⟩ := g_1.shape
  have B := (Blk.new w 25 #[.slice a0 ord.length k0, .slice a1 mem.length k1]).below (w' := (w.alloc (.cells #[.slice a0 ord.length k0, .slice a1 mem.length k1] 25)).alloc (.cells #[.slice b0 ord'.length m0, .slice b1 mem'.length m1] 25)) (by go_grown)
  have C := Blk.new (w.alloc (.cells #[.slice a0 ord.length k0, .slice a1 mem.length k1] 25)) 25 #[.slice b0 ord'.length m0, .slice b1 mem'.length m1]
  have hB : Below w.heap.size w ((w.alloc (.cells #[.slice a0 ord.length k0, .slice a1 mem.length k1] 25)).alloc (.cells #[.slice b0 ord'.length m0, .slice b1 mem'.length m1] 25)) := by go_grown
  rw [World.size_alloc] at C
  clear e_0 e_1
  go_enter Tryd.func11, Tryd.ntmps11
  go_wp2_with fail
  generalize (w.alloc (.cells #[.slice a0 ord.length k0, .slice a1 mem.length k1] 25)).alloc (.cells #[.slice b0 ord'.length m0, .slice b1 mem'.length m1] 25) = W at *
  refine (hq0 W (h_0.below hB) (g_0.below hB)).mono ?_
  rintro e w0 ⟨rfl, hb0⟩
  replace B := B.below hb0
  replace C := C.below hb0
  replace hB := hB.trans (hb0.mono hB.size)
  clear hb0 hq0
  have p1 := B.cell 1 _ rfl
  have q1 := C.cell 1 _ rfl
  go_wp2_with fail
  clear p1 q1
  refine (hq1 w0 (h_1.below hB) (g_1.below hB)).mono ?_
  rintro e w1 ⟨rfl, hb1⟩
  replace B := B.below hb1
  replace C := C.below hb1
  replace hB := hB.trans (hb1.mono hB.size)
  clear hb1 hq1
  go_wp2
  go_ret
  exact ⟨rfl, hB⟩

end Go.Proofs.YtkklhbofeghnbaaDoor

namespace Go.Proofs.YtkklhbofeghnbaaDoor
open Go.RowKit
open Go.BigFrame
set_option linter.unusedVariables false
set_option linter.unusedSimpArgs false
set_option maxRecDepth 100000

abbrev mkUss (c : Int) (ps : List USQ) : List USQ := mkL mkUs nmUs c ps
theorem mkUss_fp (v : Value) (c : Int) (ps : List USQ) : ussK.fp v (mkUss c ps) = ussK.fp v ps := fp_mkL mkUs_foot _ _ _

def mkNodS (c : Int) (p : NodeQ) : NodeQ := ⟨c, c + 1, p.vd, mkTxns (c + 1 + 1) p.done, p.vb, mkItems (c + 1 + 1 + ((nmL nmTxn p.done : Nat) : Int)) p.base, p.vt, mkTxns (c + 1 + 1 + ((nmL nmTxn p.done : Nat) : Int) + ((p.base.length * 2 : Nat) : Int)) p.tent, p.vu, mkUss (c + 1 + 1 + ((nmL nmTxn p.done : Nat) : Int) + ((p.base.length * 2 : Nat) : Int) + ((nmL nmTxn p.tent : Nat) : Int)) p.undos, p.vn, mkItems (c + 1 + 1 + ((nmL nmTxn p.done : Nat) : Int) + ((p.base.length * 2 : Nat) : Int) + ((nmL nmTxn p.tent : Nat) : Int) + ((nmL nmUs p.undos : Nat) : Int)) p.now⟩
def nmNodS (p : NodeQ) : Nat := 1 + 1 + nmL nmTxn p.done + p.base.length * 2 + nmL nmTxn p.tent + nmL nmUs p.undos + p.now.length * 2
theorem mkNodS_foot (c : Int) (p : NodeQ) : nodeK.foot (mkNodS c p) = nodeK.foot p := by
  simp only [mkNodS, show ∀ p : NodeQ, nodeK.foot p = txnK.fp p.vd p.done ++ (itemK.fp p.vb p.base ++ (txnK.fp p.vt p.tent ++ (ussK.fp p.vu p.undos ++ itemK.fp p.vn p.now))) from fun _ => rfl, mkTxns_fp, mkItems_fp, mkTxns_fp, mkUss_fp, mkItems_fp]

set_option maxHeartbeats 4000000 in
theorem markNodes_k (v : Value) (ps : List NodeQ) (c : Int) (w : World) (h : nodeK.Own w v ps) (hnd : (nodeK.fp v ps).Nodup) (hl : (ps.length + nmL NodeQ.n ps) ≤ 1048576) (h0 : 0 ≤ c) (h1 : c + (nmL nmNodS ps : Int) ≤ 1099511627776) :
    Calls Tryd.prog 20 #[v, .int .i64 c] w fun e w' => e = .returned (.int .i64 (c + (nmL nmNodS ps : Int))) ∧ nodeK.Own w' v (mkL mkNodS nmNodS c ps) ∧ Out (nodeK.fp v ps) w w' := by
  obtain ⟨a, cap, rfl⟩ := h.shape
  have hfph : ∀ k, k ≤ ps.length → nodeK.fp (.slice a ps.length cap) (half mkNodS nmNodS c ps k) = nodeK.fp (.slice a ps.length cap) ps := fun k hk => fp_half mkNodS_foot _ c ps k
  have HF : Hid (∀ k, k ≤ ps.length → nodeK.fp (.slice a ps.length cap) (half mkNodS nmNodS c ps k) = nodeK.fp (.slice a ps.length cap) ps) := hfph
  have HA : Hid (nodeK.Own w (.slice a ps.length cap) (half mkNodS nmNodS c ps 0)) := by rw [half_zero]; exact h
  clear hfph h
  go_enter Tryd.func20, Tryd.ntmps20
  go_wp2
  go_loopw [1, 5] (fun j i wr => ∃ k : Nat, k ≤ ps.length ∧ j = .int .i64 (c + (nmL nmNodS (ps.take k) : Int)) ∧ i = .int .i64 k ∧ Hid (nodeK.Own wr (.slice a ps.length cap) (half mkNodS nmNodS c ps k)) ∧ Hid (Out (nodeK.fp (.slice a ps.length cap) ps) w wr)) (fun _ i _ => ps.length - (intOf i).toNat)
  case atStart => exact ⟨0, Nat.zero_le _, by simp [nmL], rfl, HA, Out.refl _ _⟩
  case round =>
    clear HA
    obtain ⟨k, hk, rfl, rfl, HO, HU⟩ := hrel
    by_cases hlt : k < ps.length
    · have hhl : (half mkNodS nmNodS c ps k).length = ps.length := half_length _ _ _ _ _ hk
      have hO := HO.out
      obtain ⟨g, rfl⟩ := hO.blkOf (by omega)
      have hndk : (nodeK.fp (.slice (some ⟨g, 0, none⟩) ps.length cap) (half mkNodS nmNodS c ps k)).Nodup := by rw [HF.out k hk]; exact hnd
      have hsub : Hid (∀ x ∈ nodeK.foot ps[k], x ∈ nodeK.fp (.slice (some ⟨g, 0, none⟩) ps.length cap) ps) := fun x hx => by
        simp only [Kind.fp, List.mem_append, List.mem_flatMap]
        exact Or.inr ⟨_, List.getElem_mem hlt, hx⟩
      have hg0 : Hid (∀ x ∈ [g], x ∈ nodeK.fp (.slice (some ⟨g, 0, none⟩) ps.length cap) ps) := fun x hx => by
        simp only [List.mem_singleton] at hx
        subst hx
        simp [Kind.fp, blk, Value.ownBlock]
      have hltH : k < (half mkNodS nmNodS c ps k).length := by omega
      have hget := half_get mkNodS nmNodS c ps k hlt
      have hOk : nodeK.Own wr (.slice (some ⟨g, 0, none⟩) ps.length cap) ((half mkNodS nmNodS c ps k).set k ps[k]) := by
        have e : (half mkNodS nmNodS c ps k).set k ps[k] = half mkNodS nmNodS c ps k := by
          rw [← hget, List.set_getElem_self]
        rw [e]; exact hO
      have hnk : (nodeK.fp (.slice (some ⟨g, 0, none⟩) ps.length cap) ((half mkNodS nmNodS c ps k).set k ps[k])).Nodup := by
        have e : (half mkNodS nmNodS c ps k).set k ps[k] = half mkNodS nmNodS c ps k := by
          rw [← hget, List.set_getElem_self]
        rw [e]; exact hndk
      clear hget hO hndk
      have hset := half_set mkNodS nmNodS c ps k hlt
      have hsu := nmL_succ nmNodS ps k hlt
      have hle := nmL_le nmNodS ps (k + 1)
      have hzl := nm_le NodeQ.n ps k hlt
      have HSU : Hid ((nmL nmNodS (ps.take (k + 1)) : Int) = (nmL nmNodS (ps.take k) : Int) + (nmNodS ps[k] : Int)) := show _ = _ by omega
      have hyb : (nmL nmNodS (ps.take k) : Int) + (nmNodS ps[k] : Int) ≤ nmL nmNodS ps := by omega
      have HSET : Hid ((half mkNodS nmNodS c ps k).set k (mkNodS (c + (nmL nmNodS (ps.take k) : Int)) ps[k]) = half mkNodS nmNodS c ps (k + 1)) := hset
      clear hset hsu hle HO
      generalize half mkNodS nmNodS c ps k = hs at *
      generalize hpk : ps[k] = p at *
      clear hpk
      obtain ⟨z_kn, z_sf, z_vd, d_done, z_vb, d_base, z_vt, d_tent, z_vu, d_undos, z_vn, d_now⟩ := p
      have hkL : k < hs.length := hltH
      dsimp only [nmNodS, NodeQ.n, NodeQ.r, RepQ.n] at HSU hyb hzl
      generalize hy : (nmL nmNodS (ps.take k) : Int) = y at *
      have hy0 : 0 ≤ y := by omega
      clear hy
      obtain ⟨c0, f0⟩ := hOk.cell' hkL 0 (.int .i64 z_kn) rfl
      obtain ⟨c1, f1⟩ := hOk.cell' hkL 1 (.int .i64 z_sf) rfl
      obtain ⟨c2, f2⟩ := hOk.cell' hkL 2 (z_vd) rfl
      have c0 : wr.cell? ⟨g, k * 7, none⟩ = _ := c0
      have f0 : wr.frozen? ⟨g, k * 7, none⟩ = _ := f0
      have c1 : wr.cell? ⟨g, k * 7 + 1, none⟩ = _ := c1
      have f1 : wr.frozen? ⟨g, k * 7 + 1, none⟩ = _ := f1
      have c2 : wr.cell? ⟨g, k * 7 + 2, none⟩ = _ := c2
      have f2 : wr.frozen? ⟨g, k * 7 + 2, none⟩ = _ := f2
      obtain ⟨hOn, hnn⟩ := hOk.store' hnk hkL (⟨c + y, z_sf, z_vd, d_done, z_vb, d_base, z_vt, d_tent, z_vu, d_undos, z_vn, d_now⟩ : NodeQ) 0 (.int .i64 (c + y)) (by decide) rfl rfl (fun _ h => h)
      have hOk : nodeK.Own (wr.setCell ⟨g, k * 7, none⟩ (.int .i64 (c + y))) (.slice (some ⟨g, 0, none⟩) ps.length cap) (hs.set k (⟨c + y, z_sf, z_vd, d_done, z_vb, d_base, z_vt, d_tent, z_vu, d_undos, z_vn, d_now⟩ : NodeQ)) := hOn
      have hnk := hnn
      obtain ⟨hOn, hnn⟩ := hOk.store' hnk hkL (⟨c + y, c + y + 1, z_vd, d_done, z_vb, d_base, z_vt, d_tent, z_vu, d_undos, z_vn, d_now⟩ : NodeQ) 1 (.int .i64 (c + y + 1)) (by decide) rfl rfl (fun _ h => h)
      have hOk : nodeK.Own ((wr.setCell ⟨g, k * 7, none⟩ (.int .i64 (c + y))).setCell ⟨g, k * 7 + 1, none⟩ (.int .i64 (c + y + 1))) (.slice (some ⟨g, 0, none⟩) ps.length cap) (hs.set k (⟨c + y, c + y + 1, z_vd, d_done, z_vb, d_base, z_vt, d_tent, z_vu, d_undos, z_vn, d_now⟩ : NodeQ)) := hOn
      have hnk := hnn
      have HU : Hid (Out (nodeK.fp (.slice (some ⟨g, 0, none⟩) ps.length cap) ps) w ((wr.setCell ⟨g, k * 7, none⟩ (.int .i64 (c + y))).setCell ⟨g, k * 7 + 1, none⟩ (.int .i64 (c + y + 1)))) := ((HU.out.trans ((Out.setCell _ g (k * 7) (.int .i64 (c + y))).mono hg0.out)).trans ((Out.setCell _ g (k * 7 + 1) (.int .i64 (c + y + 1))).mono hg0.out))
      have he2 := hOk.elem' hkL
      have hl2 : txnK.Own ((wr.setCell ⟨g, k * 7, none⟩ (.int .i64 (c + y))).setCell ⟨g, k * 7 + 1, none⟩ (.int .i64 (c + y + 1))) z_vd d_done := he2.1
      have hmk := markTxns_k z_vd d_done (c + y + 1 + 1) _ hl2 (List.nodup_append.1 (foot_nodup hnk hkL)).1 (by omega) (by omega) (by omega)
      obtain ⟨sa2, sc2, hsh2⟩ := hl2.shape
      subst hsh2

      clear he2 hl2
      go_wp2_with fail
      refine hmk.mono ?_
      rintro e w22 ⟨rfl, hm2, ho2⟩
      clear hmk
      obtain ⟨hOn, hnn⟩ := hOk.turn' hnk hkL (⟨c + y, c + y + 1, .slice sa2 d_done.length sc2, mkTxns (c + y + 1 + 1) d_done, z_vb, d_base, z_vt, d_tent, z_vu, d_undos, z_vn, d_now⟩ : NodeQ) ho2 (fun x hx => List.mem_append_left _ hx) rfl (by simp only [show ∀ p : NodeQ, nodeK.foot p = txnK.fp p.vd p.done ++ (itemK.fp p.vb p.base ++ (txnK.fp p.vt p.tent ++ (ussK.fp p.vu p.undos ++ itemK.fp p.vn p.now))) from fun _ => rfl, mkTxns_fp, mkItems_fp, mkUss_fp]) ((id ⟨hm2, (hOk.elem' hkL).2.1.out ho2 (fun k hk => nd_right (foot_nodup hnk hkL) k (List.mem_append_left _ hk)), (hOk.elem' hkL).2.2.1.out ho2 (fun k hk => nd_right (foot_nodup hnk hkL) k (List.mem_append_right _ (List.mem_append_left _ hk))), (hOk.elem' hkL).2.2.2.1.out ho2 (fun k hk => nd_right (foot_nodup hnk hkL) k (List.mem_append_right _ (List.mem_append_right _ (List.mem_append_left _ hk)))), (hOk.elem' hkL).2.2.2.2.out ho2 (fun k hk => nd_right (foot_nodup hnk hkL) k (List.mem_append_right _ (List.mem_append_right _ (List.mem_append_right _ hk))))⟩ : _ ∧ _ ∧ _ ∧ _ ∧ _))
      have HU : Hid (Out (nodeK.fp (.slice (some ⟨g, 0, none⟩) ps.length cap) ps) w w22) := HU.out.trans (ho2.mono (fun x hx => hsub.out x (show x ∈ nodeK.foot _ from (fun x hx => List.mem_append_left _ hx) x hx)))
      have hOk := hOn
      have hnk := hnn
      obtain ⟨c3, f3⟩ := hOk.cell' hkL 3 (z_vb) rfl
      have c3 : w22.cell? ⟨g, k * 7 + 3, none⟩ = _ := c3
      have f3 : w22.frozen? ⟨g, k * 7 + 3, none⟩ = _ := f3
      have he3 := hOk.elem' hkL
      have hl3 : itemK.Own w22 z_vb d_base := he3.2.1
      have hmk := markItems_k z_vb d_base (c + y + 1 + 1 + ((nmL nmTxn d_done : Nat) : Int)) _ hl3  (by omega) (by omega) (by omega)
      obtain ⟨sa3, sc3, hsh3⟩ := hl3.shape
      subst hsh3

      clear he3 hl3
      go_wp2_with fail
      refine hmk.mono ?_
      rintro e w23 ⟨rfl, hm3, ho3⟩
      clear hmk
      obtain ⟨hOn, hnn⟩ := hOk.turn' hnk hkL (⟨c + y, c + y + 1, .slice sa2 d_done.length sc2, mkTxns (c + y + 1 + 1) d_done, .slice sa3 d_base.length sc3, mkItems (c + y + 1 + 1 + ((nmL nmTxn d_done : Nat) : Int)) d_base, z_vt, d_tent, z_vu, d_undos, z_vn, d_now⟩ : NodeQ) ho3 (fun x hx => List.mem_append_right _ (List.mem_append_left _ hx)) rfl (by simp only [show ∀ p : NodeQ, nodeK.foot p = txnK.fp p.vd p.done ++ (itemK.fp p.vb p.base ++ (txnK.fp p.vt p.tent ++ (ussK.fp p.vu p.undos ++ itemK.fp p.vn p.now))) from fun _ => rfl, mkTxns_fp, mkItems_fp, mkUss_fp]) ((id ⟨(hOk.elem' hkL).1.out ho3 (fun k hk hk2 => nd_left (foot_nodup hnk hkL) k hk (List.mem_append_left _ hk2)), hm3, (hOk.elem' hkL).2.2.1.out ho3 (fun k hk => nd_right (List.nodup_append.1 (foot_nodup hnk hkL)).2.1 k (List.mem_append_left _ hk)), (hOk.elem' hkL).2.2.2.1.out ho3 (fun k hk => nd_right (List.nodup_append.1 (foot_nodup hnk hkL)).2.1 k (List.mem_append_right _ (List.mem_append_left _ hk))), (hOk.elem' hkL).2.2.2.2.out ho3 (fun k hk => nd_right (List.nodup_append.1 (foot_nodup hnk hkL)).2.1 k (List.mem_append_right _ (List.mem_append_right _ hk)))⟩ : _ ∧ _ ∧ _ ∧ _ ∧ _))
      have HU : Hid (Out (nodeK.fp (.slice (some ⟨g, 0, none⟩) ps.length cap) ps) w w23) := HU.out.trans (ho3.mono (fun x hx => hsub.out x (show x ∈ nodeK.foot _ from (fun x hx => List.mem_append_right _ (List.mem_append_left _ hx)) x hx)))
      have hOk := hOn
      have hnk := hnn
      obtain ⟨c4, f4⟩ := hOk.cell' hkL 4 (z_vt) rfl
      have c4 : w23.cell? ⟨g, k * 7 + 4, none⟩ = _ := c4
      have f4 : w23.frozen? ⟨g, k * 7 + 4, none⟩ = _ := f4
      have he4 := hOk.elem' hkL
      have hl4 : txnK.Own w23 z_vt d_tent := he4.2.2.1
      have hmk := markTxns_k z_vt d_tent (c + y + 1 + 1 + ((nmL nmTxn d_done : Nat) : Int) + ((d_base.length * 2 : Nat) : Int)) _ hl4 (List.nodup_append.1 (List.nodup_append.1 (List.nodup_append.1 (foot_nodup hnk hkL)).2.1).2.1).1 (by omega) (by omega) (by omega)
      obtain ⟨sa4, sc4, hsh4⟩ := hl4.shape
      subst hsh4

      clear he4 hl4
      go_wp2_with fail
      refine hmk.mono ?_
      rintro e w24 ⟨rfl, hm4, ho4⟩
      clear hmk
      obtain ⟨hOn, hnn⟩ := hOk.turn' hnk hkL (⟨c + y, c + y + 1, .slice sa2 d_done.length sc2, mkTxns (c + y + 1 + 1) d_done, .slice sa3 d_base.length sc3, mkItems (c + y + 1 + 1 + ((nmL nmTxn d_done : Nat) : Int)) d_base, .slice sa4 d_tent.length sc4, mkTxns (c + y + 1 + 1 + ((nmL nmTxn d_done : Nat) : Int) + ((d_base.length * 2 : Nat) : Int)) d_tent, z_vu, d_undos, z_vn, d_now⟩ : NodeQ) ho4 (fun x hx => List.mem_append_right _ (List.mem_append_right _ (List.mem_append_left _ hx))) rfl (by simp only [show ∀ p : NodeQ, nodeK.foot p = txnK.fp p.vd p.done ++ (itemK.fp p.vb p.base ++ (txnK.fp p.vt p.tent ++ (ussK.fp p.vu p.undos ++ itemK.fp p.vn p.now))) from fun _ => rfl, mkTxns_fp, mkItems_fp, mkUss_fp]) ((id ⟨(hOk.elem' hkL).1.out ho4 (fun k hk hk2 => nd_left (foot_nodup hnk hkL) k hk (List.mem_append_right _ (List.mem_append_left _ hk2))), (hOk.elem' hkL).2.1.out ho4 (fun k hk hk2 => nd_left (List.nodup_append.1 (foot_nodup hnk hkL)).2.1 k hk (List.mem_append_left _ hk2)), hm4, (hOk.elem' hkL).2.2.2.1.out ho4 (fun k hk => nd_right (List.nodup_append.1 (List.nodup_append.1 (foot_nodup hnk hkL)).2.1).2.1 k (List.mem_append_left _ hk)), (hOk.elem' hkL).2.2.2.2.out ho4 (fun k hk => nd_right (List.nodup_append.1 (List.nodup_append.1 (foot_nodup hnk hkL)).2.1).2.1 k (List.mem_append_right _ hk))⟩ : _ ∧ _ ∧ _ ∧ _ ∧ _))
      have HU : Hid (Out (nodeK.fp (.slice (some ⟨g, 0, none⟩) ps.length cap) ps) w w24) := HU.out.trans (ho4.mono (fun x hx => hsub.out x (show x ∈ nodeK.foot _ from (fun x hx => List.mem_append_right _ (List.mem_append_right _ (List.mem_append_left _ hx))) x hx)))
      have hOk := hOn
      have hnk := hnn
      obtain ⟨c5, f5⟩ := hOk.cell' hkL 5 (z_vu) rfl
      have c5 : w24.cell? ⟨g, k * 7 + 5, none⟩ = _ := c5
      have f5 : w24.frozen? ⟨g, k * 7 + 5, none⟩ = _ := f5
      have he5 := hOk.elem' hkL
      have hl5 : ussK.Own w24 z_vu d_undos := he5.2.2.2.1
      have hmk := markUss_k z_vu d_undos (c + y + 1 + 1 + ((nmL nmTxn d_done : Nat) : Int) + ((d_base.length * 2 : Nat) : Int) + ((nmL nmTxn d_tent : Nat) : Int)) _ hl5 (List.nodup_append.1 (List.nodup_append.1 (List.nodup_append.1 (List.nodup_append.1 (foot_nodup hnk hkL)).2.1).2.1).2.1).1 (by omega) (by omega) (by omega)
      obtain ⟨sa5, sc5, hsh5⟩ := hl5.shape
      subst hsh5

      clear he5 hl5
      go_wp2_with fail
      refine hmk.mono ?_
      rintro e w25 ⟨rfl, hm5, ho5⟩
      clear hmk
      obtain ⟨hOn, hnn⟩ := hOk.turn' hnk hkL (⟨c + y, c + y + 1, .slice sa2 d_done.length sc2, mkTxns (c + y + 1 + 1) d_done, .slice sa3 d_base.length sc3, mkItems (c + y + 1 + 1 + ((nmL nmTxn d_done : Nat) : Int)) d_base, .slice sa4 d_tent.length sc4, mkTxns (c + y + 1 + 1 + ((nmL nmTxn d_done : Nat) : Int) + ((d_base.length * 2 : Nat) : Int)) d_tent, .slice sa5 d_undos.length sc5, mkUss (c + y + 1 + 1 + ((nmL nmTxn d_done : Nat) : Int) + ((d_base.length * 2 : Nat) : Int) + ((nmL nmTxn d_tent : Nat) : Int)) d_undos, z_vn, d_now⟩ : NodeQ) ho5 (fun x hx => List.mem_append_right _ (List.mem_append_right _ (List.mem_append_right _ (List.mem_append_left _ hx)))) rfl (by simp only [show ∀ p : NodeQ, nodeK.foot p = txnK.fp p.vd p.done ++ (itemK.fp p.vb p.base ++ (txnK.fp p.vt p.tent ++ (ussK.fp p.vu p.undos ++ itemK.fp p.vn p.now))) from fun _ => rfl, mkTxns_fp, mkItems_fp, mkUss_fp]) ((id ⟨(hOk.elem' hkL).1.out ho5 (fun k hk hk2 => nd_left (foot_nodup hnk hkL) k hk (List.mem_append_right _ (List.mem_append_right _ (List.mem_append_left _ hk2)))), (hOk.elem' hkL).2.1.out ho5 (fun k hk hk2 => nd_left (List.nodup_append.1 (foot_nodup hnk hkL)).2.1 k hk (List.mem_append_right _ (List.mem_append_left _ hk2))), (hOk.elem' hkL).2.2.1.out ho5 (fun k hk hk2 => nd_left (List.nodup_append.1 (List.nodup_append.1 (foot_nodup hnk hkL)).2.1).2.1 k hk (List.mem_append_left _ hk2)), hm5, (hOk.elem' hkL).2.2.2.2.out ho5 (fun k hk => nd_right (List.nodup_append.1 (List.nodup_append.1 (List.nodup_append.1 (foot_nodup hnk hkL)).2.1).2.1).2.1 k hk)⟩ : _ ∧ _ ∧ _ ∧ _ ∧ _))
      have HU : Hid (Out (nodeK.fp (.slice (some ⟨g, 0, none⟩) ps.length cap) ps) w w25) := HU.out.trans (ho5.mono (fun x hx => hsub.out x (show x ∈ nodeK.foot _ from (fun x hx => List.mem_append_right _ (List.mem_append_right _ (List.mem_append_right _ (List.mem_append_left _ hx)))) x hx)))
      have hOk := hOn
      have hnk := hnn
      obtain ⟨c6, f6⟩ := hOk.cell' hkL 6 (z_vn) rfl
      have c6 : w25.cell? ⟨g, k * 7 + 6, none⟩ = _ := c6
      have f6 : w25.frozen? ⟨g, k * 7 + 6, none⟩ = _ := f6
      have he6 := hOk.elem' hkL
      have hl6 : itemK.Own w25 z_vn d_now := he6.2.2.2.2
      have hmk := markItems_k z_vn d_now (c + y + 1 + 1 + ((nmL nmTxn d_done : Nat) : Int) + ((d_base.length * 2 : Nat) : Int) + ((nmL nmTxn d_tent : Nat) : Int) + ((nmL nmUs d_undos : Nat) : Int)) _ hl6  (by omega) (by omega) (by omega)
      obtain ⟨sa6, sc6, hsh6⟩ := hl6.shape
      subst hsh6

      clear he6 hl6
      go_wp2_with fail
      refine hmk.mono ?_
      rintro e w26 ⟨rfl, hm6, ho6⟩
      clear hmk
      obtain ⟨hOn, hnn⟩ := hOk.turn' hnk hkL (⟨c + y, c + y + 1, .slice sa2 d_done.length sc2, mkTxns (c + y + 1 + 1) d_done, .slice sa3 d_base.length sc3, mkItems (c + y + 1 + 1 + ((nmL nmTxn d_done : Nat) : Int)) d_base, .slice sa4 d_tent.length sc4, mkTxns (c + y + 1 + 1 + ((nmL nmTxn d_done : Nat) : Int) + ((d_base.length * 2 : Nat) : Int)) d_tent, .slice sa5 d_undos.length sc5, mkUss (c + y + 1 + 1 + ((nmL nmTxn d_done : Nat) : Int) + ((d_base.length * 2 : Nat) : Int) + ((nmL nmTxn d_tent : Nat) : Int)) d_undos, .slice sa6 d_now.length sc6, mkItems (c + y + 1 + 1 + ((nmL nmTxn d_done : Nat) : Int) + ((d_base.length * 2 : Nat) : Int) + ((nmL nmTxn d_tent : Nat) : Int) + ((nmL nmUs d_undos : Nat) : Int)) d_now⟩ : NodeQ) ho6 (fun x hx => List.mem_append_right _ (List.mem_append_right _ (List.mem_append_right _ (List.mem_append_right _ (hx))))) rfl (by simp only [show ∀ p : NodeQ, nodeK.foot p = txnK.fp p.vd p.done ++ (itemK.fp p.vb p.base ++ (txnK.fp p.vt p.tent ++ (ussK.fp p.vu p.undos ++ itemK.fp p.vn p.now))) from fun _ => rfl, mkTxns_fp, mkItems_fp, mkUss_fp]) ((id ⟨(hOk.elem' hkL).1.out ho6 (fun k hk hk2 => nd_left (foot_nodup hnk hkL) k hk (List.mem_append_right _ (List.mem_append_right _ (List.mem_append_right _ hk2)))), (hOk.elem' hkL).2.1.out ho6 (fun k hk hk2 => nd_left (List.nodup_append.1 (foot_nodup hnk hkL)).2.1 k hk (List.mem_append_right _ (List.mem_append_right _ hk2))), (hOk.elem' hkL).2.2.1.out ho6 (fun k hk hk2 => nd_left (List.nodup_append.1 (List.nodup_append.1 (foot_nodup hnk hkL)).2.1).2.1 k hk (List.mem_append_right _ hk2)), (hOk.elem' hkL).2.2.2.1.out ho6 (fun k hk hk2 => nd_left (List.nodup_append.1 (List.nodup_append.1 (List.nodup_append.1 (foot_nodup hnk hkL)).2.1).2.1).2.1 k hk hk2), hm6⟩ : _ ∧ _ ∧ _ ∧ _ ∧ _))
      have HU : Hid (Out (nodeK.fp (.slice (some ⟨g, 0, none⟩) ps.length cap) ps) w w26) := HU.out.trans (ho6.mono (fun x hx => hsub.out x (show x ∈ nodeK.foot _ from (fun x hx => List.mem_append_right _ (List.mem_append_right _ (List.mem_append_right _ (List.mem_append_right _ (hx))))) x hx)))
      have hOk := hOn
      have hnk := hnn
      have R : Hid (nodeK.Own w26 (.slice (some ⟨g, 0, none⟩) ps.length cap) (half mkNodS nmNodS c ps (k + 1))) := by rw [← HSET.out]; exact hOk
      clear hOk hnk HSET hsub hg0
      go_wp2
      go_roundw
      case rel => exact ⟨k + 1, by omega, by rw [HSU.out]; congr 1; omega, by go_num, R.out, HU.out⟩
      case measure => simp [intOf]; omega
    · have hkl : k = ps.length := by omega
      subst hkl
      have hO := HO.out
      rw [half_all] at hO
      rw [List.take_length]
      clear HF HO
      go_wp2
      go_ret
      exact ⟨rfl, hO, HU.out⟩

end Go.Proofs.YtkklhbofeghnbaaDoor

namespace Go.Proofs.YtkklhbofeghnbaaDoor
open Go.RowKit
open Go.BigFrame
set_option linter.unusedVariables false
set_option linter.unusedSimpArgs false
set_option maxRecDepth 100000

set_option maxHeartbeats 2000000 in
theorem heldNodes_k (v : Value) (ps : List NodeQ) (c : Int) (w : World) (h : nodeK.At w v (mkL mkNodS nmNodS c ps)) (hl : (ps.length + nmL NodeQ.n ps) ≤ 1048576) (h0 : 0 ≤ c) (h1 : c + (nmL nmNodS ps : Int) ≤ 1099511627776) :
    Calls Tryd.prog 22 #[v, .int .i64 c] w fun e w' => e = .returned (.int .i64 (c + (nmL nmNodS ps : Int))) ∧ Below w.heap.size w w' := by
  obtain ⟨a, cap, rfl⟩ := h.shape
  have hmk := mkL_length mkNodS nmNodS c ps
  rw [hmk] at h ⊢
  have HM : Hid ((mkL mkNodS nmNodS c ps).length = ps.length) := hmk
  clear hmk
  go_enter Tryd.func22, Tryd.ntmps22
  go_wp2
  go_loopw [1, 5] (fun j i wr => ∃ k : Nat, k ≤ ps.length ∧ j = .int .i64 (c + (nmL nmNodS (ps.take k) : Int)) ∧ i = .int .i64 k ∧ Below w.heap.size w wr) (fun _ i _ => ps.length - (intOf i).toNat)
  case atStart => exact ⟨0, Nat.zero_le _, by simp [nmL], rfl, Below.refl _ _⟩
  case round =>
    obtain ⟨k, hk, rfl, rfl, hb⟩ := hrel
    by_cases hlt : k < ps.length
    · have hltm : k < (mkL mkNodS nmNodS c ps).length := by have := HM.out; omega
      obtain ⟨b, off, rfl, hbs, hc, hrd⟩ := (h.below hb).cell (by decide) k hltm
      rw [mkL_get mkNodS nmNodS c ps k hlt] at hc hrd
      have hsu := nmL_succ nmNodS ps k hlt
      have hle := nmL_le nmNodS ps (k + 1)
      have hzl := nm_le NodeQ.n ps k hlt
      have HSU : Hid ((nmL nmNodS (ps.take (k + 1)) : Int) = (nmL nmNodS (ps.take k) : Int) + (nmNodS ps[k] : Int)) := show _ = _ by omega
      have hyb : (nmL nmNodS (ps.take k) : Int) + (nmNodS ps[k] : Int) ≤ nmL nmNodS ps := by omega
      clear hsu hle h
      generalize hpk : ps[k] = p at *
      clear hpk
      obtain ⟨z_kn, z_sf, z_vd, d_done, z_vb, d_base, z_vt, d_tent, z_vu, d_undos, z_vn, d_now⟩ := p
      dsimp only [nmNodS, NodeQ.n, NodeQ.r, RepQ.n] at HSU hyb hzl
      generalize hy : (nmL nmNodS (ps.take k) : Int) = y at *
      have hy0 : 0 ≤ y := by omega
      clear hy
      have hc' : ∀ j x, (nodeK.cells (mkNodS (c + y) (⟨z_kn, z_sf, z_vd, d_done, z_vb, d_base, z_vt, d_tent, z_vu, d_undos, z_vn, d_now⟩ : NodeQ)))[j]? = some x → wr.cell? ⟨b, off + k * 7 + j, none⟩ = some x := hc
      clear hc
      have c0 := hc' 0 (.int .i64 (c + y)) rfl
      have c1 := hc' 1 (.int .i64 (c + y + 1)) rfl
      have c2 := hc' 2 (z_vd) rfl
      have c3 := hc' 3 (z_vb) rfl
      have c4 := hc' 4 (z_vt) rfl
      have c5 := hc' 5 (z_vu) rfl
      have c6 := hc' 6 (z_vn) rfl
      obtain ⟨r2, r3, r4, r5, r6⟩ : txnK.At wr z_vd (mkTxns (c + y + 1 + 1) d_done) ∧ itemK.At wr z_vb (mkItems (c + y + 1 + 1 + ((nmL nmTxn d_done : Nat) : Int)) d_base) ∧ txnK.At wr z_vt (mkTxns (c + y + 1 + 1 + ((nmL nmTxn d_done : Nat) : Int) + ((d_base.length * 2 : Nat) : Int)) d_tent) ∧ ussK.At wr z_vu (mkUss (c + y + 1 + 1 + ((nmL nmTxn d_done : Nat) : Int) + ((d_base.length * 2 : Nat) : Int) + ((nmL nmTxn d_tent : Nat) : Int)) d_undos) ∧ itemK.At wr z_vn (mkItems (c + y + 1 + 1 + ((nmL nmTxn d_done : Nat) : Int) + ((d_base.length * 2 : Nat) : Int) + ((nmL nmTxn d_tent : Nat) : Int) + ((nmL nmUs d_undos : Nat) : Int)) d_now) := hrd
      have hh2 := fun w h => heldTxns_k z_vd d_done (c + y + 1 + 1) w h (by omega) (by omega) (by omega)
      have hh3 := fun w h => heldItems_k z_vb d_base (c + y + 1 + 1 + ((nmL nmTxn d_done : Nat) : Int)) w h (by omega) (by omega) (by omega)
      have hh4 := fun w h => heldTxns_k z_vt d_tent (c + y + 1 + 1 + ((nmL nmTxn d_done : Nat) : Int) + ((d_base.length * 2 : Nat) : Int)) w h (by omega) (by omega) (by omega)
      have hh5 := fun w h => heldUss_k z_vu d_undos (c + y + 1 + 1 + ((nmL nmTxn d_done : Nat) : Int) + ((d_base.length * 2 : Nat) : Int) + ((nmL nmTxn d_tent : Nat) : Int)) w h (by omega) (by omega) (by omega)
      have hh6 := fun w h => heldItems_k z_vn d_now (c + y + 1 + 1 + ((nmL nmTxn d_done : Nat) : Int) + ((d_base.length * 2 : Nat) : Int) + ((nmL nmTxn d_tent : Nat) : Int) + ((nmL nmUs d_undos : Nat) : Int)) w h (by omega) (by omega) (by omega)
      obtain ⟨sa2, sc2, hsh2⟩ := r2.shape
      subst hsh2
      obtain ⟨sa3, sc3, hsh3⟩ := r3.shape
      subst hsh3
      obtain ⟨sa4, sc4, hsh4⟩ := r4.shape
      subst hsh4
      obtain ⟨sa5, sc5, hsh5⟩ := r5.shape
      subst hsh5
      obtain ⟨sa6, sc6, hsh6⟩ := r6.shape
      subst hsh6
      rw [Nat.add_zero] at c0
      clear hc'
      have nn2 : ¬ (c + y + 1 + 1 + ((nmL nmTxn d_done : Nat) : Int) < 0) := by omega
      go_wp2_with fail
      refine (hh2 wr r2).mono ?_
      rintro e w2 ⟨rfl, hb2⟩
      replace hb := hb.trans (hb2.mono hb.size)
      replace c3 := (hb2.cell (p := ⟨b, _, none⟩) (World.block_lt_of_cell? _ _ c3)).trans c3
      replace c4 := (hb2.cell (p := ⟨b, _, none⟩) (World.block_lt_of_cell? _ _ c4)).trans c4
      replace c5 := (hb2.cell (p := ⟨b, _, none⟩) (World.block_lt_of_cell? _ _ c5)).trans c5
      replace c6 := (hb2.cell (p := ⟨b, _, none⟩) (World.block_lt_of_cell? _ _ c6)).trans c6
      replace r3 := r3.below hb2
      replace r4 := r4.below hb2
      replace r5 := r5.below hb2
      replace r6 := r6.below hb2
      clear hb2 hh2 c0 c1 c2
      have nn3 : ¬ (c + y + 1 + 1 + ((nmL nmTxn d_done : Nat) : Int) + ((d_base.length * 2 : Nat) : Int) < 0) := by omega
      go_wp2_with fail
      refine (hh3 w2 r3).mono ?_
      rintro e w3 ⟨rfl, hb3⟩
      replace hb := hb.trans (hb3.mono hb.size)
      replace c4 := (hb3.cell (p := ⟨b, _, none⟩) (World.block_lt_of_cell? _ _ c4)).trans c4
      replace c5 := (hb3.cell (p := ⟨b, _, none⟩) (World.block_lt_of_cell? _ _ c5)).trans c5
      replace c6 := (hb3.cell (p := ⟨b, _, none⟩) (World.block_lt_of_cell? _ _ c6)).trans c6
      replace r4 := r4.below hb3
      replace r5 := r5.below hb3
      replace r6 := r6.below hb3
      clear hb3 hh3 c3
      have nn4 : ¬ (c + y + 1 + 1 + ((nmL nmTxn d_done : Nat) : Int) + ((d_base.length * 2 : Nat) : Int) + ((nmL nmTxn d_tent : Nat) : Int) < 0) := by omega
      go_wp2_with fail
      refine (hh4 w3 r4).mono ?_
      rintro e w4 ⟨rfl, hb4⟩
      replace hb := hb.trans (hb4.mono hb.size)
      replace c5 := (hb4.cell (p := ⟨b, _, none⟩) (World.block_lt_of_cell? _ _ c5)).trans c5
      replace c6 := (hb4.cell (p := ⟨b, _, none⟩) (World.block_lt_of_cell? _ _ c6)).trans c6
      replace r5 := r5.below hb4
      replace r6 := r6.below hb4
      clear hb4 hh4 c4
      have nn5 : ¬ (c + y + 1 + 1 + ((nmL nmTxn d_done : Nat) : Int) + ((d_base.length * 2 : Nat) : Int) + ((nmL nmTxn d_tent : Nat) : Int) + ((nmL nmUs d_undos : Nat) : Int) < 0) := by omega
      go_wp2_with fail
      refine (hh5 w4 r5).mono ?_
      rintro e w5 ⟨rfl, hb5⟩
      replace hb := hb.trans (hb5.mono hb.size)
      replace c6 := (hb5.cell (p := ⟨b, _, none⟩) (World.block_lt_of_cell? _ _ c6)).trans c6
      replace r6 := r6.below hb5
      clear hb5 hh5 c5
      have nn6 : ¬ (c + y + 1 + 1 + ((nmL nmTxn d_done : Nat) : Int) + ((d_base.length * 2 : Nat) : Int) + ((nmL nmTxn d_tent : Nat) : Int) + ((nmL nmUs d_undos : Nat) : Int) + ((d_now.length * 2 : Nat) : Int) < 0) := by omega
      go_wp2_with fail
      refine (hh6 w5 r6).mono ?_
      rintro e w6 ⟨rfl, hb6⟩
      replace hb := hb.trans (hb6.mono hb.size)
      clear hb6 hh6 c6
      go_wp2
      go_roundw
      case rel => exact ⟨k + 1, by omega, by rw [HSU.out]; congr 1; omega, by go_num, hb⟩
      case measure => simp [intOf]; omega
    · have hkl : k = ps.length := by omega
      subst hkl
      rw [List.take_length]
      go_wp2
      go_ret
      exact ⟨rfl, hb⟩

end Go.Proofs.YtkklhbofeghnbaaDoor

namespace Go.Proofs.YtkklhbofeghnbaaDoor
open Go.RowKit
open Go.BigFrame
set_option linter.unusedVariables false
set_option linter.unusedSimpArgs false
set_option maxRecDepth 100000

def mkClu (c : Int) : CluQ → CluQ
  | ⟨vo, ord, vm, mem⟩ => ⟨vo, mkL mkInsS nmInsS c ord, vm, mkL mkNodS nmNodS (c + ((nmL nmInsS ord : Nat) : Int)) mem⟩
def nmClu : CluQ → Nat
  | ⟨vo, ord, vm, mem⟩ => nmL nmInsS ord + nmL nmNodS mem
theorem nmInsS_le12 (ps : List InstQ) : nmL nmInsS ps ≤ 3 * (ps.length + nmL InstQ.n ps) := by
  induction ps with
  | nil => simp [nmL]
  | cons p r ih =>
    have h1 := nmTxn_le p.batch
    have h2 := nmRound_le p.rounds
    simp only [nmL, List.map_cons, List.sum_cons, List.length_cons] at ih ⊢
    simp only [nmInsS, InstQ.n] at ih ⊢
    simp only [nmL] at h1 h2 ih ⊢
    omega
theorem nmNodS_le (ps : List NodeQ) : nmL nmNodS ps ≤ 3 * (ps.length + nmL NodeQ.n ps) := by
  induction ps with
  | nil => simp [nmL]
  | cons p r ih =>
    have h1 := nmTx9_le p.done
    have h2 := nmTx9_le p.tent
    have h3 := nmUs9_le p.undos
    simp only [nmL, List.map_cons, List.sum_cons, List.length_cons] at ih ⊢
    simp only [nmNodS, NodeQ.n, NodeQ.r, RepQ.n] at ih ⊢
    simp only [nmL] at h1 h2 h3 ih ⊢
    omega
theorem nmClu_le (p : CluQ) : nmClu p ≤ 3 * p.n := by
  obtain ⟨vo, ord, vm, mem⟩ := p
  have h1 := nmInsS_le12 ord
  have h2 := nmNodS_le mem
  simp only [nmClu, CluQ.n]
  omega
theorem mkClu_foot (c : Int) (p : CluQ) : cluK.foot (mkClu c p) = cluK.foot p := by
  obtain ⟨vo, ord, vm, mem⟩ := p
  show instK.fp vo (mkL mkInsS nmInsS c ord) ++ nodeK.fp vm (mkL mkNodS nmNodS (c + ((nmL nmInsS ord : Nat) : Int)) mem) = instK.fp vo ord ++ nodeK.fp vm mem
  rw [fp_mkL mkInsS_foot, fp_mkL mkNodS_foot]
theorem cluShape {p : CluQ} {c : Int} {w : World} (h : cluK.rd w (mkClu c p)) : (∃ a k, p.vo = .slice a p.ord.length k) ∧ (∃ a k, p.vm = .slice a p.mem.length k) := by
  obtain ⟨vo, ord, vm, mem⟩ := p
  obtain ⟨h0, h1⟩ : instK.At w vo (mkL mkInsS nmInsS c ord) ∧ nodeK.At w vm (mkL mkNodS nmNodS (c + ((nmL nmInsS ord : Nat) : Int)) mem) := h
  obtain ⟨a, k, e⟩ := h0.shape
  obtain ⟨a', k', e'⟩ := h1.shape
  rw [mkL_length] at e e'
  exact ⟨⟨a, k, e⟩, ⟨a', k', e'⟩⟩

set_option maxHeartbeats 4000000 in
theorem markCluster_k (p : CluQ) (c : Int) (w : World) (h : cluK.own w p) (hnd : (cluK.foot p).Nodup) (hl : CluQ.n p ≤ 1048576) (h0 : 0 ≤ c) (h1 : c ≤ 1000000000) :
    Calls Tryd.prog 12 #[.agg #[p.vo, p.vm], .int .i64 c] w fun e w' => e = .returned (.int .i64 (c + (nmClu p : Int))) ∧ cluK.own w' (mkClu c p) ∧ Out (cluK.foot p) w w' := by
  obtain ⟨vo, ord, vm, mem⟩ := p
  obtain ⟨o0, o1⟩ : instK.Own w vo ord ∧ nodeK.Own w vm mem := h
  obtain ⟨n0, n1, x0⟩ := List.nodup_append.1 (show (instK.fp vo ord ++ nodeK.fp vm mem).Nodup from hnd)
  have d01 : ∀ k ∈ nodeK.fp vm mem, k ∉ instK.fp vo ord := fun k hk hk2 => x0 k hk2 k hk rfl
  have d10 : ∀ k ∈ instK.fp vo ord, k ∉ nodeK.fp vm mem := fun k hk2 hk => x0 k hk2 k hk rfl
  clear hnd x0
  dsimp only [CluQ.n] at hl
  have t0 := nmInsS_le12 ord
  have t1 := nmNodS_le mem
  have hF0 : Hid (∀ {w w' : World}, Out (instK.fp vo ord) w w' → Out (cluK.foot ⟨vo, ord, vm, mem⟩) w w') := fun h => h.mono (fun k hk => List.mem_append_left _ hk)
  have hF1 : Hid (∀ {w w' : World}, Out (nodeK.fp vm mem) w w' → Out (cluK.foot ⟨vo, ord, vm, mem⟩) w w') := fun h => h.mono (fun k hk => List.mem_append_right _ hk)
  have hm0 := fun w h => markInstances_k vo ord c w h n0 (by omega) (by omega) (by omega)
  have hm1 := fun w h => markNodes_k vm mem (c + ((nmL nmInsS ord : Nat) : Int)) w h n1 (by omega) (by omega) (by omega)
  have e0 : ∀ c, instK.fp vo (mkL mkInsS nmInsS c ord) = instK.fp vo ord := fun c => fp_mkL mkInsS_foot _ _ _
  have HR : Hid (∀ w', instK.Own w' vo (mkL mkInsS nmInsS c ord) → nodeK.Own w' vm (mkL mkNodS nmNodS (c + ((nmL nmInsS ord : Nat) : Int)) mem) → cluK.own w' (mkClu c ⟨vo, ord, vm, mem⟩)) := fun w' a b => ⟨a, b⟩
  have HS : Hid ((c + ((nmL nmInsS ord : Nat) : Int) + ((nmL nmNodS mem : Nat) : Int) : Int) = c + (nmClu ⟨vo, ord, vm, mem⟩ : Int)) := show _ = _ by dsimp only [nmClu]; omega
  obtain ⟨a0, k0, rfl⟩ := o0.shape
  obtain ⟨a1, k1, rfl⟩ := o1.shape
  have B := Blk.new w 25 #[.slice a0 ord.length k0, .slice a1 mem.length k1]
  have hB : Below w.heap.size w (w.alloc (.cells #[.slice a0 ord.length k0, .slice a1 mem.length k1] 25)) := by go_grown
  have hlt0 := o0.lt
  have HB : Hid (w.heap.size ∉ instK.fp (.slice a0 ord.length k0) ord) := fun e => Nat.lt_irrefl _ (hlt0 _ e)
  clear hlt0 t0 t1
  replace o0 := o0.below hB
  replace o1 := o1.below hB
  have HU : Hid (Out (cluK.foot ⟨.slice a0 ord.length k0, ord, .slice a1 mem.length k1, mem⟩) w _) := Out.of_below hB
  clear hB
  generalize nmClu ⟨.slice a0 ord.length k0, ord, .slice a1 mem.length k1, mem⟩ = NR at *
  generalize mkClu c ⟨.slice a0 ord.length k0, ord, .slice a1 mem.length k1, mem⟩ = MR at *
  generalize ((nmL nmInsS ord : Nat) : Int) = C0 at *
  generalize ((nmL nmNodS mem : Nat) : Int) = C1 at *
  have p0 := B.cell 0 _ rfl
  go_enter Tryd.func12, Tryd.ntmps12
  go_wp2_with fail
  generalize w.alloc (.cells #[.slice a0 ord.length k0, .slice a1 mem.length k1] 25) = W at *
  clear p0
  refine (hm0 W o0).mono ?_
  rintro e w1 ⟨rfl, O0, u0⟩
  replace o1 := o1.out u0 d01
  replace B : Blk w1 _ _ _ := (u0.block _ B.lt HB.out).trans B
  have HV : Hid (Out (cluK.foot ⟨.slice a0 ord.length k0, ord, .slice a1 mem.length k1, mem⟩) w w1) := HU.out.trans (hF0.out u0)
  clear hm0 o0 u0 HU
  have q := B.cell 1 _ rfl
  go_wp2_with fail
  clear q
  refine (hm1 w1 o1).mono ?_
  rintro e w2 ⟨rfl, O1, u1⟩
  replace O0 := O0.out u1 (by rw [e0]; exact d10)
  have HU : Hid (Out (cluK.foot ⟨.slice a0 ord.length k0, ord, .slice a1 mem.length k1, mem⟩) w w2) := HV.out.trans (hF1.out u1)
  have R := HR.out w2 O0 O1
  clear B O0 O1 HB HR hF0 hF1 e0 HV hm1 o1 u1
  go_wp2
  go_ret
  exact ⟨by rw [HS.out]; rfl, R, HU.out⟩

set_option maxHeartbeats 4000000 in
theorem heldCluster_k (p : CluQ) (c : Int) (w : World) (h : cluK.rd w (mkClu c p)) (hl : CluQ.n p ≤ 1048576) (h0 : 0 ≤ c) (h1 : c ≤ 1000000000) :
    Calls Tryd.prog 13 #[.agg #[p.vo, p.vm], .int .i64 c] w fun e w' => e = .returned (.int .i64 (c + (nmClu p : Int))) ∧ Below w.heap.size w w' := by
  obtain ⟨vo, ord, vm, mem⟩ := p
  obtain ⟨⟨a0, k0, s0⟩, ⟨a1, k1, s1⟩⟩ := cluShape h
  dsimp only at s0 s1
  subst s0 s1
  obtain ⟨o0, o1⟩ : instK.At w (.slice a0 ord.length k0) (mkL mkInsS nmInsS c ord) ∧ nodeK.At w (.slice a1 mem.length k1) (mkL mkNodS nmNodS (c + ((nmL nmInsS ord : Nat) : Int)) mem) := h
  dsimp only [CluQ.n] at hl
  have t0 := nmInsS_le12 ord
  have t1 := nmNodS_le mem
  have hm0 := fun w h => heldInstances_k (.slice a0 ord.length k0) ord c w h (by omega) (by omega) (by omega)
  have hm1 := fun w h => heldNodes_k (.slice a1 mem.length k1) mem (c + ((nmL nmInsS ord : Nat) : Int)) w h (by omega) (by omega) (by omega)
  have HS : Hid ((c + ((nmL nmInsS ord : Nat) : Int) + ((nmL nmNodS mem : Nat) : Int) : Int) = c + (nmClu ⟨.slice a0 ord.length k0, ord, .slice a1 mem.length k1, mem⟩ : Int)) := show _ = _ by dsimp only [nmClu]; omega
  have B := Blk.new w 25 #[.slice a0 ord.length k0, .slice a1 mem.length k1]
  have hB : Below w.heap.size w (w.alloc (.cells #[.slice a0 ord.length k0, .slice a1 mem.length k1] 25)) := by go_grown
  clear t0 t1
  have z0 : 0 ≤ ((nmL nmInsS ord : Nat) : Int) := by omega
  have z1 : 0 ≤ ((nmL nmNodS mem : Nat) : Int) := by omega
  generalize nmClu ⟨.slice a0 ord.length k0, ord, .slice a1 mem.length k1, mem⟩ = NR at *
  generalize ((nmL nmInsS ord : Nat) : Int) = C0 at *
  generalize ((nmL nmNodS mem : Nat) : Int) = C1 at *
  have g0 : ¬ c + C0 < 0 := by omega
  have g1 : ¬ c + C0 + C1 < 0 := by omega
  have p0 := B.cell 0 _ rfl
  go_enter Tryd.func13, Tryd.ntmps13
  go_wp2_with fail
  generalize w.alloc (.cells #[.slice a0 ord.length k0, .slice a1 mem.length k1] 25) = W at *
  clear p0
  refine (hm0 W (o0.below hB)).mono ?_
  rintro e w1 ⟨rfl, hb⟩
  replace B := B.below hb
  replace hB := hB.trans (hb.mono hB.size)
  clear hb hm0
  have q := B.cell 1 _ rfl
  go_wp2_with fail
  clear q
  refine (hm1 w1 (o1.below hB)).mono ?_
  rintro e w2 ⟨rfl, hb⟩
  replace hB := hB.trans (hb.mono hB.size)
  clear hb hm1
  go_wp2
  go_ret
  exact ⟨by rw [HS.out]; rfl, hB⟩

set_option maxHeartbeats 4000000 in
theorem eqCR_k (co an : Int) (p p' : CluQ) (w : World) (h : cluK.rd w p) (h' : cluK.rd w p') (he : p.e = p'.e) (hl : CluQ.n p ≤ 1048576) :
    Calls Tryd.prog 6 #[.agg #[.int .i64 co, .int .i64 an, p.vo, p.vm], .agg #[.int .i64 co, .int .i64 an, p'.vo, p'.vm]] w fun e w' => e = .returned (.bool true) ∧ Below w.heap.size w w' := by
  have hm := fun w h h' => eqCluster_k p p' w h h' he hl
  have hr := fun (w' : World) hb => cluK.rd_below (w' := w') h hb
  have hr' := fun (w' : World) hb => cluK.rd_below (w' := w') h' hb
  obtain ⟨vo, ord, vm, mem⟩ := p
  obtain ⟨a0, k0, rfl⟩ : ∃ a c, vo = .slice a ord.length c := h.1.shape
  obtain ⟨a1, k1, rfl⟩ : ∃ a c, vm = .slice a mem.length c := h.2.shape
  obtain ⟨vo', ord', vm', mem'⟩ := p'
  obtain ⟨b0, m0, rfl⟩ : ∃ a c, vo' = .slice a ord'.length c := h'.1.shape
  obtain ⟨b1, m1, rfl⟩ : ∃ a c, vm' = .slice a mem'.length c := h'.2.shape
  dsimp only at hm
  clear he hl
  have hB : Below w.heap.size w ((w.alloc (.cells #[.int .i64 co, .int .i64 an, .slice a0 ord.length k0, .slice a1 mem.length k1] 27)).alloc (.cells #[.int .i64 co, .int .i64 an, .slice b0 ord'.length m0, .slice b1 mem'.length m1] 27)) := by go_grown
  have B := (Blk.new w 27 #[.int .i64 co, .int .i64 an, .slice a0 ord.length k0, .slice a1 mem.length k1]).below (w' := (w.alloc (.cells #[.int .i64 co, .int .i64 an, .slice a0 ord.length k0, .slice a1 mem.length k1] 27)).alloc (.cells #[.int .i64 co, .int .i64 an, .slice b0 ord'.length m0, .slice b1 mem'.length m1] 27)) (by go_grown)
  have B' := Blk.new (w.alloc (.cells #[.int .i64 co, .int .i64 an, .slice a0 ord.length k0, .slice a1 mem.length k1] 27)) 27 #[.int .i64 co, .int .i64 an, .slice b0 ord'.length m0, .slice b1 mem'.length m1]
  simp only [World.size_alloc] at B'
  obtain ⟨q0, q1, q2, q3⟩ := B.cel4
  have s0 := B'.cell 0 _ rfl
  have s1 := B'.cell 1 _ rfl
  have s2 := B'.cell 2 _ rfl
  have s3 := B'.cell 3 _ rfl
  have n0 : (co != co) = false := by simp
  have n1 : (an != an) = false := by simp
  go_enter Tryd.func6, Tryd.ntmps6
  go_wp2_with fail
  clear q0 q1 q2 q3 s0 s1 s2 s3 B B'
  have hr0 := hr _ hB
  have hr0' := hr' _ hB
  generalize ((w.alloc (.cells #[.int .i64 co, .int .i64 an, .slice a0 ord.length k0, .slice a1 mem.length k1] 27)).alloc (.cells #[.int .i64 co, .int .i64 an, .slice b0 ord'.length m0, .slice b1 mem'.length m1] 27)) = W at *
  refine (hm W hr0 hr0').mono ?_
  rintro e w3 ⟨rfl, hb⟩
  replace hB := hB.trans (hb.mono hB.size)
  go_wp2
  go_ret
  exact ⟨rfl, hB⟩

set_option maxHeartbeats 4000000 in
theorem markCR_k (co an : Int) (p : CluQ) (c : Int) (w : World) (h : cluK.own w p) (hnd : (cluK.foot p).Nodup) (hl : CluQ.n p ≤ 1048576) (h0 : 0 ≤ c) (h1 : c ≤ 1000000000) :
    Calls Tryd.prog 7 #[.agg #[.int .i64 co, .int .i64 an, p.vo, p.vm], .int .i64 c] w fun e w' => e = .returned (.int .i64 (c + (nmClu p : Int))) ∧ cluK.own w' (mkClu c p) ∧ Out (cluK.foot p) w w' := by
  have hm := fun w h => markCluster_k p c w h hnd hl h0 h1
  have hr := fun (w' : World) (hb : Below w.heap.size w w') => cluK.own_out (F := []) (w' := w') h (Out.of_below hb) (fun _ _ => by simp)
  generalize mkClu c p = M at *
  generalize nmClu p = NR at *
  generalize cluK.foot p = FT at *
  obtain ⟨vo, ord, vm, mem⟩ := p
  obtain ⟨a0, k0, rfl⟩ : ∃ a c, vo = .slice a ord.length c := h.1.shape
  obtain ⟨a1, k1, rfl⟩ : ∃ a c, vm = .slice a mem.length c := h.2.shape
  dsimp only at hm
  have hB : Below w.heap.size w (w.alloc (.cells #[.int .i64 co, .int .i64 an, .slice a0 ord.length k0, .slice a1 mem.length k1] 27)) := by go_grown
  have B := Blk.new w 27 #[.int .i64 co, .int .i64 an, .slice a0 ord.length k0, .slice a1 mem.length k1]
  obtain ⟨q0, q1, q2, q3⟩ := B.cel4
  go_enter Tryd.func7, Tryd.ntmps7
  go_wp2_with fail
  clear q0 q1 q2 q3 B
  have hr0 := hr _ hB
  generalize w.alloc (.cells #[.int .i64 co, .int .i64 an, .slice a0 ord.length k0, .slice a1 mem.length k1] 27) = W at *
  refine (hm W hr0).mono ?_
  rintro e w1 ⟨rfl, O, u⟩
  go_wp2
  go_ret
  exact ⟨rfl, O, (Out.of_below hB).trans u⟩

set_option maxHeartbeats 4000000 in
theorem heldCR_k (co an : Int) (p : CluQ) (c : Int) (w : World) (h : cluK.rd w (mkClu c p)) (hl : CluQ.n p ≤ 1048576) (h0 : 0 ≤ c) (h1 : c ≤ 1000000000) :
    Calls Tryd.prog 8 #[.agg #[.int .i64 co, .int .i64 an, p.vo, p.vm], .int .i64 c] w fun e w' => e = .returned (.int .i64 (c + (nmClu p : Int))) ∧ Below w.heap.size w w' := by
  have hm := fun w h => heldCluster_k p c w h hl h0 h1
  have hr := fun (w' : World) hb => cluK.rd_below (w' := w') h hb
  have hs := cluShape h
  generalize mkClu c p = M at *
  generalize nmClu p = NR at *
  clear hl
  obtain ⟨vo, ord, vm, mem⟩ := p
  obtain ⟨⟨a0, k0, s0⟩, ⟨a1, k1, s1⟩⟩ := hs
  dsimp only at s0 s1
  subst s0 s1
  dsimp only at hm
  have hB : Below w.heap.size w (w.alloc (.cells #[.int .i64 co, .int .i64 an, .slice a0 ord.length k0, .slice a1 mem.length k1] 27)) := by go_grown
  have B := Blk.new w 27 #[.int .i64 co, .int .i64 an, .slice a0 ord.length k0, .slice a1 mem.length k1]
  obtain ⟨q0, q1, q2, q3⟩ := B.cel4
  have hg : ¬ c + (NR : Int) < 0 := by omega
  go_enter Tryd.func8, Tryd.ntmps8
  go_wp2_with fail
  clear q0 q1 q2 q3 B
  have hr0 := hr _ hB
  generalize w.alloc (.cells #[.int .i64 co, .int .i64 an, .slice a0 ord.length k0, .slice a1 mem.length k1] 27) = W at *
  refine (hm W hr0).mono ?_
  rintro e w1 ⟨rfl, hb⟩
  replace hB := hB.trans (hb.mono hB.size)
  go_wp2
  go_ret
  exact ⟨rfl, hB⟩

end Go.Proofs.YtkklhbofeghnbaaDoor
