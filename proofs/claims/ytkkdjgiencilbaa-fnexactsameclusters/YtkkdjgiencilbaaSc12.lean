/- SameClusters, of the program and of its model. No condition. -/
import Derived.Test.YtkkdjgiencilbaaJC
import Derived.Test.YtkkdjgiencilbaaSo7
namespace Go.Proofs.Ytkkdjgiencilbaa
open Go.RowKit
open Go.BigFrame
set_option linter.unusedVariables false
set_option linter.unusedSimpArgs false
set_option maxRecDepth 100000

def nodNo : NodeE := ⟨0, 0, ⟨[], [], [], [], []⟩⟩
def sameNd (x y : NodeE) : Bool := sameN x.kn x.sf x.rep y.kn y.sf y.rep
def sameNs : List NodeE → List NodeE → Bool
  | [], [] => true
  | x :: r, y :: s => sameNd x y && sameNs r s
  | _, _ => false
def sameC (x y : CluE) : Bool := sameJs x.ord y.ord && sameNs x.mem y.mem
theorem nod_get (xs : List NodeQ) (k : Nat) (hk : k < xs.length) : (xs.map NodeQ.e).getD k nodNo = NodeQ.e xs[k] := by simp [List.getD, hk]
theorem isSameMember_l (p q : NodeQ) (w : World) (h : nodeK.rd w p) (h' : nodeK.rd w q) (hl : p.n ≤ 1048576) (hl' : q.n ≤ 1048576) :
    Calls Try.prog 35 #[.agg #[.int .i64 p.kn, .int .i64 p.sf, p.vd, p.vb, p.vt, p.vu, p.vn], .agg #[.int .i64 q.kn, .int .i64 q.sf, q.vd, q.vb, q.vt, q.vu, q.vn]] w fun e w' => e = .returned (.bool (sameNd p.e q.e)) ∧ Below w.heap.size w w' :=
  isSameMember_any p.kn p.sf p.r q.kn q.sf q.r w h h' hl hl'
theorem l11Same_l (b b' o o' : Nat) (p q : NodeQ) (w : World) (hP : Rng w b o [.int .i64 p.kn, .int .i64 p.sf, p.vd, p.vb, p.vt, p.vu, p.vn]) (hQ : Rng w b' o' [.int .i64 q.kn, .int .i64 q.sf, q.vd, q.vb, q.vt, q.vu, q.vn]) (h : nodeK.rd w p) (h' : nodeK.rd w q) (hl : p.n ≤ 1048576) (hl' : q.n ≤ 1048576) :
    Calls Try.prog 58 #[.pointer (some ⟨b, o, none⟩), .pointer (some ⟨b', o', none⟩)] w fun e w' => e = .returned (.bool (sameNd p.e q.e)) ∧ Below w.heap.size w w' :=
  l11Same_g b b' o o' p.kn p.sf p.r q.kn q.sf q.r w hP hQ h h' hl hl'

set_option maxHeartbeats 4000000 in
theorem equalN_any (v v' : Value) (xs ys : List NodeQ) (w : World) (h : nodeK.At w v xs) (h' : nodeK.At w v' ys) (hl : xs.length + nmL NodeQ.n xs ≤ 1048576) (hl' : ys.length + nmL NodeQ.n ys ≤ 1048576) :
    Calls Try.prog 34 #[v, v', .func (.func 35) #[] #[]] w fun e w' => e = .returned (.bool (sameNs (xs.map NodeQ.e) (ys.map NodeQ.e))) ∧ Below w.heap.size w w' := by
  obtain ⟨a, cap, rfl⟩ := h.shape
  obtain ⟨a', cap', rfl⟩ := h'.shape
  by_cases hlen : xs.length = ys.length
  case neg =>
    have E : sameNs (xs.map NodeQ.e) (ys.map NodeQ.e) = false := same_len (f := sameNd) rfl (fun _ _ _ _ => rfl) (fun _ _ => rfl) (fun _ _ => rfl) _ _ (by simpa using hlen)
    rw [E]
    have hd : ((xs.length : Int) != (ys.length : Int)) = true := by simp; omega
    go_enter Try.func34, Try.ntmps34
    go_wp2
    go_ret
    exact ⟨rfl, Below.refl _ _⟩
  case pos =>
    have hd : ((xs.length : Int) != (ys.length : Int)) = false := by simp [hlen]
    have HL : Hid (xs.length = ys.length) := hlen
    have HM : Hid ((xs.map NodeQ.e).length = (ys.map NodeQ.e).length) := show _ = _ by simpa using hlen
    clear hlen
    generalize hE : sameNs (xs.map NodeQ.e) (ys.map NodeQ.e) = E
    have HE : Hid (sameNs (xs.map NodeQ.e) (ys.map NodeQ.e) = E) := hE
    clear hE
    go_enter Try.func34, Try.ntmps34
    go_wp2
    go_loopw [17] (fun i wr => ∃ k : Nat, k ≤ xs.length ∧ i = .int .i64 k ∧ Below w.heap.size w wr ∧ Hid (∀ j, j < k → sameNd ((xs.map NodeQ.e).getD j nodNo) ((ys.map NodeQ.e).getD j nodNo) = true)) (fun i _ => xs.length - (intOf i).toNat)
    case atStart => exact ⟨0, Nat.zero_le _, rfl, Below.refl _ _, fun j hj => absurd hj (Nat.not_lt_zero _)⟩
    case round =>
      obtain ⟨k, hk, rfl, hb, HA⟩ := hrel
      by_cases hlt : k < xs.length
      · have hlt' : k < ys.length := by have := HL.out; omega
        obtain ⟨b, off, rfl, hbs, hc, hrd⟩ := (h.below hb).cell (by decide) k hlt
        obtain ⟨b', off', rfl, hbs', hd2, hrd'⟩ := (h'.below hb).cell (by decide) k hlt'
        have hc' : ∀ j x, (nodeK.cells xs[k])[j]? = some x → wr.cell? ⟨b, off + k * 7 + j, none⟩ = some x := hc
        have hd' : ∀ j x, (nodeK.cells ys[k])[j]? = some x → wr.cell? ⟨b', off' + k * 7 + j, none⟩ = some x := hd2
        have c0 := hc' 0 (.int .i64 xs[k].kn) rfl
        have c1 := hc' 1 (.int .i64 xs[k].sf) rfl
        have c2 := hc' 2 (xs[k].vd) rfl
        have c3 := hc' 3 (xs[k].vb) rfl
        have c4 := hc' 4 (xs[k].vt) rfl
        have c5 := hc' 5 (xs[k].vu) rfl
        have c6 := hc' 6 (xs[k].vn) rfl
        have d0 := hd' 0 (.int .i64 ys[k].kn) rfl
        have d1 := hd' 1 (.int .i64 ys[k].sf) rfl
        have d2 := hd' 2 (ys[k].vd) rfl
        have d3 := hd' 3 (ys[k].vb) rfl
        have d4 := hd' 4 (ys[k].vt) rfl
        have d5 := hd' 5 (ys[k].vu) rfl
        have d6 := hd' 6 (ys[k].vn) rfl
        have n1 := nm_le NodeQ.n xs k hlt
        have n2 := nm_le NodeQ.n ys k hlt'
        have HY : Hid (sameNd (NodeQ.e xs[k]) (NodeQ.e ys[k]) = false → E = false) := fun hx => by
          rw [← HE.out]
          exact same_bad (f := sameNd) nodNo (fun _ _ _ _ => rfl) _ _ k HM.out (by simpa using hlt) (by rw [nod_get xs k hlt, nod_get ys k hlt']; exact hx)
        have HN : Hid (sameNd (NodeQ.e xs[k]) (NodeQ.e ys[k]) = true → ∀ j, j < k + 1 → sameNd ((xs.map NodeQ.e).getD j nodNo) ((ys.map NodeQ.e).getD j nodNo) = true) := fun hx j hj => by
          by_cases hjk : j = k
          · subst hjk
            rw [nod_get xs j hlt, nod_get ys j hlt']
            exact hx
          · exact HA.out j (by omega)
        have hq0 := isSameMember_l xs[k] ys[k]
        have hq := fun w f1 f2 => hq0 w f1 f2 (by omega) (by omega)
        clear hq0
        have hal : ∀ (o : Obj) (j : Nat), (wr.alloc o).cell? ⟨b', j, none⟩ = wr.cell? ⟨b', j, none⟩ := fun o j => (show Below wr.heap.size wr (wr.alloc o) by go_grown).cell (p := ⟨b', j, none⟩) hbs'
        clear HA hc hc' hd2 hd'
        generalize xs[k] = p at *
        generalize ys[k] = q at *
        generalize sameNd (NodeQ.e p) (NodeQ.e q) = X at *
        obtain ⟨kn_1, sf_1, vd_1, done_1, vb_1, base_1, vt_1, tent_1, vu_1, undos_1, vn_1, now_1⟩ := p
        obtain ⟨a0_1, k0_1, rfl⟩ : ∃ a c, vd_1 = .slice a done_1.length c := hrd.1.shape
        obtain ⟨a1_1, k1_1, rfl⟩ : ∃ a c, vb_1 = .slice a base_1.length c := hrd.2.1.shape
        obtain ⟨a2_1, k2_1, rfl⟩ : ∃ a c, vt_1 = .slice a tent_1.length c := hrd.2.2.1.shape
        obtain ⟨a3_1, k3_1, rfl⟩ : ∃ a c, vu_1 = .slice a undos_1.length c := hrd.2.2.2.1.shape
        obtain ⟨a4_1, k4_1, rfl⟩ : ∃ a c, vn_1 = .slice a now_1.length c := hrd.2.2.2.2.shape
        obtain ⟨kn_2, sf_2, vd_2, done_2, vb_2, base_2, vt_2, tent_2, vu_2, undos_2, vn_2, now_2⟩ := q
        obtain ⟨a0_2, k0_2, rfl⟩ : ∃ a c, vd_2 = .slice a done_2.length c := hrd'.1.shape
        obtain ⟨a1_2, k1_2, rfl⟩ : ∃ a c, vb_2 = .slice a base_2.length c := hrd'.2.1.shape
        obtain ⟨a2_2, k2_2, rfl⟩ : ∃ a c, vt_2 = .slice a tent_2.length c := hrd'.2.2.1.shape
        obtain ⟨a3_2, k3_2, rfl⟩ : ∃ a c, vu_2 = .slice a undos_2.length c := hrd'.2.2.2.1.shape
        obtain ⟨a4_2, k4_2, rfl⟩ : ∃ a c, vn_2 = .slice a now_2.length c := hrd'.2.2.2.2.shape
        dsimp only at c0 c1 c2 c3 c4 c5 c6 d0 d1 d2 d3 d4 d5 d6 hq
        rw [Nat.add_zero] at c0 d0
        go_wp2_with fail
        refine (hq _ (nodeK.rd_below hrd (by go_grown)) (nodeK.rd_below hrd' (by go_grown))).mono ?_
        rintro e w2 ⟨rfl, hb2⟩
        have hb3 := below_from (below_from hb (by go_grown)) hb2
        clear hb2 hal c0 c1 c2 c3 c4 c5 c6 d0 d1 d2 d3 d4 d5 d6 hrd hrd' hq
        cases X with
        | false =>
          have E1 : Hid (E = false) := HY.out rfl
          clear HY HN HE
          go_wp2
          go_ret
          exact ⟨by rw [E1.out]; rfl, hb3⟩
        | true =>
          have R := HN.out rfl
          have HR : Hid _ := R
          clear HY HN R
          go_wp2
          go_roundw
          case rel => exact ⟨k + 1, by omega, by go_num, hb3, HR.out⟩
          case measure => simp [intOf]; omega
      · have E1 : Hid (E = true) := by rw [← HE.out]; exact same_all (f := sameNd) nodNo rfl (fun _ _ _ _ => rfl) _ _ HM.out (fun j hj => HA.out j (by simpa using (by simpa using hj : j < xs.length) |> fun h => Nat.lt_of_lt_of_le h (by omega)))
        clear HA HE
        go_wp2
        go_ret
        exact ⟨by rw [E1.out]; rfl, hb⟩

set_option maxHeartbeats 4000000 in
theorem implSameClusters_any (p q : CluQ) (w : World) (h : cluK.rd w p) (h' : cluK.rd w q) (hl : p.n ≤ 1048576) (hl' : q.n ≤ 1048576) :
    Calls Try.prog 10 #[.agg #[p.vo, p.vm], .agg #[q.vo, q.vm]] w fun e w' => e = .returned (.bool (sameC p.e q.e)) ∧ Below w.heap.size w w' := by
  obtain ⟨vo, ord, vm, mem⟩ := p
  obtain ⟨vo', ord', vm', mem'⟩ := q
  dsimp only [CluQ.n] at hl hl'
  obtain ⟨h0, h1⟩ : instK.At w vo ord ∧ nodeK.At w vm mem := h
  obtain ⟨h0', h1'⟩ : instK.At w vo' ord' ∧ nodeK.At w vm' mem' := h'
  have hs := fun w h h' => implSameOrders_any vo vo' ord ord' w h h' (by omega) (by omega)
  have hn := fun w h h' => equalN_any vm vm' mem mem' w h h' (by omega) (by omega)
  have HE : Hid (sameC (CluQ.e ⟨vo, ord, vm, mem⟩) (CluQ.e ⟨vo', ord', vm', mem'⟩) = (sameJs (ord.map InstQ.e) (ord'.map InstQ.e) && sameNs (mem.map NodeQ.e) (mem'.map NodeQ.e))) := show _ = _ from rfl
  generalize sameC (CluQ.e ⟨vo, ord, vm, mem⟩) (CluQ.e ⟨vo', ord', vm', mem'⟩) = E at *
  generalize sameJs (ord.map InstQ.e) (ord'.map InstQ.e) = X at *
  generalize sameNs (mem.map NodeQ.e) (mem'.map NodeQ.e) = Y at *
  obtain ⟨a0, k0, rfl⟩ := h0.shape
  obtain ⟨a0', k0', rfl⟩ := h0'.shape
  obtain ⟨a1, k1, rfl⟩ := h1.shape
  obtain ⟨a1', k1', rfl⟩ := h1'.shape
  dsimp only
  have hB : Below w.heap.size w ((w.alloc (.cells #[.slice a0 ord.length k0, .slice a1 mem.length k1] 31)).alloc (.cells #[.slice a0' ord'.length k0', .slice a1' mem'.length k1'] 31)) := by go_grown
  have B := (Blk.new w 31 #[.slice a0 ord.length k0, .slice a1 mem.length k1]).below (w' := ((w.alloc (.cells #[.slice a0 ord.length k0, .slice a1 mem.length k1] 31)).alloc (.cells #[.slice a0' ord'.length k0', .slice a1' mem'.length k1'] 31))) (by go_grown)
  have B' := Blk.new (w.alloc (.cells #[.slice a0 ord.length k0, .slice a1 mem.length k1] 31)) 31 #[.slice a0' ord'.length k0', .slice a1' mem'.length k1']
  simp only [World.size_alloc] at B'
  have c0 := B.cell 0 _ rfl
  have d0 := B'.cell 0 _ rfl
  go_enter Try.func10, Try.ntmps10
  go_wp2_with fail
  clear c0 d0
  generalize ((w.alloc (.cells #[.slice a0 ord.length k0, .slice a1 mem.length k1] 31)).alloc (.cells #[.slice a0' ord'.length k0', .slice a1' mem'.length k1'] 31)) = W at *
  refine (hs W (h0.below hB) (h0'.below hB)).mono ?_
  rintro e w1 ⟨rfl, hb⟩
  replace hB := hB.trans (hb.mono hB.size)
  replace B := B.below hb
  replace B' := B'.below hb
  clear hb hs
  cases X with
  | false =>
    go_wp2
    go_ret
    exact ⟨by rw [HE.out]; rfl, hB⟩
  | true =>
    have c1 := B.cell 1 _ rfl
    have d1 := B'.cell 1 _ rfl
    go_wp2_with fail
    clear c1 d1
    refine (hn w1 (h1.below hB) (h1'.below hB)).mono ?_
    rintro e w2 ⟨rfl, hb⟩
    replace hB := hB.trans (hb.mono hB.size)
    go_wp2
    go_ret
    exact ⟨by rw [HE.out]; rfl, hB⟩

theorem nodes_len (xs ys : List NodeE) (h : xs.length ≠ ys.length) : sameNs xs ys = false := same_len (f := sameNd) rfl (fun _ _ _ _ => rfl) (fun _ _ => rfl) (fun _ _ => rfl) _ _ h

set_option maxHeartbeats 8000000 in
theorem l12Same_any (b b' : Nat) (p q : CluQ) (w : World) (hP : Blk w b 31 #[p.vo, p.vm]) (hQ : Blk w b' 31 #[q.vo, q.vm]) (h : cluK.rd w p) (h' : cluK.rd w q) (hl : p.n ≤ 1048576) (hl' : q.n ≤ 1048576) :
    Calls Try.prog 30 #[.pointer (some ⟨b, 0, none⟩), .pointer (some ⟨b', 0, none⟩)] w fun e w' => e = .returned (.bool (sameC p.e q.e)) ∧ Below w.heap.size w w' := by
  obtain ⟨vo, ord, vm, mem⟩ := p
  obtain ⟨vo', ord', vm', mem'⟩ := q
  dsimp only [CluQ.n] at hl hl'
  obtain ⟨h0, h1⟩ : instK.At w vo ord ∧ nodeK.At w vm mem := h
  obtain ⟨h0', h1'⟩ : instK.At w vo' ord' ∧ nodeK.At w vm' mem' := h'
  dsimp only at hP hQ
  have hs := fun w h h' => specSameOrders_any vo vo' ord ord' w h h' (by omega) (by omega)
  have HE : Hid (sameC (CluQ.e ⟨vo, ord, vm, mem⟩) (CluQ.e ⟨vo', ord', vm', mem'⟩) = (sameJs (ord.map InstQ.e) (ord'.map InstQ.e) && sameNs (mem.map NodeQ.e) (mem'.map NodeQ.e))) := show _ = _ from rfl
  generalize sameC (CluQ.e ⟨vo, ord, vm, mem⟩) (CluQ.e ⟨vo', ord', vm', mem'⟩) = E at *
  generalize sameJs (ord.map InstQ.e) (ord'.map InstQ.e) = X at *
  obtain ⟨a0, k0, rfl⟩ := h0.shape
  obtain ⟨a0', k0', rfl⟩ := h0'.shape
  obtain ⟨a1, k1, rfl⟩ := h1.shape
  obtain ⟨a1', k1', rfl⟩ := h1'.shape
  obtain ⟨c0, c1⟩ := hP.lts2
  obtain ⟨d0, d1⟩ := hQ.lts2
  have hW : Below w.heap.size w w.drew := (Below.refl _ _).drew
  have hnn : Nonempty (Lat w) := ⟨⟨w, Below.refl _ _⟩⟩
  have HL : Hid (mem.length + nmL NodeQ.n mem ≤ 1048576 ∧ mem'.length + nmL NodeQ.n mem' ≤ 1048576) := ⟨by omega, by omega⟩
  clear hl hl'
  go_enter Try.func30, Try.ntmps30
  go_wp2_with fail
  refine text_begin (S := fun w' => ∃ u : Lat w, w' = u.val) (by kernel_rfl) ?_
  refine sgr [(0, 8)] 15 (by kernel_rfl) ⟨⟨_, hW⟩, rfl⟩ ?_
  simp only [pkE]
  repeat go_big_quiet_step (fail)
  refine wpQuiet_nil ?_
  refine cla 8 (some 14) 57 #[.slice a0 ord.length k0, .slice a0' ord'.length k0'] 14 (by kernel_rfl) ?_
  refine (hs _ (h0.below hW) (h0'.below hW)).mono ?_
  rintro e w9 ⟨rfl, hb9⟩
  replace hW := hW.trans (hb9.mono hW.size)
  clear hb9
  refine ⟨_, rfl, ⟨⟨_, hW⟩, rfl⟩, ?_⟩
  simp only [Act.put, pjE]
  cases X with
  | false =>
    have E1 : Hid (E = false) := show _ = _ by rw [HE.out]; rfl
    refine sgr [(9, 6)] 8 (by kernel_rfl) ⟨⟨_, hW⟩, rfl⟩ ?_
    simp only [pkE]
    repeat go_big_quiet_step (fail)
    refine wpQuiet_nil ?_
    refine ska 15 (some 21) 7 (by kernel_rfl) ⟨⟨_, hW⟩, rfl⟩ ?_
    simp only [Act.put, pjE]
    refine sgr [(16, 4)] 3 (by kernel_rfl) ⟨⟨_, hW⟩, rfl⟩ ?_
    simp only [pkE]
    repeat go_big_quiet_step (fail)
    refine wpQuiet_nil ?_
    refine ska 20 (some 26) 2 (by kernel_rfl) ⟨⟨_, hW⟩, rfl⟩ ?_
    simp only [Act.put, pjE]
    refine sgr [(21, 2)] 0 (by kernel_rfl) ⟨⟨_, hW⟩, rfl⟩ ?_
    simp only [pkE]
    repeat go_big_quiet_step (fail)
    refine wpQuiet_nil ?_
    refine text_end (by kernel_rfl) ?_
    clear c0 c1 d0 d1 hnn hs HE
    go_wp2
    go_ret
    exact ⟨by rw [E1.out]; rfl, hW⟩
  | true =>
    have HE2 : Hid (E = sameNs (mem.map NodeQ.e) (mem'.map NodeQ.e)) := show _ = _ by rw [HE.out]; rfl
    clear HE
    refine sgr [(9, 6)] 8 (by kernel_rfl) ⟨⟨_, hW⟩, rfl⟩ ?_
    simp only [pkE]
    repeat go_big_quiet_step (fail)
    refine wpQuiet_nil ?_
    refine qta 15 (some 21) (.int .i64 (mem.length : Nat)) 7 (by kernel_rfl) (fun u _ => by kernel_rfl) ⟨⟨_, hW⟩, rfl⟩ ?_
    simp only [Act.put, pjE]
    refine sgr [(16, 4)] 3 (by kernel_rfl) ⟨⟨_, hW⟩, rfl⟩ ?_
    simp only [pkE]
    repeat go_big_quiet_step (fail)
    refine wpQuiet_nil ?_
    refine qta 20 (some 26) (.int .i64 (mem'.length : Nat)) 2 (by kernel_rfl) (fun u _ => by kernel_rfl) ⟨⟨_, hW⟩, rfl⟩ ?_
    simp only [Act.put, pjE]
    by_cases hlen : mem.length = mem'.length
    case neg =>
      have E1 : Hid (E = false) := show _ = _ by rw [HE2.out]; exact nodes_len _ _ (by simpa using hlen)
      have hd : ((mem.length : Int) != (mem'.length : Int)) = true := by simp; omega
      refine sgr [(21, 2)] 0 (by kernel_rfl) ⟨⟨_, hW⟩, rfl⟩ ?_
      simp only [pkE]
      repeat go_big_quiet_step (fail)
      refine wpQuiet_nil ?_
      refine text_end (by kernel_rfl) ?_
      clear c0 c1 d0 d1 hnn hs HE2 hlen
      go_wp2
      go_ret
      exact ⟨by rw [E1.out]; rfl, hW⟩
    have hd : ((mem.length : Int) != (mem'.length : Int)) = false := by simp [hlen]
    have HLN : Hid (mem.length = mem'.length) := hlen
    have HM : Hid ((mem.map NodeQ.e).length = (mem'.map NodeQ.e).length) := show _ = _ by simpa using hlen
    clear hlen
    refine sgr [(21, 2)] 0 (by kernel_rfl) ⟨⟨_, hW⟩, rfl⟩ ?_
    simp only [pkE]
    repeat go_big_quiet_step (fail)
    refine wpQuiet_nil ?_
    refine text_end (by kernel_rfl) ?_
    clear c0 c1 d0 d1 hnn hs hd
    rename_i w9
    have q1 := (hP.below hW).cell 1 _ rfl
    go_wp2
    clear q1
    go_loopw [5] (fun i wr => ∃ k : Nat, k ≤ mem.length ∧ i = .int .i64 k ∧ Below w.heap.size w wr ∧ Hid (∀ j, j < k → sameNd ((mem.map NodeQ.e).getD j nodNo) ((mem'.map NodeQ.e).getD j nodNo) = true)) (fun i _ => mem.length - (intOf i).toNat)
    case atStart => exact ⟨0, Nat.zero_le _, rfl, hW, fun j hj => absurd hj (Nat.not_lt_zero _)⟩
    case round =>
      clear hW
      obtain ⟨k, hk, rfl, hb, HA⟩ := hrel
      have p1 := (hP.below hb).cell 1 _ rfl
      by_cases hlt : k < mem.length
      · have hlt' : k < mem'.length := by have := HLN.out; omega
        obtain ⟨bb, off, rfl, hbs, hc, hrd⟩ := (h1.below hb).cell (by decide) k hlt
        obtain ⟨bb', off', rfl, hbs', hc', hrd'⟩ := (h1'.below hb).cell (by decide) k hlt'
        have R1 : Rng wr bb (off + k * 7) [.int .i64 mem[k].kn, .int .i64 mem[k].sf, mem[k].vd, mem[k].vb, mem[k].vt, mem[k].vu, mem[k].vn] := ⟨hbs, hc⟩
        have R2 : Rng wr bb' (off' + k * 7) [.int .i64 mem'[k].kn, .int .i64 mem'[k].sf, mem'[k].vd, mem'[k].vb, mem'[k].vt, mem'[k].vu, mem'[k].vn] := ⟨hbs', hc'⟩
        have n1 := nm_le NodeQ.n mem k hlt
        have n2 := nm_le NodeQ.n mem' k hlt'
        have HY : Hid (sameNd (NodeQ.e mem[k]) (NodeQ.e mem'[k]) = false → E = false) := fun hx => by
          rw [HE2.out]
          exact same_bad (f := sameNd) nodNo (fun _ _ _ _ => rfl) _ _ k HM.out (by simpa using hlt) (by rw [nod_get mem k hlt, nod_get mem' k hlt']; exact hx)
        have HN : Hid (sameNd (NodeQ.e mem[k]) (NodeQ.e mem'[k]) = true → ∀ j, j < k + 1 → sameNd ((mem.map NodeQ.e).getD j nodNo) ((mem'.map NodeQ.e).getD j nodNo) = true) := fun hx j hj => by
          by_cases hjk : j = k
          · subst hjk
            rw [nod_get mem j hlt, nod_get mem' j hlt']
            exact hx
          · exact HA.out j (by omega)
        have hq0 := l11Same_l bb bb' (off + k * 7) (off' + k * 7) mem[k] mem'[k]
        have hq := fun w f1 f2 f3 f4 => hq0 w f1 f2 f3 f4 (by have := HL.out.1; omega) (by have := HL.out.2; omega)
        clear hq0 HA n1 n2 hc hc'
        generalize sameNd (NodeQ.e mem[k]) (NodeQ.e mem'[k]) = X at *
        generalize mem[k] = p at *
        generalize mem'[k] = q at *
        have hk2 : mem.length ≤ 1048576 := by have := HL.out.1; omega
        have hlti : (k : Int) < (mem.length : Int) := by omega
        have hlti' : (k : Int) < (mem'.length : Int) := by omega
        have hW : Below wr.heap.size wr wr.drew := (Below.refl _ _).drew
        have hnn : Nonempty (Lat wr) := ⟨⟨wr, Below.refl _ _⟩⟩
        have l1 := (hP.below hb).lat 1 _ rfl
        have l2 := (hQ.below hb).lat 1 _ rfl
        go_wp2_with fail
        clear p1
        refine text_begin (S := fun w' => ∃ u : Lat wr, w' = u.val) (by kernel_rfl) ?_
        cases X with
        | false =>
          have E1 : Hid (E = false) := HY.out rfl
          refine sgr [(0, 12)] 2 (by kernel_rfl) ⟨⟨_, hW⟩, rfl⟩ ?_
          simp only [pkE]
          repeat go_big_quiet_step (fail)
          refine wpQuiet_nil ?_
          refine cla 12 (some 50) 58 #[.pointer (some ⟨bb, off + k * 7, none⟩), .pointer (some ⟨bb', off' + k * 7, none⟩)] 1 (by kernel_rfl) ?_
          refine (hq _ (R1.below hW) (R2.below hW) (nodeK.rd_below hrd hW) (nodeK.rd_below hrd' hW)).mono ?_
          rintro e w9 ⟨rfl, hb9⟩
          replace hW := hW.trans (hb9.mono hW.size)
          clear hb9
          refine ⟨_, rfl, ⟨⟨_, hW⟩, rfl⟩, ?_⟩
          simp only [Act.put, pjE]
          refine sgr [(13, 1)] 0 (by kernel_rfl) ⟨⟨_, hW⟩, rfl⟩ ?_
          simp only [pkE]
          repeat go_big_quiet_step (fail)
          refine wpQuiet_nil ?_
          refine text_end (by kernel_rfl) ?_
          replace hb := hb.trans (hW.mono hb.size)
          clear HY HN HE2 hW hnn hq R1 R2 hrd hrd' l1 l2
          go_wp2
          go_ret
          exact ⟨by rw [E1.out]; rfl, hb⟩
        | true =>
          have R := HN.out rfl
          have HR : Hid _ := R
          clear R
          refine sgr [(0, 12)] 2 (by kernel_rfl) ⟨⟨_, hW⟩, rfl⟩ ?_
          simp only [pkE]
          repeat go_big_quiet_step (fail)
          refine wpQuiet_nil ?_
          refine cla 12 (some 50) 58 #[.pointer (some ⟨bb, off + k * 7, none⟩), .pointer (some ⟨bb', off' + k * 7, none⟩)] 1 (by kernel_rfl) ?_
          refine (hq _ (R1.below hW) (R2.below hW) (nodeK.rd_below hrd hW) (nodeK.rd_below hrd' hW)).mono ?_
          rintro e w9 ⟨rfl, hb9⟩
          replace hW := hW.trans (hb9.mono hW.size)
          clear hb9
          refine ⟨_, rfl, ⟨⟨_, hW⟩, rfl⟩, ?_⟩
          simp only [Act.put, pjE]
          refine sgr [(13, 1)] 0 (by kernel_rfl) ⟨⟨_, hW⟩, rfl⟩ ?_
          simp only [pkE]
          repeat go_big_quiet_step (fail)
          refine wpQuiet_nil ?_
          refine text_end (by kernel_rfl) ?_
          replace hb := hb.trans (hW.mono hb.size)
          clear HY HN hW hnn hq R1 R2 hrd hrd' l1 l2
          go_wp2
          go_roundw
          case rel => exact ⟨k + 1, by omega, by go_num, hb, HR.out⟩
          case measure => simp [intOf]; omega
      · have E1 : Hid (E = true) := by rw [HE2.out]; exact same_all (f := sameNd) nodNo rfl (fun _ _ _ _ => rfl) _ _ HM.out (fun j hj => HA.out j (by simpa using (by simpa using hj : j < mem.length) |> fun h => Nat.lt_of_lt_of_le h (by omega)))
        have hkl : k = mem.length := by omega
        subst hkl
        have hlti : ¬ (mem.length : Int) < (mem.length : Int) := by omega
        clear HA HE2
        go_wp2
        go_ret
        exact ⟨by rw [E1.out]; rfl, hb⟩

theorem specSameClusters_any (p q : CluQ) (w : World) (h : cluK.rd w p) (h' : cluK.rd w q) (hl : p.n ≤ 1048576) (hl' : q.n ≤ 1048576) :
    Calls Try.prog 8 #[.agg #[p.vo, p.vm], .agg #[q.vo, q.vm]] w fun e w' => e = .returned (.bool (sameC p.e q.e)) ∧ Below w.heap.size w w' := by
  have hs := fun b b' w hP hQ h h' => l12Same_any b b' p q w hP hQ h h' hl hl'
  have hr := fun (w' : World) hb => cluK.rd_below (w' := w') h hb
  have hr' := fun (w' : World) hb => cluK.rd_below (w' := w') h' hb
  generalize sameC p.e q.e = S at *
  obtain ⟨vo, ord, vm, mem⟩ := p
  obtain ⟨vo', ord', vm', mem'⟩ := q
  obtain ⟨a0, k0, rfl⟩ : ∃ a c, vo = .slice a ord.length c := h.1.shape
  obtain ⟨a0', k0', rfl⟩ : ∃ a c, vo' = .slice a ord'.length c := h'.1.shape
  obtain ⟨a1, k1, rfl⟩ : ∃ a c, vm = .slice a mem.length c := h.2.shape
  obtain ⟨a1', k1', rfl⟩ : ∃ a c, vm' = .slice a mem'.length c := h'.2.shape
  dsimp only at hs
  have hB : Below w.heap.size w ((w.alloc (.cells #[.slice a0 ord.length k0, .slice a1 mem.length k1] 31)).alloc (.cells #[.slice a0' ord'.length k0', .slice a1' mem'.length k1'] 31)) := by go_grown
  have B := (Blk.new w 31 #[.slice a0 ord.length k0, .slice a1 mem.length k1]).below (w' := ((w.alloc (.cells #[.slice a0 ord.length k0, .slice a1 mem.length k1] 31)).alloc (.cells #[.slice a0' ord'.length k0', .slice a1' mem'.length k1'] 31))) (by go_grown)
  have B' := Blk.new (w.alloc (.cells #[.slice a0 ord.length k0, .slice a1 mem.length k1] 31)) 31 #[.slice a0' ord'.length k0', .slice a1' mem'.length k1']
  simp only [World.size_alloc] at B'
  have hq := hs _ _ _ B B' (hr _ hB) (hr' _ hB)
  clear hs hr hr' hl hl' B B'
  dsimp only
  go_enter Try.func8, Try.ntmps8
  go_wp2_with fail
  refine hq.mono ?_
  rintro e w1 ⟨rfl, hb⟩
  replace hB := hB.trans (hb.mono hB.size)
  go_wp2
  go_ret
  exact ⟨rfl, hB⟩

end Go.Proofs.Ytkkdjgiencilbaa
