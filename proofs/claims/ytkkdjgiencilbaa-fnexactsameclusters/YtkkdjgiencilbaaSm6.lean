/- SameInstances, of the program and of its model: they answer alike. No condition. -/
import Derived.Test.YtkkdjgiencilbaaKI
import Derived.Test.YtkkdjgiencilbaaTxK9
import Derived.Test.YtkkdjgiencilbaaTxnSameI
import Derived.Test.YtkkdjgiencilbaaTxnSameS
import Derived.Test.YtkkdjgiencilbaaQuiet1
namespace Go.Proofs.Ytkkdjgiencilbaa
open Go.RowKit
open Go.BigFrame
set_option linter.unusedVariables false
set_option linter.unusedSimpArgs false

def sameZ (x y : Int) : Bool := x == y
def sameZs : List Int → List Int → Bool
  | [], [] => true
  | x :: r, y :: s => sameZ x y && sameZs r s
  | _, _ => false
def sameR (x y : RoundE) : Bool := sameZs x.rep y.rep && sameZs x.pro y.pro
def sameRs : List RoundE → List RoundE → Bool
  | [], [] => true
  | x :: r, y :: s => sameR x y && sameRs r s
  | _, _ => false
def sameJ (x y : InstE) : Bool := (x.has == y.has) && sameTs x.batch y.batch && sameRs x.rounds y.rounds && sameZs x.dec y.dec
def rndNo : RoundE := ⟨[], []⟩
theorem rnd_get (rs : List RoundQ) (r : Nat) (hr : r < rs.length) : (rs.map RoundQ.e).getD r rndNo = RoundQ.e rs[r] := by simp [List.getD, hr]

set_option maxHeartbeats 2000000 in
theorem equalZ_any (a a' : Option Addr) (cap cap' : Nat) (xs ys : List Int) (w : World) (h : Row .i64 w a xs) (h' : Row .i64 w a' ys) (hl : xs.length ≤ 1048576) (hl' : ys.length ≤ 1048576) :
    Calls Try.prog 89 #[.slice a xs.length cap, .slice a' ys.length cap'] w fun e w' => e = .returned (.bool (sameZs xs ys)) ∧ Below w.heap.size w w' := by
  by_cases hlen : xs.length = ys.length
  case neg =>
    have E : sameZs xs ys = false := same_len (f := sameZ) rfl (fun _ _ _ _ => rfl) (fun _ _ => rfl) (fun _ _ => rfl) xs ys hlen
    rw [E]
    have hd : ((xs.length : Int) != (ys.length : Int)) = true := by simp; omega
    go_enter Try.func89, Try.ntmps89
    go_wp2
    go_ret
    exact ⟨rfl, Below.refl _ _⟩
  case pos =>
    have hd : ((xs.length : Int) != (ys.length : Int)) = false := by simp [hlen]
    have HL : Hid (xs.length = ys.length) := hlen
    clear hlen
    go_enter Try.func89, Try.ntmps89
    go_wp2
    go_loopw [13] (fun i wr => ∃ k m : Nat, k ≤ xs.length ∧ i = .int .i64 k ∧ wr = w.drewN m ∧ Hid (∀ j, j < k → sameZ (xs.getD j 0) (ys.getD j 0) = true)) (fun i _ => xs.length - (intOf i).toNat)
    case atStart => exact ⟨0, 0, Nat.zero_le _, rfl, rfl, fun j hj => absurd hj (Nat.not_lt_zero _)⟩
    case round =>
      obtain ⟨k, m, hk, rfl, rfl, HA⟩ := hrel
      by_cases hlt : k < xs.length
      · have hlt' : k < ys.length := by have := HL.out; omega
        obtain ⟨b, off, rfl, hbs, hc0⟩ := h k hlt
        obtain ⟨b', off', rfl, hbs', hd0⟩ := h' k hlt'
        cases hs : sameZ (xs.getD k 0) (ys.getD k 0)
        case false =>
          have E : Hid (sameZs xs ys = false) := same_bad (f := sameZ) 0 (fun _ _ _ _ => rfl) xs ys k HL.out hlt hs
          have hr : (xs.getD k 0 != ys.getD k 0) = true := by
            unfold sameZ at hs
            simpa using hs
          clear HA hs
          generalize xs.getD k 0 = z at hc0 hr
          generalize ys.getD k 0 = z' at hd0 hr
          go_wp2
          go_quiet (fail)
          go_wp2
          go_ret
          rw [E.out]
          exact ⟨rfl, ⟨rfl, rfl, rfl, Nat.le_refl _, fun _ _ => rfl⟩⟩
        case true =>
          have HB : Hid (∀ j, j < k + 1 → sameZ (xs.getD j 0) (ys.getD j 0) = true) := by
            intro j hj
            by_cases hjk : j = k
            · subst hjk; exact hs
            · exact HA.out j (by omega)
          have hr : (xs.getD k 0 != ys.getD k 0) = false := by
            unfold sameZ at hs
            simpa using hs
          clear HA hs
          generalize xs.getD k 0 = z at hc0 hr
          generalize ys.getD k 0 = z' at hd0 hr
          go_wp2
          go_quiet (fail)
          go_wp2
          go_roundw
          case rel => exact ⟨k + 1, _, by omega, by go_num, rfl, HB⟩
          case measure => simp [intOf]; omega
      · have E : Hid (sameZs xs ys = true) := same_all (f := sameZ) 0 rfl (fun _ _ _ _ => rfl) xs ys HL.out (fun j hj => HA.out j (by omega))
        clear HA
        go_wp2
        go_ret
        rw [E.out]
        exact ⟨rfl, ⟨rfl, rfl, rfl, Nat.le_refl _, fun _ _ => rfl⟩⟩

set_option maxHeartbeats 2000000 in
theorem l1Same_any (a a' : Option Addr) (cap cap' : Nat) (xs ys : List Int) (w : World) (h : Row .i64 w a xs) (h' : Row .i64 w a' ys) (hl : xs.length ≤ 1048576) (hl' : ys.length ≤ 1048576) :
    Calls Try.prog 103 #[.slice a xs.length cap, .slice a' ys.length cap'] w fun e w' => e = .returned (.bool (sameZs xs ys)) ∧ Below w.heap.size w w' := by
  by_cases hlen : xs.length = ys.length
  case neg =>
    have E : sameZs xs ys = false := same_len (f := sameZ) rfl (fun _ _ _ _ => rfl) (fun _ _ => rfl) (fun _ _ => rfl) xs ys hlen
    rw [E]
    have hd : ((xs.length : Int) != (ys.length : Int)) = true := by simp; omega
    go_enter Try.func103, Try.ntmps103
    go_wp2
    go_ret
    exact ⟨rfl, Below.refl _ _⟩
  case pos =>
    have hd : ((xs.length : Int) != (ys.length : Int)) = false := by simp [hlen]
    have HL : Hid (xs.length = ys.length) := hlen
    clear hlen
    go_enter Try.func103, Try.ntmps103
    go_wp2
    go_loopw [5] (fun i wr => ∃ k m : Nat, k ≤ xs.length ∧ i = .int .i64 k ∧ wr = w.drewN m ∧ Hid (∀ j, j < k → sameZ (xs.getD j 0) (ys.getD j 0) = true)) (fun i _ => xs.length - (intOf i).toNat)
    case atStart => exact ⟨0, 0, Nat.zero_le _, rfl, rfl, fun j hj => absurd hj (Nat.not_lt_zero _)⟩
    case round =>
      obtain ⟨k, m, hk, rfl, rfl, HA⟩ := hrel
      by_cases hlt : k < xs.length
      · have hlt' : k < ys.length := by have := HL.out; omega
        obtain ⟨b, off, rfl, hbs, hc0⟩ := h k hlt
        obtain ⟨b', off', rfl, hbs', hd0⟩ := h' k hlt'
        cases hs : sameZ (xs.getD k 0) (ys.getD k 0)
        case false =>
          have E : Hid (sameZs xs ys = false) := same_bad (f := sameZ) 0 (fun _ _ _ _ => rfl) xs ys k HL.out hlt hs
          have hr : (xs.getD k 0 != ys.getD k 0) = true := by
            unfold sameZ at hs
            simpa using hs
          clear HA hs
          generalize xs.getD k 0 = z at hc0 hr
          generalize ys.getD k 0 = z' at hd0 hr
          go_wp2
          go_quiet (fail)
          go_wp2
          go_ret
          rw [E.out]
          exact ⟨rfl, ⟨rfl, rfl, rfl, Nat.le_refl _, fun _ _ => rfl⟩⟩
        case true =>
          have HB : Hid (∀ j, j < k + 1 → sameZ (xs.getD j 0) (ys.getD j 0) = true) := by
            intro j hj
            by_cases hjk : j = k
            · subst hjk; exact hs
            · exact HA.out j (by omega)
          have hr : (xs.getD k 0 != ys.getD k 0) = false := by
            unfold sameZ at hs
            simpa using hs
          clear HA hs
          generalize xs.getD k 0 = z at hc0 hr
          generalize ys.getD k 0 = z' at hd0 hr
          go_wp2
          go_quiet (fail)
          go_wp2
          go_roundw
          case rel => exact ⟨k + 1, _, by omega, by go_num, rfl, HB⟩
          case measure => simp [intOf]; omega
      · have E : Hid (sameZs xs ys = true) := same_all (f := sameZ) 0 rfl (fun _ _ _ _ => rfl) xs ys HL.out (fun j hj => HA.out j (by omega))
        clear HA
        go_wp2
        go_ret
        rw [E.out]
        exact ⟨rfl, ⟨rfl, rfl, rfl, Nat.le_refl _, fun _ _ => rfl⟩⟩

set_option maxHeartbeats 2000000 in
theorem isSameRound_any (p q : RoundQ) (w : World) (h : roundK.rd w p) (h' : roundK.rd w q) (hl : p.n ≤ 1048576) (hl' : q.n ≤ 1048576) :
    Calls Try.prog 88 #[.agg #[p.vr, p.vp], .agg #[q.vr, q.vp]] w fun e w' => e = .returned (.bool (sameR p.e q.e)) ∧ Below w.heap.size w w' := by
  obtain ⟨pv, pr, pw, pp⟩ := p
  obtain ⟨qv, qr, qw, qp⟩ := q
  obtain ⟨h1, h2⟩ : intK.At w pv pr ∧ intK.At w pw pp := h
  obtain ⟨g1, g2⟩ : intK.At w qv qr ∧ intK.At w qw qp := h'
  dsimp only [RoundQ.n] at hl hl'
  obtain ⟨a1, k1, rfl⟩ := h1.shape
  obtain ⟨a2, k2, rfl⟩ := h2.shape
  obtain ⟨b1, m1, rfl⟩ := g1.shape
  obtain ⟨b2, m2, rfl⟩ := g2.shape
  have hB : Below w.heap.size w ((w.alloc (.cells #[.slice a1 pr.length k1, .slice a2 pp.length k2] 147)).alloc (.cells #[.slice b1 qr.length m1, .slice b2 qp.length m2] 147)) := by go_grown
  have B := (Blk.new w 147 #[.slice a1 pr.length k1, .slice a2 pp.length k2]).below (w' := (w.alloc (.cells #[.slice a1 pr.length k1, .slice a2 pp.length k2] 147)).alloc (.cells #[.slice b1 qr.length m1, .slice b2 qp.length m2] 147)) (by go_grown)
  have C := Blk.new (w.alloc (.cells #[.slice a1 pr.length k1, .slice a2 pp.length k2] 147)) 147 #[.slice b1 qr.length m1, .slice b2 qp.length m2]
  rw [World.size_alloc] at C
  have e1 := equalZ_any a1 b1 k1 m1 pr qr _ (intK_at (h1.below hB)).2 (intK_at (g1.below hB)).2 (by omega) (by omega)
  have e2 := fun w h h' => equalZ_any a2 b2 k2 m2 pp qp w h h' (by omega) (by omega)
  have HE : Hid (sameR (RoundQ.e ⟨.slice a1 pr.length k1, pr, .slice a2 pp.length k2, pp⟩) (RoundQ.e ⟨.slice b1 qr.length m1, qr, .slice b2 qp.length m2, qp⟩) = (sameZs pr qr && sameZs pp qp)) := (rfl : _ = _)
  generalize sameR (RoundQ.e ⟨.slice a1 pr.length k1, pr, .slice a2 pp.length k2, pp⟩) (RoundQ.e ⟨.slice b1 qr.length m1, qr, .slice b2 qp.length m2, qp⟩) = E at HE ⊢
  generalize sameZs pr qr = X at *
  generalize sameZs pp qp = Y at *
  go_enter Try.func88, Try.ntmps88
  go_wp2_with fail
  generalize (w.alloc (.cells #[.slice a1 pr.length k1, .slice a2 pp.length k2] 147)).alloc (.cells #[.slice b1 qr.length m1, .slice b2 qp.length m2] 147) = W at *
  refine e1.mono ?_
  rintro e w1 ⟨rfl, hb⟩
  replace hB := hB.trans (hb.mono hB.size)
  replace B := B.below hb
  replace C := C.below hb
  clear e1 hb
  cases X with
  | false =>
    have E1 : Hid (E = false) := HE.out
    clear HE e2
    go_wp2
    go_ret
    exact ⟨by rw [E1.out]; rfl, hB⟩
  | true =>
    have p1 := B.cell 1 _ rfl
    have q1 := C.cell 1 _ rfl
    have e3 := e2 w1 (intK_at (h2.below hB)).2 (intK_at (g2.below hB)).2
    clear e2
    go_wp2_with fail
    refine e3.mono ?_
    rintro e w2 ⟨rfl, hb⟩
    replace hB := hB.trans (hb.mono hB.size)
    have E1 : Hid (E = Y) := by rw [HE.out]; exact (rfl : _ = _)
    clear e3 hb HE p1 q1 B C
    go_wp2
    go_ret
    exact ⟨by rw [E1.out]; rfl, hB⟩

set_option maxHeartbeats 4000000 in
theorem equalR_any (v v' : Value) (xs ys : List RoundQ) (w : World) (h : roundK.At w v xs) (h' : roundK.At w v' ys) (hl : xs.length + nmL RoundQ.n xs ≤ 1048576) (hl' : ys.length + nmL RoundQ.n ys ≤ 1048576) :
    Calls Try.prog 87 #[v, v', .func (.func 88) #[] #[]] w fun e w' => e = .returned (.bool (sameRs (xs.map RoundQ.e) (ys.map RoundQ.e))) ∧ Below w.heap.size w w' := by
  obtain ⟨a, cap, rfl⟩ := h.shape
  obtain ⟨a', cap', rfl⟩ := h'.shape
  by_cases hlen : xs.length = ys.length
  case neg =>
    have E : sameRs (xs.map RoundQ.e) (ys.map RoundQ.e) = false := same_len (f := sameR) rfl (fun _ _ _ _ => rfl) (fun _ _ => rfl) (fun _ _ => rfl) _ _ (by simpa using hlen)
    rw [E]
    have hd : ((xs.length : Int) != (ys.length : Int)) = true := by simp; omega
    go_enter Try.func87, Try.ntmps87
    go_wp2
    go_ret
    exact ⟨rfl, Below.refl _ _⟩
  case pos =>
    have hd : ((xs.length : Int) != (ys.length : Int)) = false := by simp [hlen]
    have HL : Hid (xs.length = ys.length) := hlen
    have HM : Hid ((xs.map RoundQ.e).length = (ys.map RoundQ.e).length) := show _ = _ by simpa using hlen
    clear hlen
    generalize hE : sameRs (xs.map RoundQ.e) (ys.map RoundQ.e) = E
    have HE : Hid (sameRs (xs.map RoundQ.e) (ys.map RoundQ.e) = E) := hE
    clear hE
    go_enter Try.func87, Try.ntmps87
    go_wp2
    go_loopw [17] (fun i wr => ∃ k : Nat, k ≤ xs.length ∧ i = .int .i64 k ∧ Below w.heap.size w wr ∧ Hid (∀ j, j < k → sameR ((xs.map RoundQ.e).getD j rndNo) ((ys.map RoundQ.e).getD j rndNo) = true)) (fun i _ => xs.length - (intOf i).toNat)
    case atStart => exact ⟨0, Nat.zero_le _, rfl, Below.refl _ _, fun j hj => absurd hj (Nat.not_lt_zero _)⟩
    case round =>
      obtain ⟨k, hk, rfl, hb, HA⟩ := hrel
      by_cases hlt : k < xs.length
      · have hlt' : k < ys.length := by have := HL.out; omega
        obtain ⟨b, off, rfl, hbs, hc, hrd⟩ := (h.below hb).cell (by decide) k hlt
        obtain ⟨b', off', rfl, hbs', hd2, hrd'⟩ := (h'.below hb).cell (by decide) k hlt'
        have hc' : ∀ j x, (roundK.cells xs[k])[j]? = some x → wr.cell? ⟨b, off + k * 2 + j, none⟩ = some x := hc
        have hd' : ∀ j x, (roundK.cells ys[k])[j]? = some x → wr.cell? ⟨b', off' + k * 2 + j, none⟩ = some x := hd2
        have c0 := hc' 0 (xs[k].vr) rfl
        have c1 := hc' 1 (xs[k].vp) rfl
        have d0 := hd' 0 (ys[k].vr) rfl
        have d1 := hd' 1 (ys[k].vp) rfl
        have n1 := nm_le RoundQ.n xs k hlt
        have n2 := nm_le RoundQ.n ys k hlt'
        have HY : Hid (sameR (RoundQ.e xs[k]) (RoundQ.e ys[k]) = false → E = false) := fun hx => by
          rw [← HE.out]
          exact same_bad (f := sameR) rndNo (fun _ _ _ _ => rfl) _ _ k HM.out (by simpa using hlt) (by rw [rnd_get xs k hlt, rnd_get ys k hlt']; exact hx)
        have HN : Hid (sameR (RoundQ.e xs[k]) (RoundQ.e ys[k]) = true → ∀ j, j < k + 1 → sameR ((xs.map RoundQ.e).getD j rndNo) ((ys.map RoundQ.e).getD j rndNo) = true) := fun hx j hj => by
          by_cases hjk : j = k
          · subst hjk
            rw [rnd_get xs j hlt, rnd_get ys j hlt']
            exact hx
          · exact HA.out j (by omega)
        have hq0 := isSameRound_any xs[k] ys[k]
        have hq := fun w f1 f2 => hq0 w f1 f2 (by omega) (by omega)
        clear hq0
        have hal : ∀ (o : Obj) (j : Nat), (wr.alloc o).cell? ⟨b', j, none⟩ = wr.cell? ⟨b', j, none⟩ := fun o j => (show Below wr.heap.size wr (wr.alloc o) by go_grown).cell (p := ⟨b', j, none⟩) hbs'
        clear HA hc hc' hd2 hd'
        generalize xs[k] = p at *
        generalize ys[k] = q at *
        generalize sameR (RoundQ.e p) (RoundQ.e q) = X at *
        obtain ⟨pv, pr, pw, pp⟩ := p
        obtain ⟨qv, qr, qw, qp⟩ := q
        obtain ⟨a1, k1, rfl⟩ : ∃ a c, pv = .slice a pr.length c := hrd.1.shape
        obtain ⟨a2, k2, rfl⟩ : ∃ a c, pw = .slice a pp.length c := hrd.2.shape
        obtain ⟨b1, m1, rfl⟩ : ∃ a c, qv = .slice a qr.length c := hrd'.1.shape
        obtain ⟨b2, m2, rfl⟩ : ∃ a c, qw = .slice a qp.length c := hrd'.2.shape
        dsimp only at c0 c1 d0 d1 hq
        rw [Nat.add_zero] at c0 d0
        go_wp2_with fail
        refine (hq _ (roundK.rd_below hrd (by go_grown)) (roundK.rd_below hrd' (by go_grown))).mono ?_
        rintro e w2 ⟨rfl, hb2⟩
        have hb3 := below_from (below_from hb (by go_grown)) hb2
        clear hb2 hal c0 c1 d0 d1 hrd hrd' hq
        cases X with
        | false =>
          have E1 : Hid (E = false) := HY.out rfl
          clear HY HN HE
          go_wp2
          go_ret
          exact ⟨by rw [E1.out]; rfl, hb3⟩
        | true =>
          have R := HN.out rfl
          have HR : Hid _ := R
          clear HY HN R
          go_wp2
          go_roundw
          case rel => exact ⟨k + 1, by omega, by go_num, hb3, HR.out⟩
          case measure => simp [intOf]; omega
      · have E1 : Hid (E = true) := by rw [← HE.out]; exact same_all (f := sameR) rndNo rfl (fun _ _ _ _ => rfl) _ _ HM.out (fun j hj => HA.out j (by simpa using (by simpa using hj : j < xs.length) |> fun h => Nat.lt_of_lt_of_le h (by omega)))
        clear HA HE
        go_wp2
        go_ret
        exact ⟨by rw [E1.out]; rfl, hb⟩

set_option maxHeartbeats 4000000 in
theorem implSameInst_any (p q : InstQ) (w : World) (h : instK.rd w p) (h' : instK.rd w q) (hl : p.n ≤ 1048576) (hl' : q.n ≤ 1048576) :
    Calls Try.prog 62 #[.agg #[.bool p.has, p.vb, p.vr, p.vd], .agg #[.bool q.has, q.vb, q.vr, q.vd]] w fun e w' => e = .returned (.bool (sameJ p.e q.e)) ∧ Below w.heap.size w w' := by
  obtain ⟨h1, vb, bt, vr, rs, vd, dc⟩ := p
  obtain ⟨h2, vb', bt', vr', rs', vd', dc'⟩ := q
  obtain ⟨hT, hR, hD⟩ : txnK.At w vb bt ∧ roundK.At w vr rs ∧ intK.At w vd dc := h
  obtain ⟨gT, gR, gD⟩ : txnK.At w vb' bt' ∧ roundK.At w vr' rs' ∧ intK.At w vd' dc' := h'
  dsimp only [InstQ.n] at hl hl'
  obtain ⟨a1, k1, rfl⟩ := hT.shape
  obtain ⟨a2, k2, rfl⟩ := hR.shape
  obtain ⟨a3, k3, rfl⟩ := hD.shape
  obtain ⟨b1, m1, rfl⟩ := gT.shape
  obtain ⟨b2, m2, rfl⟩ := gR.shape
  obtain ⟨b3, m3, rfl⟩ := gD.shape
  have hB : Below w.heap.size w ((w.alloc (.cells #[.bool h1, .slice a1 bt.length k1, .slice a2 rs.length k2, .slice a3 dc.length k3] 115)).alloc (.cells #[.bool h2, .slice b1 bt'.length m1, .slice b2 rs'.length m2, .slice b3 dc'.length m3] 115)) := by go_grown
  have B := (Blk.new w 115 #[.bool h1, .slice a1 bt.length k1, .slice a2 rs.length k2, .slice a3 dc.length k3]).below (w' := (w.alloc (.cells #[.bool h1, .slice a1 bt.length k1, .slice a2 rs.length k2, .slice a3 dc.length k3] 115)).alloc (.cells #[.bool h2, .slice b1 bt'.length m1, .slice b2 rs'.length m2, .slice b3 dc'.length m3] 115)) (by go_grown)
  have C := Blk.new (w.alloc (.cells #[.bool h1, .slice a1 bt.length k1, .slice a2 rs.length k2, .slice a3 dc.length k3] 115)) 115 #[.bool h2, .slice b1 bt'.length m1, .slice b2 rs'.length m2, .slice b3 dc'.length m3]
  rw [World.size_alloc] at C
  have e1 := implSameTxns_any _ _ (bt.map TxnQ.e) (bt'.map TxnQ.e) _ (txnsAt_of' (hT.below hB)) (txnsAt_of' (gT.below hB)) (by rw [List.length_map, sumA_of']; omega) (by rw [List.length_map, sumA_of']; omega)
  have e2 := fun w h h' => equalR_any (.slice a2 rs.length k2) (.slice b2 rs'.length m2) rs rs' w h h' (by omega) (by omega)
  have e3 := fun w h h' => equalZ_any a3 b3 k3 m3 dc dc' w h h' (by omega) (by omega)
  generalize hE : sameJ _ _ = E
  have HE : Hid (E = ((h1 == h2) && sameTs (bt.map TxnQ.e) (bt'.map TxnQ.e) && sameRs (rs.map RoundQ.e) (rs'.map RoundQ.e) && sameZs dc dc')) := hE.symm
  clear hE
  generalize sameTs (bt.map TxnQ.e) (bt'.map TxnQ.e) = X at *
  generalize sameRs (rs.map RoundQ.e) (rs'.map RoundQ.e) = Y at *
  generalize sameZs dc dc' = Z at *
  go_enter Try.func62, Try.ntmps62
  cases hh : (h1 == h2) with
  | false =>
    have E1 : Hid (E = false) := by rw [HE.out, hh]; rfl
    clear HE e1 e2 e3
    go_wp2
    go_ret
    exact ⟨by rw [E1.out]; rfl, hB⟩
  | true =>
    rw [hh] at HE
    go_wp2_with fail
    generalize (w.alloc (.cells #[.bool h1, .slice a1 bt.length k1, .slice a2 rs.length k2, .slice a3 dc.length k3] 115)).alloc (.cells #[.bool h2, .slice b1 bt'.length m1, .slice b2 rs'.length m2, .slice b3 dc'.length m3] 115) = W at *
    refine e1.mono ?_
    rintro e w1 ⟨rfl, hb⟩
    replace hB := hB.trans (hb.mono hB.size)
    replace B := B.below hb
    replace C := C.below hb
    clear e1 hb
    cases X with
    | false =>
      have E1 : Hid (E = false) := by rw [HE.out]; rfl
      clear HE e2 e3
      go_wp2
      go_ret
      exact ⟨by rw [E1.out]; rfl, hB⟩
    | true =>
      have p2 := B.cell 2 _ rfl
      have q2 := C.cell 2 _ rfl
      have e4 := e2 w1 (hR.below hB) (gR.below hB)
      clear e2
      go_wp2_with fail
      refine e4.mono ?_
      rintro e w2 ⟨rfl, hb⟩
      replace hB := hB.trans (hb.mono hB.size)
      replace B := B.below hb
      replace C := C.below hb
      clear e4 hb p2 q2
      cases Y with
      | false =>
        have E1 : Hid (E = false) := by rw [HE.out]; rfl
        clear HE e3
        go_wp2
        go_ret
        exact ⟨by rw [E1.out]; rfl, hB⟩
      | true =>
        have p3 := B.cell 3 _ rfl
        have q3 := C.cell 3 _ rfl
        have e5 := e3 w2 (intK_at (hD.below hB)).2 (intK_at (gD.below hB)).2
        clear e3
        go_wp2_with fail
        refine e5.mono ?_
        rintro e w3 ⟨rfl, hb⟩
        replace hB := hB.trans (hb.mono hB.size)
        have E1 : Hid (E = Z) := by rw [HE.out]; exact (rfl : _ = _)
        clear e5 hb p3 q3 B C HE
        go_wp2
        go_ret
        exact ⟨by rw [E1.out]; rfl, hB⟩

end Go.Proofs.Ytkkdjgiencilbaa
