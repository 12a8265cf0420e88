/- SameOrders, of the program and of its model. No condition. -/
import Derived.Test.YtkkdjgiencilbaaSm7
import Derived.Test.YtkkdjgiencilbaaKIs
namespace Go.Proofs.Ytkkdjgiencilbaa
open Go.RowKit
open Go.BigFrame
set_option linter.unusedVariables false
set_option linter.unusedSimpArgs false

def insNo : InstE := ⟨false, [], [], []⟩
def sameJs : List InstE → List InstE → Bool
  | [], [] => true
  | x :: r, y :: s => sameJ x y && sameJs r s
  | _, _ => false
theorem ins_get (xs : List InstQ) (k : Nat) (hk : k < xs.length) : (xs.map InstQ.e).getD k insNo = InstQ.e xs[k] := by simp [List.getD, hk]

set_option maxHeartbeats 4000000 in
theorem equalJ_any (v v' : Value) (xs ys : List InstQ) (w : World) (h : instK.At w v xs) (h' : instK.At w v' ys) (hl : xs.length + nmL InstQ.n xs ≤ 1048576) (hl' : ys.length + nmL InstQ.n ys ≤ 1048576) :
    Calls Try.prog 61 #[v, v', .func (.func 62) #[] #[]] w fun e w' => e = .returned (.bool (sameJs (xs.map InstQ.e) (ys.map InstQ.e))) ∧ Below w.heap.size w w' := by
  obtain ⟨a, cap, rfl⟩ := h.shape
  obtain ⟨a', cap', rfl⟩ := h'.shape
  by_cases hlen : xs.length = ys.length
  case neg =>
    have E : sameJs (xs.map InstQ.e) (ys.map InstQ.e) = false := same_len (f := sameJ) rfl (fun _ _ _ _ => rfl) (fun _ _ => rfl) (fun _ _ => rfl) _ _ (by simpa using hlen)
    rw [E]
    have hd : ((xs.length : Int) != (ys.length : Int)) = true := by simp; omega
    go_enter Try.func61, Try.ntmps61
    go_wp2
    go_ret
    exact ⟨rfl, Below.refl _ _⟩
  case pos =>
    have hd : ((xs.length : Int) != (ys.length : Int)) = false := by simp [hlen]
    have HL : Hid (xs.length = ys.length) := hlen
    have HM : Hid ((xs.map InstQ.e).length = (ys.map InstQ.e).length) := show _ = _ by simpa using hlen
    clear hlen
    generalize hE : sameJs (xs.map InstQ.e) (ys.map InstQ.e) = E
    have HE : Hid (sameJs (xs.map InstQ.e) (ys.map InstQ.e) = E) := hE
    clear hE
    go_enter Try.func61, Try.ntmps61
    go_wp2
    go_loopw [17] (fun i wr => ∃ k : Nat, k ≤ xs.length ∧ i = .int .i64 k ∧ Below w.heap.size w wr ∧ Hid (∀ j, j < k → sameJ ((xs.map InstQ.e).getD j insNo) ((ys.map InstQ.e).getD j insNo) = true)) (fun i _ => xs.length - (intOf i).toNat)
    case atStart => exact ⟨0, Nat.zero_le _, rfl, Below.refl _ _, fun j hj => absurd hj (Nat.not_lt_zero _)⟩
    case round =>
      obtain ⟨k, hk, rfl, hb, HA⟩ := hrel
      by_cases hlt : k < xs.length
      · have hlt' : k < ys.length := by have := HL.out; omega
        obtain ⟨b, off, rfl, hbs, hc, hrd⟩ := (h.below hb).cell (by decide) k hlt
        obtain ⟨b', off', rfl, hbs', hd2, hrd'⟩ := (h'.below hb).cell (by decide) k hlt'
        have hc' : ∀ j x, (instK.cells xs[k])[j]? = some x → wr.cell? ⟨b, off + k * 4 + j, none⟩ = some x := hc
        have hd' : ∀ j x, (instK.cells ys[k])[j]? = some x → wr.cell? ⟨b', off' + k * 4 + j, none⟩ = some x := hd2
        have c0 := hc' 0 (.bool xs[k].has) rfl
        have c1 := hc' 1 (xs[k].vb) rfl
        have c2 := hc' 2 (xs[k].vr) rfl
        have c3 := hc' 3 (xs[k].vd) rfl
        have d0 := hd' 0 (.bool ys[k].has) rfl
        have d1 := hd' 1 (ys[k].vb) rfl
        have d2 := hd' 2 (ys[k].vr) rfl
        have d3 := hd' 3 (ys[k].vd) rfl
        have n1 := nm_le InstQ.n xs k hlt
        have n2 := nm_le InstQ.n ys k hlt'
        have HY : Hid (sameJ (InstQ.e xs[k]) (InstQ.e ys[k]) = false → E = false) := fun hx => by
          rw [← HE.out]
          exact same_bad (f := sameJ) insNo (fun _ _ _ _ => rfl) _ _ k HM.out (by simpa using hlt) (by rw [ins_get xs k hlt, ins_get ys k hlt']; exact hx)
        have HN : Hid (sameJ (InstQ.e xs[k]) (InstQ.e ys[k]) = true → ∀ j, j < k + 1 → sameJ ((xs.map InstQ.e).getD j insNo) ((ys.map InstQ.e).getD j insNo) = true) := fun hx j hj => by
          by_cases hjk : j = k
          · subst hjk
            rw [ins_get xs j hlt, ins_get ys j hlt']
            exact hx
          · exact HA.out j (by omega)
        have hq0 := implSameInst_any xs[k] ys[k]
        have hq := fun w f1 f2 => hq0 w f1 f2 (by omega) (by omega)
        clear hq0
        have hal : ∀ (o : Obj) (j : Nat), (wr.alloc o).cell? ⟨b', j, none⟩ = wr.cell? ⟨b', j, none⟩ := fun o j => (show Below wr.heap.size wr (wr.alloc o) by go_grown).cell (p := ⟨b', j, none⟩) hbs'
        clear HA hc hc' hd2 hd'
        generalize xs[k] = p at *
        generalize ys[k] = q at *
        generalize sameJ (InstQ.e p) (InstQ.e q) = X at *
        obtain ⟨ph, pv, pb, pw, pr, pu, pd⟩ := p
        obtain ⟨qh, qv, qb, qw, qr, qu, qd⟩ := q
        obtain ⟨a1, k1, rfl⟩ : ∃ a c, pv = .slice a pb.length c := hrd.1.shape
        obtain ⟨a2, k2, rfl⟩ : ∃ a c, pw = .slice a pr.length c := hrd.2.1.shape
        obtain ⟨a3, k3, rfl⟩ : ∃ a c, pu = .slice a pd.length c := hrd.2.2.shape
        obtain ⟨b1, m1, rfl⟩ : ∃ a c, qv = .slice a qb.length c := hrd'.1.shape
        obtain ⟨b2, m2, rfl⟩ : ∃ a c, qw = .slice a qr.length c := hrd'.2.1.shape
        obtain ⟨b3, m3, rfl⟩ : ∃ a c, qu = .slice a qd.length c := hrd'.2.2.shape
        dsimp only at c0 c1 c2 c3 d0 d1 d2 d3 hq
        rw [Nat.add_zero] at c0 d0
        go_wp2_with fail
        refine (hq _ (instK.rd_below hrd (by go_grown)) (instK.rd_below hrd' (by go_grown))).mono ?_
        rintro e w2 ⟨rfl, hb2⟩
        have hb3 := below_from (below_from hb (by go_grown)) hb2
        clear hb2 hal c0 c1 c2 c3 d0 d1 d2 d3 hrd hrd' hq
        cases X with
        | false =>
          have E1 : Hid (E = false) := HY.out rfl
          clear HY HN HE
          go_wp2
          go_ret
          exact ⟨by rw [E1.out]; rfl, hb3⟩
        | true =>
          have R := HN.out rfl
          have HR : Hid _ := R
          clear HY HN R
          go_wp2
          go_roundw
          case rel => exact ⟨k + 1, by omega, by go_num, hb3, HR.out⟩
          case measure => simp [intOf]; omega
      · have E1 : Hid (E = true) := by rw [← HE.out]; exact same_all (f := sameJ) insNo rfl (fun _ _ _ _ => rfl) _ _ HM.out (fun j hj => HA.out j (by simpa using (by simpa using hj : j < xs.length) |> fun h => Nat.lt_of_lt_of_le h (by omega)))
        clear HA HE
        go_wp2
        go_ret
        exact ⟨by rw [E1.out]; rfl, hb⟩

theorem implSameOrders_any (v v' : Value) (xs ys : List InstQ) (w : World) (h : instK.At w v xs) (h' : instK.At w v' ys) (hl : xs.length + nmL InstQ.n xs ≤ 1048576) (hl' : ys.length + nmL InstQ.n ys ≤ 1048576) :
    Calls Try.prog 33 #[v, v'] w fun e w' => e = .returned (.bool (sameJs (xs.map InstQ.e) (ys.map InstQ.e))) ∧ Below w.heap.size w w' := by
  have hq := equalJ_any v v' xs ys w h h' hl hl'
  obtain ⟨a, cap, rfl⟩ := h.shape
  obtain ⟨a', cap', rfl⟩ := h'.shape
  generalize sameJs (xs.map InstQ.e) (ys.map InstQ.e) = E at *
  go_enter Try.func33, Try.ntmps33
  go_wp2_with fail
  refine hq.mono ?_
  rintro e w2 ⟨rfl, hb2⟩
  go_wp2
  go_ret
  exact ⟨rfl, hb2⟩

theorem instP_at' {w : World} {a : Option Addr} {n cap : Nat} {ps : List InstQ} (h : instK.At w (.slice a n cap) ps) (k : Nat) (hk : k < ps.length) : ∃ b off, a = some ⟨b, off, none⟩ ∧ b < w.heap.size ∧ InstP' w b (off + k * 4) ps[k] := by
  obtain ⟨b, off, e, hb, hc, hrd⟩ := h.cell (by decide) k hk
  have hc' : ∀ j x, (instK.cells ps[k])[j]? = some x → w.cell? ⟨b, off + k * 4 + j, none⟩ = some x := hc
  exact ⟨b, off, e, hb, ⟨hc' 0 (.bool ps[k].has) rfl, hc' 1 ps[k].vb rfl, hc' 2 ps[k].vr rfl, hc' 3 ps[k].vd rfl⟩, hrd⟩

set_option maxHeartbeats 4000000 in
theorem specSameOrders_any (v v' : Value) (xs ys : List InstQ) (w : World) (h : instK.At w v xs) (h' : instK.At w v' ys) (hl : xs.length + nmL InstQ.n xs ≤ 1048576) (hl' : ys.length + nmL InstQ.n ys ≤ 1048576) :
    Calls Try.prog 57 #[v, v'] w fun e w' => e = .returned (.bool (sameJs (xs.map InstQ.e) (ys.map InstQ.e))) ∧ Below w.heap.size w w' := by
  obtain ⟨a, cap, rfl⟩ := h.shape
  obtain ⟨a', cap', rfl⟩ := h'.shape
  by_cases hlen : xs.length = ys.length
  case neg =>
    have E : sameJs (xs.map InstQ.e) (ys.map InstQ.e) = false := same_len (f := sameJ) rfl (fun _ _ _ _ => rfl) (fun _ _ => rfl) (fun _ _ => rfl) _ _ (by simpa using hlen)
    rw [E]
    have hd : ((xs.length : Int) != (ys.length : Int)) = true := by simp; omega
    go_enter Try.func57, Try.ntmps57
    go_wp2
    go_ret
    exact ⟨rfl, Below.refl _ _⟩
  case pos =>
    have hd : ((xs.length : Int) != (ys.length : Int)) = false := by simp [hlen]
    have HL : Hid (xs.length = ys.length) := hlen
    have HM : Hid ((xs.map InstQ.e).length = (ys.map InstQ.e).length) := show _ = _ by simpa using hlen
    clear hlen
    generalize hE : sameJs (xs.map InstQ.e) (ys.map InstQ.e) = E
    have HE : Hid (sameJs (xs.map InstQ.e) (ys.map InstQ.e) = E) := hE
    clear hE
    go_enter Try.func57, Try.ntmps57
    go_wp2
    go_loopw [5] (fun i wr => ∃ k : Nat, k ≤ xs.length ∧ i = .int .i64 k ∧ Below w.heap.size w wr ∧ Hid (∀ j, j < k → sameJ ((xs.map InstQ.e).getD j insNo) ((ys.map InstQ.e).getD j insNo) = true)) (fun i _ => xs.length - (intOf i).toNat)
    case atStart => exact ⟨0, Nat.zero_le _, rfl, Below.refl _ _, fun j hj => absurd hj (Nat.not_lt_zero _)⟩
    case round =>
      obtain ⟨k, hk, rfl, hb, HA⟩ := hrel
      by_cases hlt : k < xs.length
      · have hlt' : k < ys.length := by have := HL.out; omega
        obtain ⟨b, off, rfl, hbs, hP⟩ := instP_at' (h.below hb) k hlt
        obtain ⟨b', off', rfl, hbs', hQ⟩ := instP_at' (h'.below hb) k hlt'
        have n1 := nm_le InstQ.n xs k hlt
        have n2 := nm_le InstQ.n ys k hlt'
        have HY : Hid (sameJ (InstQ.e xs[k]) (InstQ.e ys[k]) = false → E = false) := fun hx => by
          rw [← HE.out]
          exact same_bad (f := sameJ) insNo (fun _ _ _ _ => rfl) _ _ k HM.out (by simpa using hlt) (by rw [ins_get xs k hlt, ins_get ys k hlt']; exact hx)
        have HN : Hid (sameJ (InstQ.e xs[k]) (InstQ.e ys[k]) = true → ∀ j, j < k + 1 → sameJ ((xs.map InstQ.e).getD j insNo) ((ys.map InstQ.e).getD j insNo) = true) := fun hx j hj => by
          by_cases hjk : j = k
          · subst hjk
            rw [ins_get xs j hlt, ins_get ys j hlt']
            exact hx
          · exact HA.out j (by omega)
        have hq0 := l6Same_any b (off + k * 4) b' (off' + k * 4) xs[k] ys[k]
        have hq := fun w f1 f2 => hq0 w f1 f2 (by omega) (by omega)
        clear hq0 HA n1 n2
        generalize sameJ (InstQ.e xs[k]) (InstQ.e ys[k]) = X at *
        generalize xs[k] = p at *
        generalize ys[k] = q at *
        have hlti : (k : Int) < (xs.length : Int) := by omega
        have hlti' : (k : Int) < (ys.length : Int) := by omega
        have hW : Below wr.heap.size wr wr.drew := (Below.refl _ _).drew
        have hnn : Nonempty (Lat wr) := ⟨⟨wr, Below.refl _ _⟩⟩
        go_wp2_with fail
        refine text_begin (S := fun w' => ∃ u : Lat wr, w' = u.val) (by kernel_rfl) ?_
        cases X with
        | false =>
          have E1 : Hid (E = false) := HY.out rfl
          refine sgr [(0, 6)] 2 (by kernel_rfl) ⟨⟨_, hW⟩, rfl⟩ ?_
          simp only [pkE]
          repeat go_big_quiet_step (fail)
          refine wpQuiet_nil ?_
          refine cla 6 (some 23) 80 #[.pointer (some ⟨b, off + k * 4, none⟩), .pointer (some ⟨b', off' + k * 4, none⟩)] 1 (by kernel_rfl) ?_
          refine (hq _ (hP.below hW) (hQ.below hW)).mono ?_
          rintro e w9 ⟨rfl, hb9⟩
          replace hW := hW.trans (hb9.mono hW.size)
          clear hb9
          refine ⟨_, rfl, ⟨⟨_, hW⟩, rfl⟩, ?_⟩
          simp only [Act.put, pjE]
          refine sgr [(7, 1)] 0 (by kernel_rfl) ⟨⟨_, hW⟩, rfl⟩ ?_
          simp only [pkE]
          repeat go_big_quiet_step (fail)
          refine wpQuiet_nil ?_
          refine text_end (by kernel_rfl) ?_
          replace hb := hb.trans (hW.mono hb.size)
          clear HY HN HE hW hnn hq hP hQ
          go_wp2
          go_ret
          exact ⟨by rw [E1.out]; rfl, hb⟩
        | true =>
          have R := HN.out rfl
          have HR : Hid _ := R
          clear R
          refine sgr [(0, 6)] 2 (by kernel_rfl) ⟨⟨_, hW⟩, rfl⟩ ?_
          simp only [pkE]
          repeat go_big_quiet_step (fail)
          refine wpQuiet_nil ?_
          refine cla 6 (some 23) 80 #[.pointer (some ⟨b, off + k * 4, none⟩), .pointer (some ⟨b', off' + k * 4, none⟩)] 1 (by kernel_rfl) ?_
          refine (hq _ (hP.below hW) (hQ.below hW)).mono ?_
          rintro e w9 ⟨rfl, hb9⟩
          replace hW := hW.trans (hb9.mono hW.size)
          clear hb9
          refine ⟨_, rfl, ⟨⟨_, hW⟩, rfl⟩, ?_⟩
          simp only [Act.put, pjE]
          refine sgr [(7, 1)] 0 (by kernel_rfl) ⟨⟨_, hW⟩, rfl⟩ ?_
          simp only [pkE]
          repeat go_big_quiet_step (fail)
          refine wpQuiet_nil ?_
          refine text_end (by kernel_rfl) ?_
          replace hb := hb.trans (hW.mono hb.size)
          clear HY HN hW hnn hq hP hQ
          go_wp2
          go_roundw
          case rel => exact ⟨k + 1, by omega, by go_num, hb, HR.out⟩
          case measure => simp [intOf]; omega
      · have E1 : Hid (E = true) := by rw [← HE.out]; exact same_all (f := sameJ) insNo rfl (fun _ _ _ _ => rfl) _ _ HM.out (fun j hj => HA.out j (by simpa using (by simpa using hj : j < xs.length) |> fun h => Nat.lt_of_lt_of_le h (by omega)))
        clear HA HE
        go_wp2
        go_ret
        exact ⟨by rw [E1.out]; rfl, hb⟩

end Go.Proofs.Ytkkdjgiencilbaa
