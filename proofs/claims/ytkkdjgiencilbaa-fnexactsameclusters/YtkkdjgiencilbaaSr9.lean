/- SameReplicas, of the program and of its model. No condition. -/
import Derived.Test.YtkkdjgiencilbaaK9r
import Derived.Test.YtkkdjgiencilbaaUndoSame
import Derived.Test.YtkkdjgiencilbaaItemSame
import Derived.Test.YtkkdjgiencilbaaTxnSameI
import Derived.Test.YtkkdjgiencilbaaTxnSameT
import Derived.Test.YtkkdjgiencilbaaTxK9
namespace Go.Proofs.Ytkkdjgiencilbaa
open Go.RowKit
open Go.BigFrame
set_option linter.unusedVariables false
set_option linter.unusedSimpArgs false

def sameUss : List (List UndoD) → List (List UndoD) → Bool
  | [], [] => true
  | x :: r, y :: s => sameUs x y && sameUss r s
  | _, _ => false
theorem uss_get (xs : List USQ) (k : Nat) (hk : k < xs.length) : (xs.map USQ.e).getD k [] = USQ.e xs[k] := by simp [List.getD, hk]
theorem us_cell {w : World} {b off k : Nat} {p : USQ} (h : ∀ j x, (ussK.cells p)[j]? = some x → w.cell? ⟨b, off + k * ussK.size + j, none⟩ = some x) : w.cell? ⟨b, off + k, none⟩ = some p.va := by
  have := h 0 p.va rfl
  rwa [show off + k * ussK.size + 0 = off + k from by show off + k * 1 + 0 = off + k; omega] at this

set_option maxHeartbeats 4000000 in
theorem equalUss_any (v v' : Value) (xs ys : List USQ) (w : World) (h : ussK.At w v xs) (h' : ussK.At w v' ys) (hl : xs.length + nmL USQ.n xs ≤ 1048576) (hl' : ys.length + nmL USQ.n ys ≤ 1048576) :
    Calls Try.prog 91 #[v, v', .func (.func 92) #[] #[]] w fun e w' => e = .returned (.bool (sameUss (xs.map USQ.e) (ys.map USQ.e))) ∧ Below w.heap.size w w' := by
  obtain ⟨a, cap, rfl⟩ := h.shape
  obtain ⟨a', cap', rfl⟩ := h'.shape
  by_cases hlen : xs.length = ys.length
  case neg =>
    have E : sameUss (xs.map USQ.e) (ys.map USQ.e) = false := same_len (f := sameUs) rfl (fun _ _ _ _ => rfl) (fun _ _ => rfl) (fun _ _ => rfl) _ _ (by simpa using hlen)
    rw [E]
    have hd : ((xs.length : Int) != (ys.length : Int)) = true := by simp; omega
    go_enter Try.func91, Try.ntmps91
    go_wp2
    go_ret
    exact ⟨rfl, Below.refl _ _⟩
  case pos =>
    have hd : ((xs.length : Int) != (ys.length : Int)) = false := by simp [hlen]
    have HL : Hid (xs.length = ys.length) := hlen
    have HM : Hid ((xs.map USQ.e).length = (ys.map USQ.e).length) := show _ = _ by simpa using hlen
    clear hlen
    generalize hE : sameUss (xs.map USQ.e) (ys.map USQ.e) = E
    have HE : Hid (sameUss (xs.map USQ.e) (ys.map USQ.e) = E) := hE
    clear hE
    go_enter Try.func91, Try.ntmps91
    go_wp2
    go_loopw [17] (fun i wr => ∃ k : Nat, k ≤ xs.length ∧ i = .int .i64 k ∧ Below w.heap.size w wr ∧ Hid (∀ j, j < k → sameUs ((xs.map USQ.e).getD j []) ((ys.map USQ.e).getD j []) = true)) (fun i _ => xs.length - (intOf i).toNat)
    case atStart => exact ⟨0, Nat.zero_le _, rfl, Below.refl _ _, fun j hj => absurd hj (Nat.not_lt_zero _)⟩
    case round =>
      obtain ⟨k, hk, rfl, hb, HA⟩ := hrel
      by_cases hlt : k < xs.length
      · have hlt' : k < ys.length := by have := HL.out; omega
        obtain ⟨b, off, rfl, hbs, hc, hrd⟩ := (h.below hb).cell (by decide) k hlt
        obtain ⟨b', off', rfl, hbs', hd2, hrd'⟩ := (h'.below hb).cell (by decide) k hlt'
        have c0 := us_cell hc
        have d0 := us_cell hd2
        have n1 := nm_le USQ.n xs k hlt
        have n2 := nm_le USQ.n ys k hlt'
        have HY : Hid (sameUs (USQ.e xs[k]) (USQ.e ys[k]) = false → E = false) := fun hx => by
          rw [← HE.out]
          exact same_bad (f := sameUs) [] (fun _ _ _ _ => rfl) _ _ k HM.out (by simpa using hlt) (by rw [uss_get xs k hlt, uss_get ys k hlt']; exact hx)
        have HN : Hid (sameUs (USQ.e xs[k]) (USQ.e ys[k]) = true → ∀ j, j < k + 1 → sameUs ((xs.map USQ.e).getD j []) ((ys.map USQ.e).getD j []) = true) := fun hx j hj => by
          by_cases hjk : j = k
          · subst hjk
            rw [uss_get xs j hlt, uss_get ys j hlt']
            exact hx
          · exact HA.out j (by omega)
        clear HA hc hd2
        generalize xs[k] = p at *
        generalize ys[k] = q at *
        obtain ⟨pv, pu⟩ := p
        obtain ⟨qv, qu⟩ := q
        replace hrd : undoK.At wr pv pu := hrd
        replace hrd' : undoK.At wr qv qu := hrd'
        replace n1 : pu.length ≤ nmL USQ.n xs := n1
        replace n2 : qu.length ≤ nmL USQ.n ys := n2
        dsimp only [USQ.e] at c0 d0 HY HN
        obtain ⟨a1, k1, rfl⟩ := hrd.shape
        obtain ⟨b1, m1, rfl⟩ := hrd'.shape
        have hq := fun w f1 f2 => implSameUndo_any a1 b1 k1 m1 pu qu w f1 f2 (by omega) (by omega)
        have g1 := (undoK_at hrd).2
        have g2 := (undoK_at hrd').2
        generalize sameUs pu qu = X at *
        clear n1 n2 hrd hrd'
        go_wp2_with fail
        refine (hq _ g1 g2).mono ?_
        rintro e w2 ⟨rfl, hb2⟩
        have hb3 := below_from hb hb2
        clear hb2 c0 d0 hq g1 g2
        cases X with
        | false =>
          have E1 : Hid (E = false) := HY.out rfl
          clear HY HN HE
          go_wp2
          go_ret
          exact ⟨by rw [E1.out]; rfl, hb3⟩
        | true =>
          have R := HN.out rfl
          have HR : Hid _ := R
          clear HY HN R
          go_wp2
          go_roundw
          case rel => exact ⟨k + 1, by omega, by go_num, hb3, HR.out⟩
          case measure => simp [intOf]; omega
      · have E1 : Hid (E = true) := by rw [← HE.out]; exact same_all (f := sameUs) [] rfl (fun _ _ _ _ => rfl) _ _ HM.out (fun j hj => HA.out j (by simpa using (by simpa using hj : j < xs.length) |> fun h => Nat.lt_of_lt_of_le h (by omega)))
        clear HA HE
        go_wp2
        go_ret
        exact ⟨by rw [E1.out]; rfl, hb⟩

set_option maxHeartbeats 4000000 in
theorem l9SameUndos_any (v v' : Value) (xs ys : List USQ) (w : World) (h : ussK.At w v xs) (h' : ussK.At w v' ys) (hl : xs.length + nmL USQ.n xs ≤ 1048576) (hl' : ys.length + nmL USQ.n ys ≤ 1048576) :
    Calls Try.prog 105 #[v, v'] w fun e w' => e = .returned (.bool (sameUss (xs.map USQ.e) (ys.map USQ.e))) ∧ Below w.heap.size w w' := by
  obtain ⟨a, cap, rfl⟩ := h.shape
  obtain ⟨a', cap', rfl⟩ := h'.shape
  by_cases hlen : xs.length = ys.length
  case neg =>
    have E : sameUss (xs.map USQ.e) (ys.map USQ.e) = false := same_len (f := sameUs) rfl (fun _ _ _ _ => rfl) (fun _ _ => rfl) (fun _ _ => rfl) _ _ (by simpa using hlen)
    rw [E]
    have hd : ((xs.length : Int) != (ys.length : Int)) = true := by simp; omega
    go_enter Try.func105, Try.ntmps105
    go_wp2
    go_ret
    exact ⟨rfl, Below.refl _ _⟩
  case pos =>
    have hd : ((xs.length : Int) != (ys.length : Int)) = false := by simp [hlen]
    have HL : Hid (xs.length = ys.length) := hlen
    have HM : Hid ((xs.map USQ.e).length = (ys.map USQ.e).length) := show _ = _ by simpa using hlen
    clear hlen
    generalize hE : sameUss (xs.map USQ.e) (ys.map USQ.e) = E
    have HE : Hid (sameUss (xs.map USQ.e) (ys.map USQ.e) = E) := hE
    clear hE
    go_enter Try.func105, Try.ntmps105
    go_wp2
    go_loopw [5] (fun i wr => ∃ k : Nat, k ≤ xs.length ∧ i = .int .i64 k ∧ Below w.heap.size w wr ∧ Hid (∀ j, j < k → sameUs ((xs.map USQ.e).getD j []) ((ys.map USQ.e).getD j []) = true)) (fun i _ => xs.length - (intOf i).toNat)
    case atStart => exact ⟨0, Nat.zero_le _, rfl, Below.refl _ _, fun j hj => absurd hj (Nat.not_lt_zero _)⟩
    case round =>
      obtain ⟨k, hk, rfl, hb, HA⟩ := hrel
      by_cases hlt : k < xs.length
      · have hlt' : k < ys.length := by have := HL.out; omega
        obtain ⟨b, off, rfl, hbs, hc, hrd⟩ := (h.below hb).cell (by decide) k hlt
        obtain ⟨b', off', rfl, hbs', hd2, hrd'⟩ := (h'.below hb).cell (by decide) k hlt'
        have c0 := us_cell hc
        have d0 := us_cell hd2
        have n1 := nm_le USQ.n xs k hlt
        have n2 := nm_le USQ.n ys k hlt'
        have HY : Hid (sameUs (USQ.e xs[k]) (USQ.e ys[k]) = false → E = false) := fun hx => by
          rw [← HE.out]
          exact same_bad (f := sameUs) [] (fun _ _ _ _ => rfl) _ _ k HM.out (by simpa using hlt) (by rw [uss_get xs k hlt, uss_get ys k hlt']; exact hx)
        have HN : Hid (sameUs (USQ.e xs[k]) (USQ.e ys[k]) = true → ∀ j, j < k + 1 → sameUs ((xs.map USQ.e).getD j []) ((ys.map USQ.e).getD j []) = true) := fun hx j hj => by
          by_cases hjk : j = k
          · subst hjk
            rw [uss_get xs j hlt, uss_get ys j hlt']
            exact hx
          · exact HA.out j (by omega)
        clear HA hc hd2
        generalize xs[k] = p at *
        generalize ys[k] = q at *
        obtain ⟨pv, pu⟩ := p
        obtain ⟨qv, qu⟩ := q
        replace hrd : undoK.At wr pv pu := hrd
        replace hrd' : undoK.At wr qv qu := hrd'
        replace n1 : pu.length ≤ nmL USQ.n xs := n1
        replace n2 : qu.length ≤ nmL USQ.n ys := n2
        dsimp only [USQ.e] at c0 d0 HY HN
        obtain ⟨a1, k1, rfl⟩ := hrd.shape
        obtain ⟨b1, m1, rfl⟩ := hrd'.shape
        have hq := fun w f1 f2 => specSameUndo_any a1 b1 k1 m1 pu qu w f1 f2 (by omega) (by omega)
        have g1 := (undoK_at hrd).2
        have g2 := (undoK_at hrd').2
        generalize sameUs pu qu = X at *
        clear n1 n2 hrd hrd'
        have hlti : (k : Int) < (xs.length : Int) := by omega
        have hlti' : (k : Int) < (ys.length : Int) := by omega
        replace c0 := lat_cell c0
        replace d0 := lat_cell d0
        have hW : Below wr.heap.size wr wr.drew := (Below.refl _ _).drew
        have hnn : Nonempty (Lat wr) := ⟨⟨wr, Below.refl _ _⟩⟩
        go_wp2_with fail
        refine text_begin (S := fun w' => ∃ u : Lat wr, w' = u.val) (by kernel_rfl) ?_
        refine sgr [(0, 8)] 2 (by kernel_rfl) ⟨⟨_, hW⟩, rfl⟩ ?_
        simp only [pkE]
        repeat go_big_quiet_step (fail)
        refine wpQuiet_nil ?_
        refine cla 8 (some 25) 117 #[.slice a1 pu.length k1, .slice b1 qu.length m1] 1 (by kernel_rfl) ?_
        refine (hq _ (g1.below hW) (g2.below hW)).mono ?_
        rintro e w9 ⟨rfl, hb9⟩
        replace hW := hW.trans (hb9.mono hW.size)
        clear hb9
        refine ⟨_, rfl, ⟨⟨_, hW⟩, rfl⟩, ?_⟩
        simp only [Act.put, pjE]
        refine sgr [(9, 1)] 0 (by kernel_rfl) ⟨⟨_, hW⟩, rfl⟩ ?_
        simp only [pkE]
        repeat go_big_quiet_step (fail)
        refine wpQuiet_nil ?_
        refine text_end (by kernel_rfl) ?_
        replace hb := hb.trans (hW.mono hb.size)
        clear hW hnn hq g1 g2 c0 d0
        cases X with
        | false =>
          have E1 : Hid (E = false) := HY.out rfl
          clear HY HN HE
          go_wp2
          go_ret
          exact ⟨by rw [E1.out]; rfl, hb⟩
        | true =>
          have R := HN.out rfl
          have HR : Hid _ := R
          clear HY HN R
          go_wp2
          go_roundw
          case rel => exact ⟨k + 1, by omega, by go_num, hb, HR.out⟩
          case measure => simp [intOf]; omega
      · have E1 : Hid (E = true) := by rw [← HE.out]; exact same_all (f := sameUs) [] rfl (fun _ _ _ _ => rfl) _ _ HM.out (fun j hj => HA.out j (by simpa using (by simpa using hj : j < xs.length) |> fun h => Nat.lt_of_lt_of_le h (by omega)))
        clear HA HE
        go_wp2
        go_ret
        exact ⟨by rw [E1.out]; rfl, hb⟩

end Go.Proofs.Ytkkdjgiencilbaa
