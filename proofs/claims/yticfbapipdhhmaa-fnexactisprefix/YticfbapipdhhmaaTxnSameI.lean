/- SameTxns of the program, walked: whether two lists of transactions are alike. No condition. -/
import Derived.Test.YticfbapipdhhmaaTxnSame
namespace Go.Proofs.Yticfbapipdhhmaa
open Go.RowKit
open Go.BigFrame
set_option linter.unusedVariables false
set_option linter.unusedSimpArgs false

set_option maxRecDepth 100000 in
set_option maxHeartbeats 2000000 in
theorem equalFunc_any (v v' : Value) (xs ys : List TxnD) (w : World) (h : TxnsAt w v xs) (h' : TxnsAt w v' ys) (hl : xs.length + sumA xs ≤ 1048576) (hl' : ys.length + sumA ys ≤ 1048576) :
    Calls Try.prog 18 #[v, v', .func (.func 13) #[] #[]] w fun e w' => e = .returned (.bool (sameTs xs ys)) ∧ Below w.heap.size w w' := by
  obtain ⟨a, cap, rfl⟩ := h.shape
  obtain ⟨a', cap', rfl⟩ := h'.shape
  by_cases hlen : xs.length = ys.length
  case neg =>
    have E : sameTs xs ys = false := same_len (f := sameT) rfl (fun _ _ _ _ => rfl) (fun _ _ => rfl) (fun _ _ => rfl) xs ys hlen
    rw [E]
    have hd : ((xs.length : Int) != (ys.length : Int)) = true := by simp; omega
    go_enter Try.func18, Try.ntmps18
    go_wp2
    go_ret
    exact ⟨rfl, Below.refl _ _⟩
  case pos =>
    have hd : ((xs.length : Int) != (ys.length : Int)) = false := by simp [hlen]
    have HL : Hid (xs.length = ys.length) := hlen
    clear hlen
    go_enter Try.func18, Try.ntmps18
    go_wp2
    go_loopw [17] (fun i wr => ∃ k : Nat, k ≤ xs.length ∧ i = .int .i64 k ∧ Below w.heap.size w wr ∧ Hid (∀ j, j < k → sameT (xs.getD j txnNo) (ys.getD j txnNo) = true)) (fun i _ => xs.length - (intOf i).toNat)
    case atStart => exact ⟨0, Nat.zero_le _, rfl, Below.refl _ _, fun j hj => absurd hj (Nat.not_lt_zero _)⟩
    case round =>
      obtain ⟨k, hk, rfl, hb, HA⟩ := hrel
      by_cases hlt : k < xs.length
      · have hlt' : k < ys.length := by have := HL.out; omega
        obtain ⟨b, off, aa, cc, rfl, hbs, hc0, hc1, hc2, hc3, hA⟩ := (h.below hb).at k hlt
        obtain ⟨b', off', aa', cc', rfl, hbs', hd0, hd1, hd2, hd3, hA'⟩ := (h'.below hb).at k hlt'
        have hzl : (xs.getD k txnNo).acts.length ≤ sumA xs := mem_le_sumA (by simp [List.getD, hlt])
        have hzl' : (ys.getD k txnNo).acts.length ≤ sumA ys := mem_le_sumA (by simp [List.getD, hlt'])
        have hq := fun w h h' => isSameTxn_any (xs.getD k txnNo) (ys.getD k txnNo) aa aa' cc cc' w h h' (by omega) (by omega)
        have hs5 := hb.size
        have hal : ∀ (o : Obj) (j : Nat), (wr.alloc o).cell? ⟨b', j, none⟩ = wr.cell? ⟨b', j, none⟩ := fun o j => (show Below wr.heap.size wr (wr.alloc o) by go_grown).cell (p := ⟨b', j, none⟩) hbs'
        cases hs : sameT (xs.getD k txnNo) (ys.getD k txnNo)
        case false =>
          have E : Hid (sameTs xs ys = false) := same_bad (f := sameT) txnNo (fun _ _ _ _ => rfl) xs ys k HL.out hlt hs
          rw [hs] at hq
          clear HA hs
          generalize xs.getD k txnNo = z at hc0 hc1 hc2 hc3 hA hq hzl
          generalize ys.getD k txnNo = z' at hd0 hd1 hd2 hd3 hA' hq hzl'
          obtain ⟨z0, z1, z2, zs⟩ := z
          obtain ⟨y0, y1, y2, us⟩ := z'
          dsimp only at hc0 hc1 hc2 hc3 hA hd0 hd1 hd2 hd3 hA' hq hzl hzl'
          go_wp2_with fail
          refine (hq _ (hA.below (by go_grown)) (hA'.below (by go_grown))).mono ?_
          rintro e w2 ⟨rfl, hb2⟩
          go_wp2
          go_ret
          rw [E.out]
          exact ⟨rfl, below_from (below_from hb (by go_grown)) hb2⟩
        case true =>
          have HB : Hid (∀ j, j < k + 1 → sameT (xs.getD j txnNo) (ys.getD j txnNo) = true) := by
            intro j hj
            by_cases hjk : j = k
            · subst hjk; exact hs
            · exact HA.out j (by omega)
          rw [hs] at hq
          clear HA hs
          generalize xs.getD k txnNo = z at hc0 hc1 hc2 hc3 hA hq hzl
          generalize ys.getD k txnNo = z' at hd0 hd1 hd2 hd3 hA' hq hzl'
          obtain ⟨z0, z1, z2, zs⟩ := z
          obtain ⟨y0, y1, y2, us⟩ := z'
          dsimp only at hc0 hc1 hc2 hc3 hA hd0 hd1 hd2 hd3 hA' hq hzl hzl'
          go_wp2_with fail
          refine (hq _ (hA.below (by go_grown)) (hA'.below (by go_grown))).mono ?_
          rintro e w2 ⟨rfl, hb2⟩
          have hb3 := below_from (below_from hb (by go_grown)) hb2
          clear hb2 hal hc0 hc1 hc2 hc3 hd0 hd1 hd2 hd3 hA hA' hq
          go_wp2
          go_roundw
          case rel => exact ⟨k + 1, by omega, by go_num, hb3, HB⟩
          case measure => simp [intOf]; omega
      · have E : Hid (sameTs xs ys = true) := same_all (f := sameT) txnNo rfl (fun _ _ _ _ => rfl) xs ys HL.out (fun j hj => HA.out j (by omega))
        clear HA
        go_wp2
        go_ret
        rw [E.out]
        exact ⟨rfl, hb⟩

end Go.Proofs.Yticfbapipdhhmaa
