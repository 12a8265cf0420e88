/- SameTxns of the model. No condition. -/
import Derived.Test.YticfbapipdhhmaaTxnSameI
import Derived.Test.YticfbapipdhhmaaTxnSameS
namespace Go.Proofs.Yticfbapipdhhmaa
open Go.RowKit
open Go.BigFrame
set_option linter.unusedVariables false
set_option linter.unusedSimpArgs false

set_option maxHeartbeats 4000000 in
theorem specSameTxns_any (v v' : Value) (xs ys : List TxnD) (w : World) (h : TxnsAt w v xs) (h' : TxnsAt w v' ys) (hl : xs.length + sumA xs ≤ 1048576) (hl' : ys.length + sumA ys ≤ 1048576) :
    Calls Try.prog 16 #[v, v'] w fun e w' => e = .returned (.bool (sameTs xs ys)) ∧ Below w.heap.size w w' := by
  obtain ⟨a, cap, rfl⟩ := h.shape
  obtain ⟨a', cap', rfl⟩ := h'.shape
  by_cases hlen : xs.length = ys.length
  case neg =>
    have E : sameTs xs ys = false := same_len (f := sameT) rfl (fun _ _ _ _ => rfl) (fun _ _ => rfl) (fun _ _ => rfl) xs ys hlen
    rw [E]
    have hd : ((xs.length : Int) != (ys.length : Int)) = true := by simp; omega
    go_enter Try.func16, Try.ntmps16
    go_wp2
    go_ret
    exact ⟨rfl, Below.refl _ _⟩
  case pos =>
    have hd : ((xs.length : Int) != (ys.length : Int)) = false := by simp [hlen]
    have HL : Hid (xs.length = ys.length) := hlen
    clear hlen
    go_enter Try.func16, Try.ntmps16
    go_wp2
    go_loopw [5] (fun i wr => ∃ k : Nat, k ≤ xs.length ∧ i = .int .i64 k ∧ Below w.heap.size w wr ∧ Hid (∀ j, j < k → sameT (xs.getD j txnNo) (ys.getD j txnNo) = true)) (fun i _ => xs.length - (intOf i).toNat)
    case atStart => exact ⟨0, Nat.zero_le _, rfl, Below.refl _ _, fun j hj => absurd hj (Nat.not_lt_zero _)⟩
    case round =>
      obtain ⟨k, hk, rfl, hb, HA⟩ := hrel
      by_cases hlt : k < xs.length
      · have hlt' : k < ys.length := by have := HL.out; omega
        obtain ⟨b, off, aa, cc, rfl, hbs, hc0, hc1, hc2, hc3, hA⟩ := (h.below hb).at k hlt
        obtain ⟨b', off', aa', cc', rfl, hbs', hd0, hd1, hd2, hd3, hA'⟩ := (h'.below hb).at k hlt'
        have hzl : (xs.getD k txnNo).acts.length ≤ sumA xs := mem_le_sumA (by simp [List.getD, hlt])
        have hzl' : (ys.getD k txnNo).acts.length ≤ sumA ys := mem_le_sumA (by simp [List.getD, hlt'])
        have hBx : Box4 wr b (off + k * 4) _ _ _ _ := ⟨hc0, hc1, hc2, hc3⟩
        have hBy : Box4 wr b' (off' + k * 4) _ _ _ _ := ⟨hd0, hd1, hd2, hd3⟩
        have hq := fun (w' : World) (hW : Below wr.heap.size wr w') => l2Same_any (xs.getD k txnNo) (ys.getD k txnNo) b (off + k * 4) b' (off' + k * 4) aa aa' cc cc' w' (hBx.below hW) (hBy.below hW) (hA.below hW) (hA'.below hW) (by omega) (by omega)
        clear hBx hBy hA hA' hc0 hc1 hc2 hc3 hd0 hd1 hd2 hd3
        cases hs : sameT (xs.getD k txnNo) (ys.getD k txnNo)
        case false =>
          have E : Hid (sameTs xs ys = false) := same_bad (f := sameT) txnNo (fun _ _ _ _ => rfl) xs ys k HL.out hlt hs
          rw [hs] at hq
          clear HA hs hzl hzl'
          have hW : Below wr.heap.size wr wr.drew := (Below.refl _ _).drew
          have hne : Nonempty (Lat wr) := ⟨⟨wr, Below.refl _ _⟩⟩
          go_wp2_with fail
          refine text_begin (S := fun w' => ∃ u : Lat wr, w' = u.val) (by kernel_rfl) ?_
          refine sgr [(0, 6)] 2 (by kernel_rfl) ⟨⟨_, hW⟩, rfl⟩ ?_
          simp only [pkE]
          repeat go_big_quiet_step (fail)
          refine wpQuiet_nil ?_
          refine cla 6 (some 23) 21 #[.pointer (some ⟨b, off + k * 4, none⟩), .pointer (some ⟨b', off' + k * 4, none⟩)] 1 (by kernel_rfl) ?_
          refine (hq _ hW).mono ?_
          rintro e w2 ⟨rfl, hb2⟩
          replace hW := hW.trans (hb2.mono hW.size)
          clear hb2 hq
          refine ⟨_, rfl, ⟨⟨_, hW⟩, rfl⟩, ?_⟩
          simp only [Act.put, pjE]
          refine sgr [(7, 1)] 0 (by kernel_rfl) ⟨⟨_, hW⟩, rfl⟩ ?_
          simp only [pkE]
          repeat go_big_quiet_step (fail)
          refine wpQuiet_nil ?_
          refine text_end (by kernel_rfl) ?_
          replace hb := hb.trans (hW.mono hb.size)
          clear hW hne
          go_wp2
          go_ret
          rw [E.out]
          exact ⟨rfl, hb⟩
        case true =>
          have HB : Hid (∀ j, j < k + 1 → sameT (xs.getD j txnNo) (ys.getD j txnNo) = true) := by
            intro j hj
            by_cases hjk : j = k
            · subst hjk; exact hs
            · exact HA.out j (by omega)
          rw [hs] at hq
          clear HA hs hzl hzl'
          have hW : Below wr.heap.size wr wr.drew := (Below.refl _ _).drew
          have hne : Nonempty (Lat wr) := ⟨⟨wr, Below.refl _ _⟩⟩
          go_wp2_with fail
          refine text_begin (S := fun w' => ∃ u : Lat wr, w' = u.val) (by kernel_rfl) ?_
          refine sgr [(0, 6)] 2 (by kernel_rfl) ⟨⟨_, hW⟩, rfl⟩ ?_
          simp only [pkE]
          repeat go_big_quiet_step (fail)
          refine wpQuiet_nil ?_
          refine cla 6 (some 23) 21 #[.pointer (some ⟨b, off + k * 4, none⟩), .pointer (some ⟨b', off' + k * 4, none⟩)] 1 (by kernel_rfl) ?_
          refine (hq _ hW).mono ?_
          rintro e w2 ⟨rfl, hb2⟩
          replace hW := hW.trans (hb2.mono hW.size)
          clear hb2 hq
          refine ⟨_, rfl, ⟨⟨_, hW⟩, rfl⟩, ?_⟩
          simp only [Act.put, pjE]
          refine sgr [(7, 1)] 0 (by kernel_rfl) ⟨⟨_, hW⟩, rfl⟩ ?_
          simp only [pkE]
          repeat go_big_quiet_step (fail)
          refine wpQuiet_nil ?_
          refine text_end (by kernel_rfl) ?_
          replace hb := hb.trans (hW.mono hb.size)
          clear hW hne
          go_wp2
          go_roundw
          case rel => exact ⟨k + 1, by omega, by go_num, hb, HB⟩
          case measure => simp [intOf]; omega
      · have E : Hid (sameTs xs ys = true) := same_all (f := sameT) txnNo rfl (fun _ _ _ _ => rfl) xs ys HL.out (fun j hj => HA.out j (by omega))
        clear HA
        go_wp2
        go_ret
        rw [E.out]
        exact ⟨rfl, hb⟩

end Go.Proofs.Yticfbapipdhhmaa
