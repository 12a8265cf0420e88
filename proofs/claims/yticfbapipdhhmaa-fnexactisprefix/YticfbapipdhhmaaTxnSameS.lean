/- SameTxns of the model, walked: whether two lists of transactions are alike. No condition. -/
import Derived.Test.YticfbapipdhhmaaTxnSame
namespace Go.Proofs.Yticfbapipdhhmaa
open Go.RowKit
open Go.BigFrame
set_option linter.unusedVariables false
set_option linter.unusedSimpArgs false

theorem sameT_ways2 (x y : TxnD) : ((x.id != y.id) = true ∧ sameT x y = false) ∨ ((x.id != y.id) = false ∧ (x.session != y.session) = true ∧ sameT x y = false) ∨ ((x.id != y.id) = false ∧ (x.session != y.session) = false ∧ (x.seq != y.seq) = true ∧ sameT x y = false) ∨
    ((x.id != y.id) = false ∧ (x.session != y.session) = false ∧ (x.seq != y.seq) = false ∧ ((x.acts.length : Int) != (y.acts.length : Int)) = true ∧ sameT x y = false) ∨
    ((x.id != y.id) = false ∧ (x.session != y.session) = false ∧ (x.seq != y.seq) = false ∧ ((x.acts.length : Int) != (y.acts.length : Int)) = false ∧ sameT x y = sameAs x.acts y.acts) := by
  by_cases hl : x.acts.length = y.acts.length
  · rcases sameT_ways x y with ⟨h1, e⟩ | ⟨h1, h2, e⟩ | ⟨h1, h2, h3, e⟩ | ⟨h1, h2, h3, e⟩ <;> simp [bne, *]
  · have hs : sameAs x.acts y.acts = false := same_len (f := sameA) rfl (fun _ _ _ _ => rfl) (fun _ _ => rfl) (fun _ _ => rfl) _ _ hl
    have hl2 : ¬ ((x.acts.length : Int) = (y.acts.length : Int)) := by omega
    rcases sameT_ways x y with ⟨h1, e⟩ | ⟨h1, h2, e⟩ | ⟨h1, h2, h3, e⟩ | ⟨h1, h2, h3, e⟩ <;> simp [bne, *]

set_option maxRecDepth 100000 in
set_option maxHeartbeats 4000000 in
theorem l2Same_any (x y : TxnD) (b o b' o' : Nat) (a a' : Option Addr) (cap cap' : Nat) (w : World) (hB : Box4 w b o (.int .i64 x.id) (.int .i64 x.session) (.int .i64 x.seq) (.slice a x.acts.length cap)) (hB' : Box4 w b' o' (.int .i64 y.id) (.int .i64 y.session) (.int .i64 y.seq) (.slice a' y.acts.length cap'))
    (h : ActRow w a x.acts) (h' : ActRow w a' y.acts) (hl : x.acts.length ≤ 1048576) (hl' : y.acts.length ≤ 1048576) :
    Calls Try.prog 21 #[.pointer (some ⟨b, o, none⟩), .pointer (some ⟨b', o', none⟩)] w fun e w' => e = .returned (.bool (sameT x y)) ∧ Below w.heap.size w w' := by
  obtain ⟨c0, c1, c2, c3⟩ := hB
  obtain ⟨d0, d1, d2, d3⟩ := hB'
  rcases sameT_ways2 x y with ⟨h1, e⟩ | ⟨h1, h2, e⟩ | ⟨h1, h2, h3, e⟩ | ⟨h1, h2, h3, h4, e⟩ | ⟨h1, h2, h3, h4, e⟩ <;> rw [e] <;> clear e <;> obtain ⟨x0, x1, x2, xs⟩ := x <;> obtain ⟨y0, y1, y2, ys⟩ := y <;> dsimp only at *
  · go_enter Try.func21, Try.ntmps21
    go_wp2_with fail
    go_quiet (fail)
    go_wp2
    go_ret
    exact ⟨rfl, ⟨rfl, rfl, rfl, Nat.le_refl _, fun _ _ => rfl⟩⟩
  · go_enter Try.func21, Try.ntmps21
    go_wp2_with fail
    go_quiet (fail)
    go_wp2
    go_ret
    exact ⟨rfl, ⟨rfl, rfl, rfl, Nat.le_refl _, fun _ _ => rfl⟩⟩
  · go_enter Try.func21, Try.ntmps21
    go_wp2_with fail
    go_quiet (fail)
    go_wp2
    go_ret
    exact ⟨rfl, ⟨rfl, rfl, rfl, Nat.le_refl _, fun _ _ => rfl⟩⟩
  · go_enter Try.func21, Try.ntmps21
    go_wp2_with fail
    go_quiet (fail)
    go_wp2
    go_ret
    exact ⟨rfl, ⟨rfl, rfl, rfl, Nat.le_refl _, fun _ _ => rfl⟩⟩
  · have hlen : xs.length = ys.length := by simp at h4; omega
    have HL : Hid (xs.length = ys.length) := hlen
    clear hlen
    go_enter Try.func21, Try.ntmps21
    go_wp2_with fail
    go_quiet (fail)
    go_wp2
    go_loopw [5] (fun i wr => ∃ k m : Nat, k ≤ xs.length ∧ i = .int .i64 k ∧ wr = w.drewN m ∧ Hid (∀ j, j < k → sameA (xs.getD j actNo) (ys.getD j actNo) = true)) (fun i _ => xs.length - (intOf i).toNat)
    case atStart => exact ⟨0, _, Nat.zero_le _, rfl, rfl, fun j hj => absurd hj (Nat.not_lt_zero _)⟩
    case round =>
      obtain ⟨k, m, hk, rfl, rfl, HA⟩ := hrel
      by_cases hlt : k < xs.length
      · have hlt' : k < ys.length := by have := HL.out; omega
        obtain ⟨bb, off, rfl, hbs, hc0, hc1, hc2⟩ := h.at k hlt
        obtain ⟨bb', off', rfl, hbs', hd0, hd1, hd2⟩ := h'.at k hlt'
        have hr := eqAct_run (xs.getD k actNo).kind (xs.getD k actNo).key (xs.getD k actNo).val (ys.getD k actNo).kind (ys.getD k actNo).key (ys.getD k actNo).val
        cases hs : sameA (xs.getD k actNo) (ys.getD k actNo)
        case false =>
          have E : Hid (sameAs xs ys = false) := same_bad (f := sameA) actNo (fun _ _ _ _ => rfl) xs ys k HL.out hlt hs
          rw [show sameA ⟨(xs.getD k actNo).kind, (xs.getD k actNo).key, (xs.getD k actNo).val⟩ ⟨(ys.getD k actNo).kind, (ys.getD k actNo).key, (ys.getD k actNo).val⟩ = false from hs, Bool.not_false] at hr
          clear HA hs
          generalize xs.getD k actNo = z at hc0 hc1 hc2 hr
          generalize ys.getD k actNo = z' at hd0 hd1 hd2 hr
          go_wp2
          go_quiet (fail)
          go_wp2
          go_ret
          rw [E.out]
          exact ⟨rfl, ⟨rfl, rfl, rfl, Nat.le_refl _, fun _ _ => rfl⟩⟩
        case true =>
          have HB : Hid (∀ j, j < k + 1 → sameA (xs.getD j actNo) (ys.getD j actNo) = true) := by
            intro j hj
            by_cases hjk : j = k
            · subst hjk; exact hs
            · exact HA.out j (by omega)
          rw [show sameA ⟨(xs.getD k actNo).kind, (xs.getD k actNo).key, (xs.getD k actNo).val⟩ ⟨(ys.getD k actNo).kind, (ys.getD k actNo).key, (ys.getD k actNo).val⟩ = true from hs, Bool.not_true] at hr
          clear HA hs
          generalize xs.getD k actNo = z at hc0 hc1 hc2 hr
          generalize ys.getD k actNo = z' at hd0 hd1 hd2 hr
          go_wp2
          go_quiet (fail)
          go_wp2
          go_roundw
          case rel => exact ⟨k + 1, _, by omega, by go_num, rfl, HB⟩
          case measure => simp [intOf]; omega
      · have E : Hid (sameAs xs ys = true) := same_all (f := sameA) actNo rfl (fun _ _ _ _ => rfl) xs ys HL.out (fun j hj => HA.out j (by omega))
        clear HA
        go_wp2
        go_ret
        rw [E.out]
        exact ⟨rfl, ⟨rfl, rfl, rfl, Nat.le_refl _, fun _ _ => rfl⟩⟩

end Go.Proofs.Yticfbapipdhhmaa
