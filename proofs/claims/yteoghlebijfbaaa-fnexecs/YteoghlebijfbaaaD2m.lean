/- Marking a list of transactions turns its own memory alone. -/
import Derived.Test.YteoghlebijfbaaaD2s
namespace Go.Proofs.Yteoghlebijfbaaa
open Go.RowKit
set_option linter.unusedVariables false
set_option linter.unusedSimpArgs false

theorem own_again {w w' : World} {lo e s n n' : Nat} {v v' : Value} {xs xs2 xs' : List Value} (h : w.ownsRow lo e s v n xs) (h2 : w'.ownsRow lo e s v n xs2) (hg : w.grownBy w' v.ownBlock) (h' : w.ownsRow lo e s v' n' xs') : ∃ ys, w'.ownsRow lo e s v' n' ys := by
  rcases h'.2 with ⟨rfl, rfl⟩ | ⟨g', cap', cur', rfl, hb', hh', hn', hm', hs', ht'⟩
  · exact ⟨[], World.ownsRow_nil _ _ _ _⟩
  · by_cases hgg : v.ownBlock = some g'
    · rcases h.2 with ⟨rfl, _⟩ | ⟨g, cap, cur, rfl, hb, hh, _, _, hs, _⟩
      · simp [Value.ownBlock] at hgg
      · simp only [Value.ownBlock, Option.some.injEq] at hgg
        subst hgg
        rcases h2.2 with ⟨he, _⟩ | ⟨g2, cap2, cur2, he, _, hh2, _, _, hs2, _⟩
        · simp at he
        · simp only [Value.slice.injEq, Option.some.injEq, Addr.mk.injEq, and_true, true_and] at he
          obtain ⟨rfl, rfl⟩ := he
          rw [hh] at hh'
          simp only [Option.some.injEq, Obj.cells.injEq] at hh'
          obtain ⟨rfl, _⟩ := hh'
          refine ⟨cur2.toList.take (n' * s), ?_, Or.inr ⟨_, cap', cur2, rfl, hb', hh2, hn', hm', by omega, rfl⟩⟩
          have : n' * s ≤ cap' * s := Nat.mul_le_mul_right _ hn'
          simp; omega
    · exact ⟨xs', h'.kept hg (Or.inr (fun e => hgg e.symm))⟩

theorem only_set {lo hi g j : Nat} {w wr : World} {u : Value} (h : Only lo hi w wr) (h1 : lo ≤ g) (h2 : g < hi) : Only lo hi w (wr.setCell ⟨g, j, none⟩ u) :=
  ⟨h.os, h.tape, h.output, by simpa [World.setCell] using h.size, fun k hk hc => by rw [Below.heap_setCell _ _ _ _ (by dsimp only; omega)]; exact h.block k hk hc⟩

set_option maxHeartbeats 2000000 in
theorem markTxnS_c (lo hi : Nat) (v : Value) (ds : List TxnD) (c : Int) (w : World) (h : OwnTxns lo hi w v ds) (hl : ds.length + sumA ds ≤ 1048576) (h0 : 0 ≤ c) (h1 : c ≤ 16777216) :
    Calls Try.prog 45 #[v, .int .i64 c] w fun e w' => ∃ m, e = .returned (.int .i64 m) ∧ (c ≤ m ∧ m ≤ c + 3145728) ∧ Only lo hi w w' := by
  obtain ⟨g, cap, ps, rfl, hg, hd, ho0, hp0⟩ := h
  have hpl : ps.length = ds.length := by rw [← hd]; simp
  have hlo : lo ≤ g := (ho0.lt g rfl).1
  have hcl := txnCells_length ps
  have HS0 : Hid (∀ j, j < ds.length → (txnCells ps)[j * 4 + 3]? = some (ps.getD j txnPNo).sl) := fun j hj => (txnCells_get ps j (by omega)).2.2.2
  have HP0 : Hid (∀ p ∈ ps, (∃ ys, w.ownsRow lo 90 3 p.sl p.d.acts.length ys)) := fun p hp => ⟨_, (hp0 p hp).1⟩
  have HB : Hid (∀ p ∈ ps, ∀ k, p.sl.ownBlock = some k → k < hi ∧ k ≠ g) := fun p hp => (hp0 p hp).2
  have HL : Hid (∀ p ∈ ps, p.d.acts.length ≤ 1048576) := fun p hp => by
    have := mem_le_sumA (ds := ds) (d := p.d) (by rw [← hd]; exact List.mem_map_of_mem hp)
    omega
  have HDD : Hid (ps.map TxnP.d = ds) := hd
  clear hp0 hd
  go_enter Try.func45, Try.ntmps45
  go_wp2
  go_loopw [1, 5] (fun j i wr => ∃ (k : Nat) (x : Int) (xs : List Value), k ≤ ds.length ∧ i = .int .i64 k ∧ j = .int .i64 x ∧ 0 ≤ x ∧ Hid (x = c + 3 * (k : Int) + 3 * (sumA (ds.take k) : Int)) ∧ wr.ownsRow lo 27 4 (.slice (some ⟨g, 0, none⟩) ds.length cap) ds.length xs ∧ Hid (∀ j, j < ds.length → xs[j * 4 + 3]? = some (ps.getD j txnPNo).sl) ∧ Hid (∀ p ∈ ps, (∃ ys, wr.ownsRow lo 90 3 p.sl p.d.acts.length ys)) ∧ Only lo hi w wr) (fun _ i _ => ds.length - (intOf i).toNat)
  case atStart => exact ⟨0, c, _, Nat.zero_le _, rfl, rfl, by omega, show c = _ by simp [sumA], ho0, HS0, HP0, Only.refl _ _ _⟩
  case round =>
    obtain ⟨k, x, xs, hk, rfl, rfl, hx0, HX, ho, HS, HP, hO⟩ := hrel
    by_cases hlt : k < ds.length
    · have hxl : xs.length = ds.length * 4 := ho.1
      have hm : ps.getD k txnPNo ∈ ps := by simp [List.getD, show k < ps.length by omega]
      have hc : ∀ j, j < ds.length * 4 → ∃ u, wr.cell? ⟨g, j, none⟩ = some u := fun j hj => by
        rw [ho.cellAt j hj]
        exact ⟨_, List.getElem?_eq_getElem (by omega)⟩
      obtain ⟨u0, e0⟩ := hc (k * 4) (by omega)
      obtain ⟨u1, e1⟩ := hc (k * 4 + 1) (by omega)
      obtain ⟨u2, e2⟩ := hc (k * 4 + 2) (by omega)
      have e3 : wr.cell? ⟨g, k * 4 + 3, none⟩ = some (ps.getD k txnPNo).sl := by rw [ho.cellAt _ (by omega)]; exact HS.out k hlt
      have f0 := ho.frozenAt (k * 4)
      have f1 := ho.frozenAt (k * 4 + 1)
      have f2 := ho.frozenAt (k * 4 + 2)
      have hx1 : x ≤ 25165824 := by have := HX.out; have := sumA_take_le ds k; omega
      have HZ : Hid (sumA (ds.take (k + 1)) = sumA (ds.take k) + (ps.getD k txnPNo).d.acts.length) := by
        have e : (ps.getD k txnPNo).d = ds.getD k txnNo := by rw [← HDD.out]; simp [List.getD, show k < ps.length by omega]
        show _ = _
        rw [e]; exact sumA_take_succ ds k hlt
      have hs := (((ho.stored (k * 4) (.int .i64 x)).1.stored (k * 4 + 1) (.int .i64 (x + 1))).1.stored (k * 4 + 2) (.int .i64 (x + 1 + 1))).1
      have HS2 : Hid (∀ j, j < ds.length → (((xs.set (k * 4) (.int .i64 x)).set (k * 4 + 1) (.int .i64 (x + 1))).set (k * 4 + 2) (.int .i64 (x + 1 + 1)))[j * 4 + 3]? = some (ps.getD j txnPNo).sl) := by
        intro j hj
        rw [List.getElem?_set_ne (by omega), List.getElem?_set_ne (by omega), List.getElem?_set_ne (by omega)]
        exact HS.out j hj
      obtain ⟨ys, hys⟩ := HP.out _ hm
      have hne := fun k hk => (HB.out _ hm k hk).2
      have hys3 := own_set_other (j := k * 4 + 2) (u := .int .i64 (x + 1 + 1)) (own_set_other (j := k * 4 + 1) (u := .int .i64 (x + 1)) (own_set_other (j := k * 4) (u := .int .i64 x) hys hne) hne) hne
      have HP3 : Hid (∀ p ∈ ps, (∃ ys, (((wr.setCell ⟨g, k * 4, none⟩ (.int .i64 x)).setCell ⟨g, k * 4 + 1, none⟩ (.int .i64 (x + 1))).setCell ⟨g, k * 4 + 2, none⟩ (.int .i64 (x + 1 + 1))).ownsRow lo 90 3 p.sl p.d.acts.length ys)) := fun p hp => by
        obtain ⟨zs, hz⟩ := HP.out p hp
        have hne := fun k hk => (HB.out p hp k hk).2
        exact ⟨zs, own_set_other (own_set_other (own_set_other hz hne) hne) hne⟩
      have hO3 : Only lo hi w (((wr.setCell ⟨g, k * 4, none⟩ (.int .i64 x)).setCell ⟨g, k * 4 + 1, none⟩ (.int .i64 (x + 1))).setCell ⟨g, k * 4 + 2, none⟩ (.int .i64 (x + 1 + 1))) := only_set (only_set (only_set hO hlo hg) hlo hg) hlo hg
      have hbk : ∀ j, (ps.getD k txnPNo).sl.ownBlock = some j → lo ≤ j ∧ j < hi := fun j hj => ⟨(hys.lt j hj).1, (HB.out _ hm j hj).1⟩
      have hap : (Value.slice (some ⟨g, 0, none⟩) ds.length cap).ownBlock ≠ (ps.getD k txnPNo).sl.ownBlock := fun e => (HB.out _ hm g e.symm).2 rfl
      have hal := HL.out _ hm
      clear hys HP hO HS ho hc hne hm
      generalize (ps.getD k txnPNo) = p at e3 hys3 hbk hap hal HZ
      obtain ⟨⟨i0, i1, i2, za⟩, aa, cc⟩ := p
      simp only [TxnP.sl] at e3 hys3 hbk hap hal
      have HZ' : Hid (sumA (ds.take (k + 1)) = sumA (ds.take k) + za.length) := HZ
      clear HZ
      have HH : Hid (_ ∧ _) := ⟨hys3, hs⟩
      clear hys3 hs
      go_wp2_with fail
      refine (markActS_any lo _ za.length ys (x + 1 + 1 + 1) _ HH.out.1 (by omega) (by omega) (by omega)).mono ?_
      rintro e w2 ⟨rfl, o2, hg2⟩
      have hrow := HH.out.2.kept hg2 (Or.inr hap)
      have HP4 : Hid (∀ p ∈ ps, (∃ ys, w2.ownsRow lo 90 3 p.sl p.d.acts.length ys)) := fun p hp => by
        obtain ⟨zs, hz⟩ := HP3.out p hp
        exact own_again HH.out.1 o2 hg2 hz
      have hO4 := hO3.trans (only_of_grown hg2 hbk)
      have HX2 : Hid (0 ≤ x + 1 + 1 + 1 + ((za.length * 3 : Nat) : Int) ∧ x + 1 + 1 + 1 + ((za.length * 3 : Nat) : Int) = c + 3 * ((k + 1 : Nat) : Int) + 3 * (sumA (ds.take (k + 1)) : Int)) := by
        have := HX.out
        have := HZ'.out
        constructor <;> omega
      generalize x + 1 + 1 + 1 + ((za.length * 3 : Nat) : Int) = y at HX2
      clear HH HP3 hO3 HX o2 hg2
      have R : Hid (_ ∧ _ ∧ _) := ⟨hrow, HP4, hO4⟩
      clear hrow HP4 hO4
      go_wp2
      go_roundw
      case rel => exact ⟨k + 1, y, _, by omega, by go_num, rfl, HX2.out.1, HX2.out.2, R.out.1, HS2, R.out.2.1, R.out.2.2⟩
      case measure => simp [intOf]; omega
    · have hfin : c ≤ x ∧ x ≤ c + 3145728 := by
        have := HX.out
        have := sumA_take_le ds k
        omega
      clear HX
      go_wp2
      go_ret
      exact ⟨_, rfl, hfin, hO⟩

theorem markTxnS_any (lo hi : Nat) (v : Value) (ds : List TxnD) (w : World) (h : OwnTxns lo hi w v ds) (hl : ds.length + sumA ds ≤ 1048576) :
    Calls Try.prog 45 #[v, .int .i64 1] w fun e w' => ∃ m, e = .returned (.int .i64 m) ∧ ¬ m < 0 ∧ Only lo hi w w' := by
  refine (markTxnS_c lo hi v ds 1 w h hl (by omega) (by omega)).mono ?_
  rintro e w' ⟨m, rfl, hm, ho⟩
  exact ⟨m, rfl, by omega, ho⟩

end Go.Proofs.Yteoghlebijfbaaa
