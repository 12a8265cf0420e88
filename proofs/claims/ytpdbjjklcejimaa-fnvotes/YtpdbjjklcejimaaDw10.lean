/- What DrawReadVote tells at whatever bytes; the laws' choices beyond 200; two lists of bytes held against one another. No condition. -/
import Derived.Test.YtpdbjjklcejimaaDv10
import Derived.Test.YtpdbjjklcejimaaVm10
import Derived.Test.YtpdbjjklcejimaaLawAt
namespace Go.Proofs.Ytpdbjjklcejimaa
open Go.RowKit
open Go.BigFrame
set_option linter.unusedVariables false
set_option linter.unusedSimpArgs false

theorem set_u8 {ps : List Int} (h : ∀ i, 0 ≤ ps.getD i 0 ∧ ps.getD i 0 ≤ 255) (j : Nat) {v : Int} (hv : 0 ≤ v ∧ v ≤ 255) : ∀ i, 0 ≤ (ps.set j v).getD i 0 ∧ (ps.set j v).getD i 0 ≤ 255 := by
  intro i
  have hi := h i
  simp only [List.getD, List.getElem?_set] at hi ⊢
  split
  · split
    · simpa using hv
    · simp
  · exact hi

set_option maxHeartbeats 2000000 in
theorem lwAt_big (a : Option Addr) (cap : Nat) (zs : List Int) (i : Nat) (n : Int) (w : World) (h : Row .u8 w a zs) (hu : ∀ i, 0 ≤ zs.getD i 0 ∧ zs.getD i 0 ≤ 255) (hm : zs.length ≤ 1048576) (hi : i ≤ 1000) (hn1 : 200 < n) (hn : n ≤ 1000) :
    Calls Try.prog 17 #[.slice a zs.length cap, .int .i64 i, .int .i64 n] w fun e w' => ∃ r : Int, e = .returned (.int .i64 r) ∧ 0 ≤ r ∧ r < n ∧ Below w.heap.size w w' := by
  by_cases hz : zs.length = 0
  · have hz' : ((zs.length : Int) == 0) = true := by simp [hz]
    have hr := InR.mod ((i : Int) * 7) n (by omega)
    clear h hz hm
    go_enter Try.func17, Try.ntmps17
    go_wp2
    go_ret
    exact ⟨_, rfl, hr.1, hr.2.1 (by omega), Below.refl _ _⟩
  · have hz' : ((zs.length : Int) == 0) = false := by rw [beq_eq_false_iff_ne]; omega
    have hpos : 0 < zs.length := by omega
    have hm1 : i % zs.length < zs.length := Nat.mod_lt _ hpos
    have hm2 : (i + 1) % zs.length < zs.length := Nat.mod_lt _ hpos
    obtain ⟨b', off, rfl, e2, c1⟩ := h _ hm1
    obtain ⟨b2, off2, e3, _, c2⟩ := h _ hm2
    simp only [Option.some.injEq, Addr.mk.injEq, and_true] at e3
    obtain ⟨rfl, rfl⟩ := e3
    have u1 := hu (i % zs.length)
    have u2 := hu ((i + 1) % zs.length)
    have hq : (i : Int) / (zs.length : Int) ≤ 1000 := Int.le_trans (Int.ediv_le_self _ (by omega)) (by omega)
    have hq0 : 0 ≤ (i : Int) / (zs.length : Int) := Int.ediv_nonneg (by omega) (by omega)
    generalize zs.getD (i % zs.length) 0 = x at c1 u1
    generalize zs.getD ((i + 1) % zs.length) 0 = y at c2 u2
    have m0 : 0 ≤ (i : Int) % (zs.length : Int) := Int.emod_nonneg _ (by omega)
    have m1 : (i : Int) % (zs.length : Int) < (zs.length : Int) := Int.emod_lt_of_pos _ (by omega)
    have m2 : 0 ≤ ((i : Int) + 1) % (zs.length : Int) := Int.emod_nonneg _ (by omega)
    have m3 : ((i : Int) + 1) % (zs.length : Int) < (zs.length : Int) := Int.emod_lt_of_pos _ (by omega)
    clear hu h hz
    go_enter Try.func17, Try.ntmps17
    go_wp2
    go_quiet (fail)
    go_wp2
    go_ret
    refine ⟨_, rfl, (InR.mod _ n (by omega)).1, (InR.mod _ n (by omega)).2.1 (by omega), below_dN (Below.refl _ _) _⟩

set_option maxHeartbeats 1000000 in
theorem lwBytes_true10 (a b : Option Addr) (c d : Nat) (xs : List Int) (w : World) (pa : Pla a) (pb : Pla b) (h1 : Row .u8 w a xs) (h2 : Row .u8 w b xs) :
    Calls Try.prog 14 #[.slice a xs.length c, .slice b xs.length d] w fun e w' => e = .returned (.bool true) ∧ w' = w := by
  have g1 := conv_bytes pa h1 c
  have g2 := conv_bytes pb h2 d
  clear h1 h2
  have hx : ((strOfNums xs).toList == (strOfNums xs).toList) = true := by simp
  generalize strOfNums xs = S at g1 g2 hx
  go_enter Try.func14, Try.ntmps14
  go_wp2
  go_ret
  exact ⟨by first | rfl | simp | (simp [hx]), rfl⟩

set_option maxRecDepth 100000 in
set_option maxHeartbeats 2000000 in
theorem drawReadVote_any (a : Option Addr) (cap : Nat) (bs : List Int) (w : World) (h : Row .u8 w a bs) (hu : ∀ i, 0 ≤ bs.getD i 0 ∧ bs.getD i 0 ≤ 255) (hl : bs.length ≤ 1048576) :
    Calls Try.prog 9 #[.slice a bs.length cap] w fun e w' => ∃ (b : Option Addr) (k : Nat) (ds : List Int), e = .returned (.slice b ds.length k) ∧ (ds.length ≤ 11 ∧ ds.length ≤ k ∧ Pla b) ∧ (∀ i, 0 ≤ ds.getD i 0 ∧ ds.getD i 0 ≤ 255) ∧ Row .u8 w' b ds ∧ Below w.heap.size w w' := by
  go_enter Try.func9, Try.ntmps9
  go_wp2_with fail
  refine (source_any w.heap.size a cap bs w (Nat.le_refl _) hl hu h).mono ?_
  rintro e w1 ⟨rfl, hS, hb⟩
  have hlt := hS.lt
  go_wp2_with fail
  refine (l10Draw_any w.heap.size w.heap.size 0 w1 hS (by omega)).mono ?_
  rintro e w2 ⟨i, s, q, z, rfl, hF, hS2, hg2⟩
  replace hb := below_of_src hb hg2 (Nat.le_refl _)
  clear hg2 hS
  have hlt2 := hS2.lt
  have hbA : Below w2.heap.size w2 (w2.alloc (.cells #[.int .i64 i, .int .i64 s, .int .i64 q, .int .i64 z] 26)) := by go_grown
  have Bt := Blk.new w2 26 #[.int .i64 i, .int .i64 s, .int .i64 q, .int .i64 z]
  replace hS2 := hS2.below hbA
  replace hb := hb.trans (hbA.mono hb.size)
  have hs3 : w2.heap.size + 1 = (w2.alloc (.cells #[.int .i64 i, .int .i64 s, .int .i64 q, .int .i64 z] 26)).heap.size := by simp
  go_wp2_with fail
  generalize w2.alloc (.cells #[.int .i64 i, .int .i64 s, .int .i64 q, .int .i64 z] 26) = w3 at hbA Bt hS2 hb hs3
  clear hbA
  have hB4 : Box4 w3 w2.heap.size 0 (.int .i64 i) (.int .i64 s) (.int .i64 q) (.int .i64 z) := ⟨Bt.cell 0 _ rfl, by simpa using Bt.cell 1 _ rfl, by simpa using Bt.cell 2 _ rfl, by simpa using Bt.cell 3 _ rfl⟩
  have hpk := l10Pack_any w2.heap.size 0 i s q z w3 hB4 hF
  have hpl : (vpB ⟨i, s, q, z⟩).length = 11 := vpB_len _
  have hpu : ∀ j, 0 ≤ (vpB ⟨i, s, q, z⟩).getD j 0 ∧ (vpB ⟨i, s, q, z⟩).getD j 0 ≤ 255 := by
    have := vpR_u8 ⟨i, s, q, z⟩
    rw [show vpR ⟨i, s, q, z⟩ = vpB ⟨i, s, q, z⟩ from if_pos hF] at this
    exact this
  clear hF hB4 Bt
  generalize vpB ⟨i, s, q, z⟩ = ps at hpk hpl hpu
  have HL : Hid (ps.length = 11) := hpl
  replace hpl : 11 ≤ ps.length ∧ ps.length ≤ 11 := by omega
  refine hpk.mono ?_
  rintro e w4 ⟨a4, k4, rfl, o4, hb4⟩
  replace hS2 := hS2.below hb4
  replace hb := hb.trans (hb4.mono hb.size)
  clear hpk hb4
  have hnb : some w.heap.size ≠ Value.ownBlock (.slice a4 ps.length k4) := own_not o4 (Or.inl (by omega))
  obtain ⟨g, rfl⟩ := own_some o4 (by omega)
  have hgw : w.heap.size ≤ g := by have := (o4.lt g rfl).1; omega
  have HPU : Hid (∀ i, 0 ≤ ps.getD i 0 ∧ ps.getD i 0 ≤ 255) := hpu
  clear hpu
  have hcap0 : ps.length ≤ k4 := by
    rcases o4.2 with ⟨he, _⟩ | ⟨g', cap', cur, he, _, _, hc, _⟩
    · simp at he
    · simp only [Value.slice.injEq] at he
      omega
  go_wp2_with fail
  refine (next_any w.heap.size w.heap.size 4 4 w4 hS2 (by omega) (by omega)).mono ?_
  rintro e w5 ⟨r, rfl, hr, hS5, hg5⟩
  replace hb := below_of_src hb hg5 (Nat.le_refl _)
  have o5 := o4.kept hg5 (Or.inr (fun e => hnb e.symm))
  clear hg5 o4 hS2
  by_cases hr0 : r = 0
  · subst hr0
    go_wp2_with fail
    refine (next_any w.heap.size w.heap.size 5 11 w5 hS5 (by omega) (by omega)).mono ?_
    rintro e w6 ⟨jj, rfl, hj, hS6, hg6⟩
    replace hb := below_of_src hb hg6 (Nat.le_refl _)
    replace o5 := o5.kept hg6 (Or.inr (fun e => hnb e.symm))
    have hj1 := hj.2.1 (by omega)
    obtain ⟨j, rfl⟩ := Int.eq_ofNat_of_zero_le hj.1
    have hjl : j < ps.length := by omega
    clear hg6 hS5 hj hj1
    have hlt6 := hS6.lt
    replace o5 := o5.alloc (.cells #[.int .i64 0, .int .i64 1, .int .i64 255, .int .i64 5] 2)
    go_wp2_with fail
    refine (pick_any w.heap.size w.heap.size 6 w6.heap.size _ [0, 1, 255, 5] _ (hS6.below (by go_grown)) (by omega) (World.ownsRow_lit w6 _ 4 (Nat.le_refl _) (by decide) rfl) (by simp) (by simp) (by simp [Value.ownBlock]; omega)).mono ?_
    rintro e w7 ⟨v, rfl, hmem, hS7, hg7⟩
    replace hb := below_of_src (hb.alloc hb.size _) hg7 (Nat.le_refl _)
    replace o5 := o5.kept hg7 (Or.inr (fun e => hnb e.symm))
    have hv : 0 ≤ v ∧ v ≤ 255 := by simp at hmem; omega
    clear hmem hg7 hS6 hS7
    have hfz : w7.frozen? ⟨g, j, none⟩ = false := o5.frozenAt j
    obtain ⟨u, hcu⟩ : ∃ u, w7.cell? ⟨g, j, none⟩ = some u := by
      rw [o5.cellAt j (by omega)]
      exact ⟨_, List.getElem?_eq_getElem (by simp; omega)⟩
    have hst := o5.stored j (.int .u8 v)
    rw [← List.map_set] at hst
    have R : Hid (Row .u8 (w7.setCell ⟨g, j, none⟩ (.int .u8 v)) (some ⟨g, 0, none⟩) (ps.set j v) ∧ Below w.heap.size w (w7.setCell ⟨g, j, none⟩ (.int .u8 v)) ∧ ∀ i, 0 ≤ (ps.set j v).getD i 0 ∧ (ps.set j v).getD i 0 ≤ 255) :=
      ⟨Row.own (n := ps.length) hst.1, hb.setCell hgw _, set_u8 HPU.out j hv⟩
    clear hst o5 hb HPU
    go_wp2
    go_ret
    refine ⟨some ⟨g, 0, none⟩, k4, ps.set j v, by simp, ⟨by simp; omega, by simp; omega, Or.inr ⟨g, 0, rfl⟩⟩, R.out.2.2, R.out.1, R.out.2.1⟩
  · have hr0' : (r == 0) = false := by simpa using hr0
    by_cases hr1' : r = 1
    · subst hr1'
      have hcap : ps.length ≤ k4 := by
        rcases o5.2 with ⟨he, _⟩ | ⟨g', cap', cur, he, _, _, hc, _⟩
        · simp at he
        · simp only [Value.slice.injEq] at he
          omega
      clear hr0 hr0'
      go_wp2_with fail
      refine (next_any w.heap.size w.heap.size 5 11 w5 hS5 (by omega) (by omega)).mono ?_
      rintro e w6 ⟨jj, rfl, hj, hS6, hg6⟩
      replace hb := below_of_src hb hg6 (Nat.le_refl _)
      replace o5 := o5.kept hg6 (Or.inr (fun e => hnb e.symm))
      have hj1 := hj.2.1 (by omega)
      obtain ⟨j, rfl⟩ := Int.eq_ofNat_of_zero_le hj.1
      have hjl : j < ps.length := by omega
      clear hg6 hS5 hj hj1 hS6
      go_wp2
      go_ret
      have hmin : min j ps.length = j := by omega
      exact ⟨some ⟨g, 0, none⟩, k4, ps.take j, by simp [hmin], ⟨by simp; omega, by simp; omega, Or.inr ⟨g, 0, rfl⟩⟩, take_u8' HPU.out j, (Row.own o5).take j, hb⟩
    · have hr1'' : (r == 1) = false := by simpa using hr1'
      clear hr hr0 hr1'
      go_wp2
      go_ret
      exact ⟨some ⟨g, 0, none⟩, k4, ps, rfl, ⟨by omega, by omega, Or.inr ⟨g, 0, rfl⟩⟩, HPU.out, Row.own o5, hb⟩

end Go.Proofs.Ytpdbjjklcejimaa
