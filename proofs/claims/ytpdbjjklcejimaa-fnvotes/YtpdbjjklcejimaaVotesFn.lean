/- The law FnVotes, walked: at every list of bytes it answers true, and it writes into nothing that was there. No condition. -/
import Derived.Test.YtpdbjjklcejimaaFv10
import Derived.Test.YtpdbjjklcejimaaDw10
import Derived.Test.YtpdbjjklcejimaaLawBig
import Derived.Test.YtpdbjjklcejimaaVoteSame
namespace Go.Proofs.Ytpdbjjklcejimaa
open Go.RowKit
open Go.BigFrame
set_option linter.unusedVariables false
set_option linter.unusedSimpArgs false

theorem fieldVR0 (c k r n v : Int) (w : World) : (Instr.field 28 (.agg #[.int .i64 c, .int .i64 k, .int .i64 r, .int .i64 n, .int .i64 v]) 0).run Try.prog w = .ok (.int .i64 c) w := by kernel_rfl

theorem fieldVR1 (c k r n v : Int) (w : World) : (Instr.field 28 (.agg #[.int .i64 c, .int .i64 k, .int .i64 r, .int .i64 n, .int .i64 v]) 1).run Try.prog w = .ok (.agg #[.int .i64 k, .int .i64 r, .int .i64 n, .int .i64 v]) w := by kernel_rfl

theorem fieldVB0 (c : Int) (a : Option Addr) (l k : Nat) (w : World) : (Instr.field 32 (.agg #[.int .i64 c, .slice a l k]) 0).run Try.prog w = .ok (.int .i64 c) w := by kernel_rfl

theorem eqlVote_run (x0 x1 x2 x3 : Int) (w : World) : (binOp .eql 26 (.agg #[.int .i64 x0, .int .i64 x1, .int .i64 x2, .int .i64 x3]) (.agg #[.int .i64 x0, .int .i64 x1, .int .i64 x2, .int .i64 x3])).run Try.prog w = .ok (.bool true) w := by
  rw [run_eql_struct, run_equalIn_struct (P := Try.prog) w 9999 26 _ _ (by kernel_rfl) (by kernel_rfl)]
  have c1 : Try.prog.cellsOf 2 = 1 := by kernel_rfl
  simp [Program.fieldsOf, Try.underlying26, Op.eqFields, go_sem, Try.underlying2, c1]

theorem own_cap10' {w : World} {base e s n c : Nat} {a : Option Addr} {xs : List Value} (h : w.ownsRow base e s (.slice a n c) n xs) : n ≤ c := by
  rcases h.2 with ⟨he, hn⟩ | ⟨g, cap, cur, he, _, _, hc, _⟩
  · omega
  · simp only [Value.slice.injEq, true_and] at he
    omega

set_option maxRecDepth 100000 in
set_option maxHeartbeats 4000000 in
theorem votesFn (a : Option Addr) (cap : Nat) (zs : List Int) (w : World) (h : Row .u8 w a zs) (hu : ∀ i, 0 ≤ zs.getD i 0 ∧ zs.getD i 0 ≤ 255) (hm : zs.length ≤ 9223372036854775807) :
    Calls Try.prog 3 #[.slice a zs.length cap] w fun e w' => e = .returned (.bool true) ∧ Below w.heap.size w w' := by
  by_cases hle : zs.length ≤ 1048576
  · have hd : decide (1048576 < (zs.length : Int)) = false := decide_eq_false (by omega)
    go_enter Try.func3, Try.ntmps3
    go_wp2_with fail
    refine (lwBig_any a zs.length cap w hm).mono ?_
    rintro e w1 ⟨rfl, hw⟩
    replace hw := hw.symm
    subst hw
    rw [hd]
    go_wp2_with fail
    refine (drawReadVote_any a cap zs _ h hu hle).mono ?_
    rintro e w2 ⟨bd, kd, ds, rfl, ⟨hd1, hd2, hdp⟩, hdu, hdR, hb⟩
    go_wp2_with fail
    refine (implReadVote_any bd kd ds w2 hdp hdR hdu (by omega) hd2).mono ?_
    rintro e w3 ⟨rfl, hb3⟩
    replace hb := below_from hb hb3
    replace hdR := hdR.below hb3
    clear hb3
    have hsr := fun w h => specReadVote_any bd kd ds w hdp h hdu (by omega) hd2
    have HZ : Hid (rvC ds = 0 → vpR (rvV ds) = ds) := rv_zero hdu
    have HW : Hid (rvC ds = 0 ∨ rvC ds = 5) := rvC_ways ds
    have hip0 := fun w => implPackVote_any (rvV ds).kind (rvV ds).round (rvV ds).node (rvV ds).value w
    change ∀ w, Calls Try.prog 12 #[.agg #[.int .i64 (rvV ds).kind, .int .i64 (rvV ds).round, .int .i64 (rvV ds).node, .int .i64 (rvV ds).value]] w fun e w' => ∃ b c, e = .returned (.agg #[.int .i64 (voteF (rvV ds)), .slice b (vpR (rvV ds)).length c]) ∧ w'.ownsRow w.heap.size 5 1 (.slice b (vpR (rvV ds)).length c) (vpR (rvV ds)).length ((vpR (rvV ds)).map (Value.int .u8)) ∧ Below w.heap.size w w' at hip0
    unfold VoteD.val at hsr ⊢
    generalize rvV ds = U at hsr HZ hip0 ⊢
    generalize rvC ds = C at hsr HZ HW ⊢
    obtain ⟨uk, ur, un, uv⟩ := U
    dsimp only at hsr hip0 ⊢
    generalize voteF ⟨uk, ur, un, uv⟩ = UF at hip0
    have hbx : Below w3.heap.size w3 (w3.alloc (.cells #[.int .i64 C, .int .i64 uk, .int .i64 ur, .int .i64 un, .int .i64 uv] 28)) := by go_grown
    have BU := Blk.new w3 28 #[.int .i64 C, .int .i64 uk, .int .i64 ur, .int .i64 un, .int .i64 uv]
    replace hb := below_from hb hbx
    replace hdR := hdR.below hbx
    clear hbx
    go_wp2_with fail
    generalize hW3 : w3.alloc (.cells #[.int .i64 C, .int .i64 uk, .int .i64 ur, .int .i64 un, .int .i64 uv] 28) = W3 at *
    clear hW3
    generalize w3.heap.size = gu at BU ⊢
    refine (drawPackVote_any a cap zs _ (h.below hb) hu hle).mono ?_
    rintro e w4 ⟨k, r, n, v, rfl, hb4⟩
    replace hb := below_from hb hb4
    replace hdR := hdR.below hb4
    replace BU := BU.below hb4
    clear hb4
    have hbx : Below w4.heap.size w4 (w4.alloc (.cells #[.int .i64 k, .int .i64 r, .int .i64 n, .int .i64 v] 26)) := by go_grown
    have BX := Blk.new w4 26 #[.int .i64 k, .int .i64 r, .int .i64 n, .int .i64 v]
    replace hb := below_from hb hbx
    replace hdR := hdR.below hbx
    replace BU := BU.below hbx
    clear hbx
    go_wp2_with fail
    generalize hW4 : w4.alloc (.cells #[.int .i64 k, .int .i64 r, .int .i64 n, .int .i64 v] 26) = W4 at *
    clear hW4
    generalize w4.heap.size = gx at BX ⊢
    have hip := fun w => implPackVote_any k r n v w
    have hsp := fun w => specPackVote_any k r n v w
    have hvf := fun w => voteFault_any k r n v w
    have H0 : Hid (voteF ⟨k, r, n, v⟩ = 0 → vpR ⟨k, r, n, v⟩ = vpB ⟨k, r, n, v⟩ ∧ rvC (vpB ⟨k, r, n, v⟩) = 0 ∧ rvV (vpB ⟨k, r, n, v⟩) = ⟨k, r, n, v⟩) := fun e => ⟨if_pos e, rv_back e⟩
    have HT : Hid (∀ i b, i < 11 → (0 ≤ b ∧ b ≤ 255) → b ≠ (vpB ⟨k, r, n, v⟩).getD i 0 → rvC ((vpB ⟨k, r, n, v⟩).set i b) = 5) := fun i b h1 h2 h3 => rv_turned h1 h2 h3
    have HB11 : Hid ((vpB ⟨k, r, n, v⟩).length = 11) := vpB_len _
    have HU8 : Hid (∀ i, 0 ≤ (vpR ⟨k, r, n, v⟩).getD i 0 ∧ (vpR ⟨k, r, n, v⟩).getD i 0 ≤ 255) := vpR_u8 _
    have hRle := vpR_le ⟨k, r, n, v⟩
    generalize vpR ⟨k, r, n, v⟩ = R at hip hsp H0 HU8 hRle
    generalize voteF ⟨k, r, n, v⟩ = F at hip hsp hvf H0
    generalize vpB ⟨k, r, n, v⟩ = Z at H0 HT HB11
    refine (hip _).mono ?_
    rintro e w5 ⟨bp, cp, rfl, op, hb5⟩
    replace hb := below_from hb hb5
    replace hdR := hdR.below hb5
    replace BU := BU.below hb5
    replace BX := BX.below hb5
    clear hb5 hip
    have hbx : Below w5.heap.size w5 (w5.alloc (.cells #[.int .i64 F, .slice bp R.length cp] 32)) := by go_grown
    have BP := Blk.new w5 32 #[.int .i64 F, .slice bp R.length cp]
    replace hb := below_from hb hbx
    replace hdR := hdR.below hbx
    replace BU := BU.below hbx
    replace BX := BX.below hbx
    replace op := own_below op hbx
    clear hbx
    go_wp2_with fail
    generalize hW5 : w5.alloc (.cells #[.int .i64 F, .slice bp R.length cp] 32) = W at *
    clear hW5
    generalize w5.heap.size = gp at BP ⊢
    have hpp := own_pla op
    have hpc := own_cap10' op
    have hpR : Row .u8 W bp R := Row.own op
    clear op
    have cu0 := BU.lat 0 _ rfl
    have cu1 := BU.lat 1 _ rfl
    have cu2 := BU.lat 2 _ rfl
    have cu3 := BU.lat 3 _ rfl
    have cu4 := BU.lat 4 _ rfl
    have hW : Below W.heap.size W W.drew := (Below.refl _ _).drew
    have hnn : Nonempty (Lat W) := ⟨⟨W, Below.refl _ _⟩⟩
    have fl0 := fieldVR0
    have fl1 := fieldVB1
    have hCC : (C != C) = false := by simp
    have HB : Hid (Below w.heap.size w W) := hb
    clear hb
    by_cases hC : C = 0
    · have hC0 : (C == 0) = true := by simp [hC]
      have eZ := HZ.out hC
      rw [eZ] at hip0
      clear HZ HW hC
      refine text_begin (S := fun w' => ∃ u : Lat W, w' = u.val) (by kernel_rfl) ?_
      refine seg_range [(0, 3)] 17 (by kernel_rfl) (by kernel_rfl) (by kernel_rfl) (by kernel_rfl) (by kernel_rfl) ⟨⟨_, hW⟩, rfl⟩ ?_
      simp only [pickR, List.toList_toArray, List.flatMap_cons, List.flatMap_nil, List.drop_succ_cons, List.drop_zero, List.take_succ_cons, List.take_zero, List.cons_append, List.nil_append, List.append_nil]
      repeat go_big_quiet_step (fail)
      refine wpQuiet_nil ?_
      refine call_at 3 (some 22) 13 #[.slice bd ds.length kd] 16 (by kernel_rfl) (by kernel_rfl) (by kernel_rfl) (by kernel_rfl) (by kernel_rfl) ?_
      refine (hsr _ (hdR.below hW)).mono ?_
      rintro e w9 ⟨rfl, hb⟩
      replace hW := hW.trans (hb.mono hW.size)
      refine ⟨_, rfl, ⟨⟨_, hW⟩, rfl⟩, ?_⟩
      simp only [Act.put, List.setIfInBounds_toArray, List.set_cons_zero, List.set_cons_succ]
      refine seg_range [(4, 9), (15, 1)] 6 (by kernel_rfl) (by kernel_rfl) (by kernel_rfl) (by kernel_rfl) (by kernel_rfl) ⟨⟨_, hW⟩, rfl⟩ ?_
      simp only [pickR, List.toList_toArray, List.flatMap_cons, List.flatMap_nil, List.drop_succ_cons, List.drop_zero, List.take_succ_cons, List.take_zero, List.cons_append, List.nil_append, List.append_nil]
      repeat go_big_quiet_step (fail)
      refine wpQuiet_nil ?_
      refine call_at 13 (some 32) 12 #[.agg #[.int .i64 uk, .int .i64 ur, .int .i64 un, .int .i64 uv]] 5 (by kernel_rfl) (by kernel_rfl) (by kernel_rfl) (by kernel_rfl) (by kernel_rfl) ?_
      refine (hip0 _).mono ?_
      rintro e w8 ⟨b8, c8, rfl, o8, hb⟩
      replace hW := hW.trans (hb.mono hW.size)
      refine ⟨_, rfl, ⟨⟨_, hW⟩, rfl⟩, ?_⟩
      simp only [Act.put, List.setIfInBounds_toArray, List.set_cons_zero, List.set_cons_succ]
      refine seg_range [(14, 1)] 4 (by kernel_rfl) (by kernel_rfl) (by kernel_rfl) (by kernel_rfl) (by kernel_rfl) ⟨⟨_, hW⟩, rfl⟩ ?_
      simp only [pickR, List.toList_toArray, List.flatMap_cons, List.flatMap_nil, List.drop_succ_cons, List.drop_zero, List.take_succ_cons, List.take_zero, List.cons_append, List.nil_append, List.append_nil]
      repeat go_big_quiet_step (fail)
      refine wpQuiet_nil ?_
      refine call_at 16 (some 35) 14 #[.slice b8 ds.length c8, .slice bd ds.length kd] 3 (by kernel_rfl) (by kernel_rfl) (by kernel_rfl) (by kernel_rfl) (by kernel_rfl) ?_
      refine (lwBytes_true10 b8 bd c8 kd ds _ (own_pla o8) hdp (Row.own o8) (hdR.below hW)).mono ?_
      rintro e w9 ⟨rfl, hw⟩
      replace hw := hw.symm
      subst hw
      have hb : Below w8.heap.size w8 w8 := Below.refl _ _
      replace hW := hW.trans (hb.mono hW.size)
      refine ⟨_, rfl, ⟨⟨_, hW⟩, rfl⟩, ?_⟩
      simp only [Act.put, List.setIfInBounds_toArray, List.set_cons_zero, List.set_cons_succ]
      refine seg_range [(17, 3)] 0 (by kernel_rfl) (by kernel_rfl) (by kernel_rfl) (by kernel_rfl) (by kernel_rfl) ⟨⟨_, hW⟩, rfl⟩ ?_
      simp only [pickR, List.toList_toArray, List.flatMap_cons, List.flatMap_nil, List.drop_succ_cons, List.drop_zero, List.take_succ_cons, List.take_zero, List.cons_append, List.nil_append, List.append_nil]
      repeat go_big_quiet_step (fail)
      refine wpQuiet_nil ?_
      refine text_end (by kernel_rfl) ?_
      replace hb := HB.out.trans (hW.mono HB.out.size)
      replace BX := BX.below hW
      replace BP := BP.below hW
      replace hpR := hpR.below hW
      clear hW HB cu0 cu1 cu2 cu3 cu4 hnn fl0 fl1 hsr hip0 hdR BU hCC
      generalize hVe : w8 = V at BX BP hpR hb
      clear hVe
      have c0 := BP.cell 0 _ rfl
      have c1 := BP.cell 1 _ rfl
      have hgxV := BX.lt
      have hgpV := BP.lt
      have HVs : Hid (w.heap.size ≤ V.heap.size) := hb.size
      by_cases hF : F = 0
      · obtain ⟨eR, eC, eV⟩ := H0.out hF
        subst hF
        subst eR
        have hF0 : ((0 : Int) != 0) = false := by decide
        have hR11 : R.length = 11 := HB11.out
        have hrd : ∀ w, Row .u8 w bp R → Calls Try.prog 10 #[.slice bp 11 cp] w fun e w' => e = .returned (.agg #[.int .i64 0, .int .i64 k, .int .i64 r, .int .i64 n, .int .i64 v]) ∧ Below w.heap.size w w' := fun w h => by
          have := implReadVote_any bp cp R w hpp h HU8.out (by omega) hpc
          rw [eC, eV, hR11] at this
          exact this
        obtain ⟨i0, hi, hz0, hz1, hz2⟩ := info_parts infoU8
        have hbx : Below V.heap.size V (V.alloc (.cells #[] 5)) := by go_grown
        have cb1 := (BP.below hbx).cell 1 _ rfl
        have hpb := hpR.below hbx
        obtain ⟨gq, oq, rfl⟩ : ∃ gq oq, bp = some ⟨gq, oq, none⟩ := by
          obtain ⟨gq, oq, e, _⟩ := hpR 0 (by omega)
          exact ⟨gq, oq, e⟩
        have hgqV : gq < V.heap.size := by
          obtain ⟨gq', oq', e, hlt, _⟩ := hpR 0 (by omega)
          simp only [Option.some.injEq, Addr.mk.injEq, and_true] at e
          omega
        have hcq : ∀ i, i < 11 → V.cell? ⟨gq, oq + i, none⟩ = some (.int .u8 (R.getD i 0)) := fun i hi => by
          obtain ⟨g', o', e, _, hc⟩ := hpR i (by omega)
          simp only [Option.some.injEq, Addr.mk.injEq, and_true] at e
          obtain ⟨rfl, rfl⟩ := e
          exact hc
        have o7 : (V.alloc (.cells #[] 5)).ownsRow V.heap.size 5 1 (.slice (some ⟨V.heap.size, 0, none⟩) 0 0) 0 [] := World.ownsRow_lit V #[] 0 (Nat.le_refl _) (by decide) rfl
        rw [hR11] at c1 cb1 BP
        clear eC eV
        go_wp2_with (at_builtin; refine wpList_append_own _ rfl _ _ 22 rfl V.heap.size 5 i0 (.int .u8 0) 1 1 Try.underlying22 hi hz0 hz1 hz2 rfl (by decide) _ 0 [] rfl o7 ⟨gq, oq, none⟩ 11 cp (R.map (Value.int .u8)) rfl (by simp [hR11]) ?c1 ?c2 ?c3 ?c4 ?c5 ?_)
        case c1 =>
          intro j u hj
          have hjl : j < R.length := (List.getElem?_eq_some_iff.1 hj).1
          have e := hcq j (by omega)
          have hg : R.getD j 0 = u := by simp [List.getD, hj]
          rw [hg] at e
          simpa [Addr.add] using e
        case c2 => first | (intro u hu; obtain ⟨x, _, rfl⟩ := List.mem_map.1 hu; rfl) | (intros; rfl)
        case c3 => unfold maxLen; omega
        try (case c4 => first | omega | simp)
        try (case c5 => first | (simp; omega) | simp)
        intro v' w7 hown hgrow _
        obtain ⟨a7, c7, rfl⟩ := own_shape hown
        have b7 : Below V.heap.size V w7 := hbx.grown hgrow (by simp) (fun j hj => (o7.lt j hj).1)
        replace BX := BX.below b7
        replace BP := BP.below b7
        replace hpR := hpR.below b7
        replace hb := below_from hb b7
        try simp only [List.nil_append, Nat.zero_add] at hown
        obtain ⟨gt, rfl⟩ := own_some hown (by omega)
        have hgt : w.heap.size ≤ gt := by have h1 := (hown.lt gt rfl).1; have h2 := b7.size; have := HVs.out; omega
        have hct : 11 ≤ c7 := own_cap10' hown
        have ne1 := own_not3 (b := gx) hown (Or.inl hgxV)
        have ne2 := own_not3 (b := gp) hown (Or.inl hgpV)
        have ne3 : gq ≠ gt := by
          intro e
          have h1 := own_not3 (b := gq) hown (Or.inl hgqV)
          exact h1 (by rw [e]; rfl)
        clear hgrow b7 o7 hbx hpb hcq cb1 c0 c1
        have hl1 := fun w h => lwAt_any a cap zs 2 11 w h hu hle (by omega) (by omega) (by omega)
        go_wp2_with fail
        refine (hl1 _ (h.below hb)).mono ?_
        rintro e w10 ⟨jj, rfl, j0, j1, hb10⟩
        obtain ⟨j, rfl⟩ := Int.eq_ofNat_of_zero_le j0
        replace BX := BX.below hb10
        replace BP := BP.below hb10
        replace hpR := hpR.below hb10
        replace hown := own_below hown hb10
        replace hb := below_from hb hb10
        clear hb10 hl1 j0
        have hj11 : j < 11 := by omega
        have hRow := Row.own hown
        obtain ⟨gt', ot', e', hgt', ct⟩ := hRow j (by omega)
        simp only [Option.some.injEq, Addr.mk.injEq, and_true] at e'
        obtain ⟨rfl, rfl⟩ := e'
        rw [Nat.zero_add] at ct
        have hx0 := HU8.out j
        have HTj : Hid (∀ b, (0 ≤ b ∧ b ≤ 255) → b ≠ R.getD j 0 → rvC (R.set j b) = 5) := fun b h1 h2 => HT.out j b hj11 h1 h2
        generalize hXe : R.getD j 0 = X at ct hx0 HTj
        clear hXe hRow HT
        have kt := lat_cell ct
        have hW : Below w10.heap.size w10 w10.drew := (Below.refl _ _).drew
        have hnn : Nonempty (Lat w10) := ⟨⟨w10, Below.refl _ _⟩⟩
        have hl2 := fun w h => lwAt_big a cap zs 3 255 w h hu hle (by omega) (by omega) (by omega)
        replace h := h.below hb
        clear ct
        go_wp2_with fail
        refine beginX (S := fun w' => ∃ u : Lat w10, w' = u.val) (R := fun _ _ => False) 12 (by kernel_rfl) (fun _ _ _ _ h => h.elim) ?_
        refine segX [(0, 7)] 6 (by kernel_rfl) (by kernel_rfl) (by kernel_rfl) (by kernel_rfl) (by kernel_rfl) ⟨⟨_, hW⟩, rfl⟩ ?_
        simp only [pickR, List.toList_toArray, List.flatMap_cons, List.flatMap_nil, List.drop_succ_cons, List.drop_zero, List.take_succ_cons, List.take_zero, List.cons_append, List.nil_append, List.append_nil]
        repeat go_big_quiet_step (fail)
        refine wpQuiet_nil ?_
        refine callX 7 (some 72) 17 #[.slice a zs.length cap, .int .i64 3, .int .i64 255] 5 (by kernel_rfl) (by kernel_rfl) (by kernel_rfl) (by kernel_rfl) (by kernel_rfl) rfl ?_
        refine (hl2 _ (h.below hW)).mono ?_
        rintro e w11 ⟨y, rfl, y0, y1, hb11⟩
        replace hW := below_from hW hb11
        clear hb11 hl2
        refine Or.inl ⟨_, rfl, ⟨⟨_, hW⟩, rfl⟩, ?_⟩
        simp only [Act.put, List.setIfInBounds_toArray, List.set_cons_zero, List.set_cons_succ]
        refine segX [(8, 4)] 1 (by kernel_rfl) (by kernel_rfl) (by kernel_rfl) (by kernel_rfl) (by kernel_rfl) ⟨⟨_, hW⟩, rfl⟩ ?_
        simp only [pickR, List.toList_toArray, List.flatMap_cons, List.flatMap_nil, List.drop_succ_cons, List.drop_zero, List.take_succ_cons, List.take_zero, List.cons_append, List.nil_append, List.append_nil]
        repeat go_big_quiet_step (fail)
        refine wpQuiet_nil ?_
        have o11 := own_below hown hW
        have hfz : w11.frozen? ⟨gt, j, none⟩ = false := o11.frozenAt j
        obtain ⟨u, hcu⟩ : ∃ u, w11.cell? ⟨gt, j, none⟩ = some u := by
          rw [o11.cellAt j (by omega)]
          exact ⟨_, List.getElem?_eq_getElem (by simp; omega)⟩
        have hxb := xor_byte X (1 + y) hx0 (by omega)
        have HT5 : Hid (rvC (R.set j (bits .xor .u8 X (1 + y))) = 5) := HTj.out _ hxb.1 hxb.2
        have HY : Hid (0 ≤ bits .xor .u8 X (1 + y) ∧ bits .xor .u8 X (1 + y) ≤ 255) := hxb.1
        clear hxb HTj kt
        refine oneX 12 _ 0 (by kernel_rfl) rfl (by kernel_rfl) ?_
        go_wp2
        refine ThenX.to ⟨Or.inl (by kernel_rfl), ?_⟩
        refine endX (by kernel_rfl) ?_
        generalize bits .xor .u8 X (1 + y) = Y at HT5 HY ⊢
        have hst := (o11.stored j (.int .u8 Y)).1
        rw [← List.map_set] at hst
        have hg12 : w11.grownBy (w11.setCell ⟨gt, j, none⟩ (.int .u8 Y)) (some gt) := ⟨rfl, rfl, rfl, by simp, fun k _ hk => Below.heap_setCell w11 _ _ k (fun e => hk (by simp [e]))⟩
        have hTR : Row .u8 (w11.setCell ⟨gt, j, none⟩ (.int .u8 Y)) (some ⟨gt, 0, none⟩) (R.set j Y) := Row.own hst
        replace BX := (BX.below hW).grown hg12 ne1
        replace BP := (BP.below hW).grown hg12 ne2
        replace hpR := hpR.below hW
        replace hpR : Row .u8 (w11.setCell ⟨gt, j, none⟩ (.int .u8 Y)) (some ⟨gq, oq, none⟩) R := fun i hi => by
          obtain ⟨b', o', e', hlt, hc⟩ := hpR i hi
          refine ⟨b', o', e', by simpa using hlt, hg12.cell hc ?_⟩
          simp only [Option.some.injEq, Addr.mk.injEq, and_true] at e'
          simp only [ne_eq, Option.some.injEq]
          omega
        replace hb := (below_from hb hW).setCell (p := ⟨gt, j, none⟩) hgt (.int .u8 Y)
        have hset : (R.set j Y).length = 11 := by rw [List.length_set]; exact hR11
        have hsu : ∀ i, 0 ≤ (R.set j Y).getD i 0 ∧ (R.set j Y).getD i 0 ≤ 255 := set_u8 HU8.out j HY.out
        have hrt0 := fun w h => implReadVote_any (some ⟨gt, 0, none⟩) c7 (R.set j Y) w (Or.inr ⟨gt, 0, rfl⟩) h hsu (by omega) (by omega)
        rw [HT5.out, hset] at hrt0
        unfold VoteD.val at hrt0
        generalize rvV (R.set j Y) = RT at hrt0
        obtain ⟨tk, tr, tn, tv⟩ := RT
        dsimp only at hrt0
        have hrt := hrt0
        clear hrt0 hst o11 hown hW hcu hfz hg12 hsu HT5 HY hset hnn ne1 ne2 hsp hvf HU8
        generalize w11.setCell ⟨gt, j, none⟩ (.int .u8 Y) = W2 at *
        have cx0 := BX.lat 0 _ rfl
        have cx1 := BX.lat 1 _ rfl
        have cx2 := BX.lat 2 _ rfl
        have cx3 := BX.lat 3 _ rfl
        have cp1 := BP.lat 1 _ rfl
        have hW : Below W2.heap.size W2 W2.drew := (Below.refl _ _).drew
        have hnn : Nonempty (Lat W2) := ⟨⟨W2, Below.refl _ _⟩⟩
        have fl0 := fieldVR0
        have fl1 := fieldVR1
        have heqv := eqlVote_run
        have HB : Hid (Below w.heap.size w W2) := hb
        clear hb BX BP
        go_wp2_with fail
        refine text_begin (S := fun w' => ∃ u : Lat W2, w' = u.val) (by kernel_rfl) ?_
        refine seg_range [(0, 2), (4, 1)] 17 (by kernel_rfl) (by kernel_rfl) (by kernel_rfl) (by kernel_rfl) (by kernel_rfl) ⟨⟨_, hW⟩, rfl⟩ ?_
        simp only [pickR, List.toList_toArray, List.flatMap_cons, List.flatMap_nil, List.drop_succ_cons, List.drop_zero, List.take_succ_cons, List.take_zero, List.cons_append, List.nil_append, List.append_nil]
        repeat go_big_quiet_step (fail)
        refine wpQuiet_nil ?_
        refine call_at 2 (some 79) 10 #[.slice (some ⟨gq, oq, none⟩) 11 cp] 16 (by kernel_rfl) (by kernel_rfl) (by kernel_rfl) (by kernel_rfl) (by kernel_rfl) ?_
        refine (hrd _ (hpR.below hW)).mono ?_
        rintro e w9 ⟨rfl, hb⟩
        replace hW := hW.trans (hb.mono hW.size)
        refine ⟨_, rfl, ⟨⟨_, hW⟩, rfl⟩, ?_⟩
        simp only [Act.put, List.setIfInBounds_toArray, List.set_cons_zero, List.set_cons_succ]
        refine seg_range [(3, 1), (5, 4)] 11 (by kernel_rfl) (by kernel_rfl) (by kernel_rfl) (by kernel_rfl) (by kernel_rfl) ⟨⟨_, hW⟩, rfl⟩ ?_
        simp only [pickR, List.toList_toArray, List.flatMap_cons, List.flatMap_nil, List.drop_succ_cons, List.drop_zero, List.take_succ_cons, List.take_zero, List.cons_append, List.nil_append, List.append_nil]
        repeat go_big_quiet_step (fail)
        refine wpQuiet_nil ?_
        refine call_at 9 (some 86) 10 #[.slice (some ⟨gq, oq, none⟩) 11 cp] 10 (by kernel_rfl) (by kernel_rfl) (by kernel_rfl) (by kernel_rfl) (by kernel_rfl) ?_
        refine (hrd _ (hpR.below hW)).mono ?_
        rintro e w9 ⟨rfl, hb⟩
        replace hW := hW.trans (hb.mono hW.size)
        refine ⟨_, rfl, ⟨⟨_, hW⟩, rfl⟩, ?_⟩
        simp only [Act.put, List.setIfInBounds_toArray, List.set_cons_zero, List.set_cons_succ]
        refine seg_range [(10, 5)] 5 (by kernel_rfl) (by kernel_rfl) (by kernel_rfl) (by kernel_rfl) (by kernel_rfl) ⟨⟨_, hW⟩, rfl⟩ ?_
        simp only [pickR, List.toList_toArray, List.flatMap_cons, List.flatMap_nil, List.drop_succ_cons, List.drop_zero, List.take_succ_cons, List.take_zero, List.cons_append, List.nil_append, List.append_nil]
        repeat go_big_quiet_step (fail)
        refine wpQuiet_nil ?_
        refine call_at 15 (some 92) 10 #[.slice (some ⟨gt, 0, none⟩) 11 c7] 4 (by kernel_rfl) (by kernel_rfl) (by kernel_rfl) (by kernel_rfl) (by kernel_rfl) ?_
        refine (hrt _ (hTR.below hW)).mono ?_
        rintro e w9 ⟨rfl, hb⟩
        replace hW := hW.trans (hb.mono hW.size)
        refine ⟨_, rfl, ⟨⟨_, hW⟩, rfl⟩, ?_⟩
        simp only [Act.put, List.setIfInBounds_toArray, List.set_cons_zero, List.set_cons_succ]
        refine seg_range [(16, 4)] 0 (by kernel_rfl) (by kernel_rfl) (by kernel_rfl) (by kernel_rfl) (by kernel_rfl) ⟨⟨_, hW⟩, rfl⟩ ?_
        simp only [pickR, List.toList_toArray, List.flatMap_cons, List.flatMap_nil, List.drop_succ_cons, List.drop_zero, List.take_succ_cons, List.take_zero, List.cons_append, List.nil_append, List.append_nil]
        repeat go_big_quiet_step (fail)
        refine wpQuiet_nil ?_
        refine text_end (by kernel_rfl) ?_
        have hb := HB.out.trans (hW.mono HB.out.size)
        clear hW HB cx0 cx1 cx2 cx3 cp1 hnn fl0 fl1 heqv hrd hrt
        go_wp2
        go_ret
        exact ⟨rfl, hb⟩
      · have hFn : (F != 0) = true := by simpa using hF
        have hFF : (F == F) = true := by simp
        clear hF H0 HT HB11 HU8 hRle hpR hpp hpc hgxV hgpV HVs c1
        go_wp2_with fail
        have cx0 := BX.lat 0 _ rfl
        have cx1 := BX.lat 1 _ rfl
        have cx2 := BX.lat 2 _ rfl
        have cx3 := BX.lat 3 _ rfl
        have cp0 := BP.lat 0 _ rfl
        have hW : Below V.heap.size V V.drew := (Below.refl _ _).drew
        have hnn : Nonempty (Lat V) := ⟨⟨V, Below.refl _ _⟩⟩
        have fl0 := fieldVB0
        have HB : Hid (Below w.heap.size w V) := hb
        clear hb BX BP c0
        refine text_begin (S := fun w' => ∃ u : Lat V, w' = u.val) (by kernel_rfl) ?_
        refine seg_range [(0, 1), (3, 2)] 11 (by kernel_rfl) (by kernel_rfl) (by kernel_rfl) (by kernel_rfl) (by kernel_rfl) ⟨⟨_, hW⟩, rfl⟩ ?_
        simp only [pickR, List.toList_toArray, List.flatMap_cons, List.flatMap_nil, List.drop_succ_cons, List.drop_zero, List.take_succ_cons, List.take_zero, List.cons_append, List.nil_append, List.append_nil]
        repeat go_big_quiet_step (fail)
        refine wpQuiet_nil ?_
        refine call_at 1 (some 43) 15 #[.agg #[.int .i64 k, .int .i64 r, .int .i64 n, .int .i64 v]] 10 (by kernel_rfl) (by kernel_rfl) (by kernel_rfl) (by kernel_rfl) (by kernel_rfl) ?_
        refine (hsp _).mono ?_
        rintro e w9 ⟨b9, c9, rfl, _, hb⟩
        replace hW := hW.trans (hb.mono hW.size)
        refine ⟨_, rfl, ⟨⟨_, hW⟩, rfl⟩, ?_⟩
        simp only [Act.put, List.setIfInBounds_toArray, List.set_cons_zero, List.set_cons_succ]
        refine seg_range [(2, 1), (5, 3), (9, 2)] 4 (by kernel_rfl) (by kernel_rfl) (by kernel_rfl) (by kernel_rfl) (by kernel_rfl) ⟨⟨_, hW⟩, rfl⟩ ?_
        simp only [pickR, List.toList_toArray, List.flatMap_cons, List.flatMap_nil, List.drop_succ_cons, List.drop_zero, List.take_succ_cons, List.take_zero, List.cons_append, List.nil_append, List.append_nil]
        repeat go_big_quiet_step (fail)
        refine wpQuiet_nil ?_
        refine call_at 8 (some 50) 16 #[.agg #[.int .i64 k, .int .i64 r, .int .i64 n, .int .i64 v]] 3 (by kernel_rfl) (by kernel_rfl) (by kernel_rfl) (by kernel_rfl) (by kernel_rfl) ?_
        refine (hvf _).mono ?_
        rintro e w9 ⟨rfl, hb⟩
        replace hW := hW.trans (hb.mono hW.size)
        refine ⟨_, rfl, ⟨⟨_, hW⟩, rfl⟩, ?_⟩
        simp only [Act.put, List.setIfInBounds_toArray, List.set_cons_zero, List.set_cons_succ]
        refine seg_range [(11, 3)] 0 (by kernel_rfl) (by kernel_rfl) (by kernel_rfl) (by kernel_rfl) (by kernel_rfl) ⟨⟨_, hW⟩, rfl⟩ ?_
        simp only [pickR, List.toList_toArray, List.flatMap_cons, List.flatMap_nil, List.drop_succ_cons, List.drop_zero, List.take_succ_cons, List.take_zero, List.cons_append, List.nil_append, List.append_nil]
        repeat go_big_quiet_step (fail)
        refine wpQuiet_nil ?_
        refine text_end (by kernel_rfl) ?_
        have hb := HB.out.trans (hW.mono HB.out.size)
        clear hW HB cx0 cx1 cx2 cx3 cp0 hnn fl0 hsp hvf
        go_wp2
        go_ret
        exact ⟨rfl, hb⟩
    · have hC0 : (C == 0) = false := by simpa using hC
      clear HZ HW hC
      refine text_begin (S := fun w' => ∃ u : Lat W, w' = u.val) (by kernel_rfl) ?_
      refine seg_range [(0, 3)] 17 (by kernel_rfl) (by kernel_rfl) (by kernel_rfl) (by kernel_rfl) (by kernel_rfl) ⟨⟨_, hW⟩, rfl⟩ ?_
      simp only [pickR, List.toList_toArray, List.flatMap_cons, List.flatMap_nil, List.drop_succ_cons, List.drop_zero, List.take_succ_cons, List.take_zero, List.cons_append, List.nil_append, List.append_nil]
      repeat go_big_quiet_step (fail)
      refine wpQuiet_nil ?_
      refine call_at 3 (some 22) 13 #[.slice bd ds.length kd] 16 (by kernel_rfl) (by kernel_rfl) (by kernel_rfl) (by kernel_rfl) (by kernel_rfl) ?_
      refine (hsr _ (hdR.below hW)).mono ?_
      rintro e w9 ⟨rfl, hb⟩
      replace hW := hW.trans (hb.mono hW.size)
      refine ⟨_, rfl, ⟨⟨_, hW⟩, rfl⟩, ?_⟩
      simp only [Act.put, List.setIfInBounds_toArray, List.set_cons_zero, List.set_cons_succ]
      refine seg_range [(4, 9), (15, 1)] 6 (by kernel_rfl) (by kernel_rfl) (by kernel_rfl) (by kernel_rfl) (by kernel_rfl) ⟨⟨_, hW⟩, rfl⟩ ?_
      simp only [pickR, List.toList_toArray, List.flatMap_cons, List.flatMap_nil, List.drop_succ_cons, List.drop_zero, List.take_succ_cons, List.take_zero, List.cons_append, List.nil_append, List.append_nil]
      repeat go_big_quiet_step (fail)
      refine wpQuiet_nil ?_
      refine skip_at 13 (some 32) 5 (by kernel_rfl) (by kernel_rfl) (by kernel_rfl) (by kernel_rfl) (by kernel_rfl) ⟨⟨_, hW⟩, rfl⟩ ?_
      simp only [Act.put, List.setIfInBounds_toArray, List.set_cons_zero, List.set_cons_succ]
      refine seg_range [(14, 1)] 4 (by kernel_rfl) (by kernel_rfl) (by kernel_rfl) (by kernel_rfl) (by kernel_rfl) ⟨⟨_, hW⟩, rfl⟩ ?_
      simp only [pickR, List.toList_toArray, List.flatMap_cons, List.flatMap_nil, List.drop_succ_cons, List.drop_zero, List.take_succ_cons, List.take_zero, List.cons_append, List.nil_append, List.append_nil]
      repeat go_big_quiet_step (fail)
      refine wpQuiet_nil ?_
      refine skip_at 16 (some 35) 3 (by kernel_rfl) (by kernel_rfl) (by kernel_rfl) (by kernel_rfl) (by kernel_rfl) ⟨⟨_, hW⟩, rfl⟩ ?_
      simp only [Act.put, List.setIfInBounds_toArray, List.set_cons_zero, List.set_cons_succ]
      refine seg_range [(17, 3)] 0 (by kernel_rfl) (by kernel_rfl) (by kernel_rfl) (by kernel_rfl) (by kernel_rfl) ⟨⟨_, hW⟩, rfl⟩ ?_
      simp only [pickR, List.toList_toArray, List.flatMap_cons, List.flatMap_nil, List.drop_succ_cons, List.drop_zero, List.take_succ_cons, List.take_zero, List.cons_append, List.nil_append, List.append_nil]
      repeat go_big_quiet_step (fail)
      refine wpQuiet_nil ?_
      refine text_end (by kernel_rfl) ?_
      replace hb := HB.out.trans (hW.mono HB.out.size)
      replace BX := BX.below hW
      replace BP := BP.below hW
      replace hpR := hpR.below hW
      clear hW HB cu0 cu1 cu2 cu3 cu4 hnn fl0 fl1 hsr hip0 hdR BU hCC
      generalize hVe : w9 = V at BX BP hpR hb
      clear hVe
      have c0 := BP.cell 0 _ rfl
      have c1 := BP.cell 1 _ rfl
      have hgxV := BX.lt
      have hgpV := BP.lt
      have HVs : Hid (w.heap.size ≤ V.heap.size) := hb.size
      by_cases hF : F = 0
      · obtain ⟨eR, eC, eV⟩ := H0.out hF
        subst hF
        subst eR
        have hF0 : ((0 : Int) != 0) = false := by decide
        have hR11 : R.length = 11 := HB11.out
        have hrd : ∀ w, Row .u8 w bp R → Calls Try.prog 10 #[.slice bp 11 cp] w fun e w' => e = .returned (.agg #[.int .i64 0, .int .i64 k, .int .i64 r, .int .i64 n, .int .i64 v]) ∧ Below w.heap.size w w' := fun w h => by
          have := implReadVote_any bp cp R w hpp h HU8.out (by omega) hpc
          rw [eC, eV, hR11] at this
          exact this
        obtain ⟨i0, hi, hz0, hz1, hz2⟩ := info_parts infoU8
        have hbx : Below V.heap.size V (V.alloc (.cells #[] 5)) := by go_grown
        have cb1 := (BP.below hbx).cell 1 _ rfl
        have hpb := hpR.below hbx
        obtain ⟨gq, oq, rfl⟩ : ∃ gq oq, bp = some ⟨gq, oq, none⟩ := by
          obtain ⟨gq, oq, e, _⟩ := hpR 0 (by omega)
          exact ⟨gq, oq, e⟩
        have hgqV : gq < V.heap.size := by
          obtain ⟨gq', oq', e, hlt, _⟩ := hpR 0 (by omega)
          simp only [Option.some.injEq, Addr.mk.injEq, and_true] at e
          omega
        have hcq : ∀ i, i < 11 → V.cell? ⟨gq, oq + i, none⟩ = some (.int .u8 (R.getD i 0)) := fun i hi => by
          obtain ⟨g', o', e, _, hc⟩ := hpR i (by omega)
          simp only [Option.some.injEq, Addr.mk.injEq, and_true] at e
          obtain ⟨rfl, rfl⟩ := e
          exact hc
        have o7 : (V.alloc (.cells #[] 5)).ownsRow V.heap.size 5 1 (.slice (some ⟨V.heap.size, 0, none⟩) 0 0) 0 [] := World.ownsRow_lit V #[] 0 (Nat.le_refl _) (by decide) rfl
        rw [hR11] at c1 cb1 BP
        clear eC eV
        go_wp2_with (at_builtin; refine wpList_append_own _ rfl _ _ 22 rfl V.heap.size 5 i0 (.int .u8 0) 1 1 Try.underlying22 hi hz0 hz1 hz2 rfl (by decide) _ 0 [] rfl o7 ⟨gq, oq, none⟩ 11 cp (R.map (Value.int .u8)) rfl (by simp [hR11]) ?d1 ?d2 ?d3 ?d4 ?d5 ?_)
        case d1 =>
          intro j u hj
          have hjl : j < R.length := (List.getElem?_eq_some_iff.1 hj).1
          have e := hcq j (by omega)
          have hg : R.getD j 0 = u := by simp [List.getD, hj]
          rw [hg] at e
          simpa [Addr.add] using e
        case d2 => first | (intro u hu; obtain ⟨x, _, rfl⟩ := List.mem_map.1 hu; rfl) | (intros; rfl)
        case d3 => unfold maxLen; omega
        try (case d4 => first | omega | simp)
        try (case d5 => first | (simp; omega) | simp)
        intro v' w7 hown hgrow _
        obtain ⟨a7, c7, rfl⟩ := own_shape hown
        have b7 : Below V.heap.size V w7 := hbx.grown hgrow (by simp) (fun j hj => (o7.lt j hj).1)
        replace BX := BX.below b7
        replace BP := BP.below b7
        replace hpR := hpR.below b7
        replace hb := below_from hb b7
        try simp only [List.nil_append, Nat.zero_add] at hown
        obtain ⟨gt, rfl⟩ := own_some hown (by omega)
        have hgt : w.heap.size ≤ gt := by have h1 := (hown.lt gt rfl).1; have h2 := b7.size; have := HVs.out; omega
        have hct : 11 ≤ c7 := own_cap10' hown
        have ne1 := own_not3 (b := gx) hown (Or.inl hgxV)
        have ne2 := own_not3 (b := gp) hown (Or.inl hgpV)
        have ne3 : gq ≠ gt := by
          intro e
          have h1 := own_not3 (b := gq) hown (Or.inl hgqV)
          exact h1 (by rw [e]; rfl)
        clear hgrow b7 o7 hbx hpb hcq cb1 c0 c1
        have hl1 := fun w h => lwAt_any a cap zs 2 11 w h hu hle (by omega) (by omega) (by omega)
        go_wp2_with fail
        refine (hl1 _ (h.below hb)).mono ?_
        rintro e w10 ⟨jj, rfl, j0, j1, hb10⟩
        obtain ⟨j, rfl⟩ := Int.eq_ofNat_of_zero_le j0
        replace BX := BX.below hb10
        replace BP := BP.below hb10
        replace hpR := hpR.below hb10
        replace hown := own_below hown hb10
        replace hb := below_from hb hb10
        clear hb10 hl1 j0
        have hj11 : j < 11 := by omega
        have hRow := Row.own hown
        obtain ⟨gt', ot', e', hgt', ct⟩ := hRow j (by omega)
        simp only [Option.some.injEq, Addr.mk.injEq, and_true] at e'
        obtain ⟨rfl, rfl⟩ := e'
        rw [Nat.zero_add] at ct
        have hx0 := HU8.out j
        have HTj : Hid (∀ b, (0 ≤ b ∧ b ≤ 255) → b ≠ R.getD j 0 → rvC (R.set j b) = 5) := fun b h1 h2 => HT.out j b hj11 h1 h2
        generalize hXe : R.getD j 0 = X at ct hx0 HTj
        clear hXe hRow HT
        have kt := lat_cell ct
        have hW : Below w10.heap.size w10 w10.drew := (Below.refl _ _).drew
        have hnn : Nonempty (Lat w10) := ⟨⟨w10, Below.refl _ _⟩⟩
        have hl2 := fun w h => lwAt_big a cap zs 3 255 w h hu hle (by omega) (by omega) (by omega)
        replace h := h.below hb
        clear ct
        go_wp2_with fail
        refine beginX (S := fun w' => ∃ u : Lat w10, w' = u.val) (R := fun _ _ => False) 12 (by kernel_rfl) (fun _ _ _ _ h => h.elim) ?_
        refine segX [(0, 7)] 6 (by kernel_rfl) (by kernel_rfl) (by kernel_rfl) (by kernel_rfl) (by kernel_rfl) ⟨⟨_, hW⟩, rfl⟩ ?_
        simp only [pickR, List.toList_toArray, List.flatMap_cons, List.flatMap_nil, List.drop_succ_cons, List.drop_zero, List.take_succ_cons, List.take_zero, List.cons_append, List.nil_append, List.append_nil]
        repeat go_big_quiet_step (fail)
        refine wpQuiet_nil ?_
        refine callX 7 (some 72) 17 #[.slice a zs.length cap, .int .i64 3, .int .i64 255] 5 (by kernel_rfl) (by kernel_rfl) (by kernel_rfl) (by kernel_rfl) (by kernel_rfl) rfl ?_
        refine (hl2 _ (h.below hW)).mono ?_
        rintro e w11 ⟨y, rfl, y0, y1, hb11⟩
        replace hW := below_from hW hb11
        clear hb11 hl2
        refine Or.inl ⟨_, rfl, ⟨⟨_, hW⟩, rfl⟩, ?_⟩
        simp only [Act.put, List.setIfInBounds_toArray, List.set_cons_zero, List.set_cons_succ]
        refine segX [(8, 4)] 1 (by kernel_rfl) (by kernel_rfl) (by kernel_rfl) (by kernel_rfl) (by kernel_rfl) ⟨⟨_, hW⟩, rfl⟩ ?_
        simp only [pickR, List.toList_toArray, List.flatMap_cons, List.flatMap_nil, List.drop_succ_cons, List.drop_zero, List.take_succ_cons, List.take_zero, List.cons_append, List.nil_append, List.append_nil]
        repeat go_big_quiet_step (fail)
        refine wpQuiet_nil ?_
        have o11 := own_below hown hW
        have hfz : w11.frozen? ⟨gt, j, none⟩ = false := o11.frozenAt j
        obtain ⟨u, hcu⟩ : ∃ u, w11.cell? ⟨gt, j, none⟩ = some u := by
          rw [o11.cellAt j (by omega)]
          exact ⟨_, List.getElem?_eq_getElem (by simp; omega)⟩
        have hxb := xor_byte X (1 + y) hx0 (by omega)
        have HT5 : Hid (rvC (R.set j (bits .xor .u8 X (1 + y))) = 5) := HTj.out _ hxb.1 hxb.2
        have HY : Hid (0 ≤ bits .xor .u8 X (1 + y) ∧ bits .xor .u8 X (1 + y) ≤ 255) := hxb.1
        clear hxb HTj kt
        refine oneX 12 _ 0 (by kernel_rfl) rfl (by kernel_rfl) ?_
        go_wp2
        refine ThenX.to ⟨Or.inl (by kernel_rfl), ?_⟩
        refine endX (by kernel_rfl) ?_
        generalize bits .xor .u8 X (1 + y) = Y at HT5 HY ⊢
        have hst := (o11.stored j (.int .u8 Y)).1
        rw [← List.map_set] at hst
        have hg12 : w11.grownBy (w11.setCell ⟨gt, j, none⟩ (.int .u8 Y)) (some gt) := ⟨rfl, rfl, rfl, by simp, fun k _ hk => Below.heap_setCell w11 _ _ k (fun e => hk (by simp [e]))⟩
        have hTR : Row .u8 (w11.setCell ⟨gt, j, none⟩ (.int .u8 Y)) (some ⟨gt, 0, none⟩) (R.set j Y) := Row.own hst
        replace BX := (BX.below hW).grown hg12 ne1
        replace BP := (BP.below hW).grown hg12 ne2
        replace hpR := hpR.below hW
        replace hpR : Row .u8 (w11.setCell ⟨gt, j, none⟩ (.int .u8 Y)) (some ⟨gq, oq, none⟩) R := fun i hi => by
          obtain ⟨b', o', e', hlt, hc⟩ := hpR i hi
          refine ⟨b', o', e', by simpa using hlt, hg12.cell hc ?_⟩
          simp only [Option.some.injEq, Addr.mk.injEq, and_true] at e'
          simp only [ne_eq, Option.some.injEq]
          omega
        replace hb := (below_from hb hW).setCell (p := ⟨gt, j, none⟩) hgt (.int .u8 Y)
        have hset : (R.set j Y).length = 11 := by rw [List.length_set]; exact hR11
        have hsu : ∀ i, 0 ≤ (R.set j Y).getD i 0 ∧ (R.set j Y).getD i 0 ≤ 255 := set_u8 HU8.out j HY.out
        have hrt0 := fun w h => implReadVote_any (some ⟨gt, 0, none⟩) c7 (R.set j Y) w (Or.inr ⟨gt, 0, rfl⟩) h hsu (by omega) (by omega)
        rw [HT5.out, hset] at hrt0
        unfold VoteD.val at hrt0
        generalize rvV (R.set j Y) = RT at hrt0
        obtain ⟨tk, tr, tn, tv⟩ := RT
        dsimp only at hrt0
        have hrt := hrt0
        clear hrt0 hst o11 hown hW hcu hfz hg12 hsu HT5 HY hset hnn ne1 ne2 hsp hvf HU8
        generalize w11.setCell ⟨gt, j, none⟩ (.int .u8 Y) = W2 at *
        have cx0 := BX.lat 0 _ rfl
        have cx1 := BX.lat 1 _ rfl
        have cx2 := BX.lat 2 _ rfl
        have cx3 := BX.lat 3 _ rfl
        have cp1 := BP.lat 1 _ rfl
        have hW : Below W2.heap.size W2 W2.drew := (Below.refl _ _).drew
        have hnn : Nonempty (Lat W2) := ⟨⟨W2, Below.refl _ _⟩⟩
        have fl0 := fieldVR0
        have fl1 := fieldVR1
        have heqv := eqlVote_run
        have HB : Hid (Below w.heap.size w W2) := hb
        clear hb BX BP
        go_wp2_with fail
        refine text_begin (S := fun w' => ∃ u : Lat W2, w' = u.val) (by kernel_rfl) ?_
        refine seg_range [(0, 2), (4, 1)] 17 (by kernel_rfl) (by kernel_rfl) (by kernel_rfl) (by kernel_rfl) (by kernel_rfl) ⟨⟨_, hW⟩, rfl⟩ ?_
        simp only [pickR, List.toList_toArray, List.flatMap_cons, List.flatMap_nil, List.drop_succ_cons, List.drop_zero, List.take_succ_cons, List.take_zero, List.cons_append, List.nil_append, List.append_nil]
        repeat go_big_quiet_step (fail)
        refine wpQuiet_nil ?_
        refine call_at 2 (some 79) 10 #[.slice (some ⟨gq, oq, none⟩) 11 cp] 16 (by kernel_rfl) (by kernel_rfl) (by kernel_rfl) (by kernel_rfl) (by kernel_rfl) ?_
        refine (hrd _ (hpR.below hW)).mono ?_
        rintro e w9 ⟨rfl, hb⟩
        replace hW := hW.trans (hb.mono hW.size)
        refine ⟨_, rfl, ⟨⟨_, hW⟩, rfl⟩, ?_⟩
        simp only [Act.put, List.setIfInBounds_toArray, List.set_cons_zero, List.set_cons_succ]
        refine seg_range [(3, 1), (5, 4)] 11 (by kernel_rfl) (by kernel_rfl) (by kernel_rfl) (by kernel_rfl) (by kernel_rfl) ⟨⟨_, hW⟩, rfl⟩ ?_
        simp only [pickR, List.toList_toArray, List.flatMap_cons, List.flatMap_nil, List.drop_succ_cons, List.drop_zero, List.take_succ_cons, List.take_zero, List.cons_append, List.nil_append, List.append_nil]
        repeat go_big_quiet_step (fail)
        refine wpQuiet_nil ?_
        refine call_at 9 (some 86) 10 #[.slice (some ⟨gq, oq, none⟩) 11 cp] 10 (by kernel_rfl) (by kernel_rfl) (by kernel_rfl) (by kernel_rfl) (by kernel_rfl) ?_
        refine (hrd _ (hpR.below hW)).mono ?_
        rintro e w9 ⟨rfl, hb⟩
        replace hW := hW.trans (hb.mono hW.size)
        refine ⟨_, rfl, ⟨⟨_, hW⟩, rfl⟩, ?_⟩
        simp only [Act.put, List.setIfInBounds_toArray, List.set_cons_zero, List.set_cons_succ]
        refine seg_range [(10, 5)] 5 (by kernel_rfl) (by kernel_rfl) (by kernel_rfl) (by kernel_rfl) (by kernel_rfl) ⟨⟨_, hW⟩, rfl⟩ ?_
        simp only [pickR, List.toList_toArray, List.flatMap_cons, List.flatMap_nil, List.drop_succ_cons, List.drop_zero, List.take_succ_cons, List.take_zero, List.cons_append, List.nil_append, List.append_nil]
        repeat go_big_quiet_step (fail)
        refine wpQuiet_nil ?_
        refine call_at 15 (some 92) 10 #[.slice (some ⟨gt, 0, none⟩) 11 c7] 4 (by kernel_rfl) (by kernel_rfl) (by kernel_rfl) (by kernel_rfl) (by kernel_rfl) ?_
        refine (hrt _ (hTR.below hW)).mono ?_
        rintro e w9 ⟨rfl, hb⟩
        replace hW := hW.trans (hb.mono hW.size)
        refine ⟨_, rfl, ⟨⟨_, hW⟩, rfl⟩, ?_⟩
        simp only [Act.put, List.setIfInBounds_toArray, List.set_cons_zero, List.set_cons_succ]
        refine seg_range [(16, 4)] 0 (by kernel_rfl) (by kernel_rfl) (by kernel_rfl) (by kernel_rfl) (by kernel_rfl) ⟨⟨_, hW⟩, rfl⟩ ?_
        simp only [pickR, List.toList_toArray, List.flatMap_cons, List.flatMap_nil, List.drop_succ_cons, List.drop_zero, List.take_succ_cons, List.take_zero, List.cons_append, List.nil_append, List.append_nil]
        repeat go_big_quiet_step (fail)
        refine wpQuiet_nil ?_
        refine text_end (by kernel_rfl) ?_
        have hb := HB.out.trans (hW.mono HB.out.size)
        clear hW HB cx0 cx1 cx2 cx3 cp1 hnn fl0 fl1 heqv hrd hrt
        go_wp2
        go_ret
        exact ⟨rfl, hb⟩
      · have hFn : (F != 0) = true := by simpa using hF
        have hFF : (F == F) = true := by simp
        clear hF H0 HT HB11 HU8 hRle hpR hpp hpc hgxV hgpV HVs c1
        go_wp2_with fail
        have cx0 := BX.lat 0 _ rfl
        have cx1 := BX.lat 1 _ rfl
        have cx2 := BX.lat 2 _ rfl
        have cx3 := BX.lat 3 _ rfl
        have cp0 := BP.lat 0 _ rfl
        have hW : Below V.heap.size V V.drew := (Below.refl _ _).drew
        have hnn : Nonempty (Lat V) := ⟨⟨V, Below.refl _ _⟩⟩
        have fl0 := fieldVB0
        have HB : Hid (Below w.heap.size w V) := hb
        clear hb BX BP c0
        refine text_begin (S := fun w' => ∃ u : Lat V, w' = u.val) (by kernel_rfl) ?_
        refine seg_range [(0, 1), (3, 2)] 11 (by kernel_rfl) (by kernel_rfl) (by kernel_rfl) (by kernel_rfl) (by kernel_rfl) ⟨⟨_, hW⟩, rfl⟩ ?_
        simp only [pickR, List.toList_toArray, List.flatMap_cons, List.flatMap_nil, List.drop_succ_cons, List.drop_zero, List.take_succ_cons, List.take_zero, List.cons_append, List.nil_append, List.append_nil]
        repeat go_big_quiet_step (fail)
        refine wpQuiet_nil ?_
        refine call_at 1 (some 43) 15 #[.agg #[.int .i64 k, .int .i64 r, .int .i64 n, .int .i64 v]] 10 (by kernel_rfl) (by kernel_rfl) (by kernel_rfl) (by kernel_rfl) (by kernel_rfl) ?_
        refine (hsp _).mono ?_
        rintro e w9 ⟨b9, c9, rfl, _, hb⟩
        replace hW := hW.trans (hb.mono hW.size)
        refine ⟨_, rfl, ⟨⟨_, hW⟩, rfl⟩, ?_⟩
        simp only [Act.put, List.setIfInBounds_toArray, List.set_cons_zero, List.set_cons_succ]
        refine seg_range [(2, 1), (5, 3), (9, 2)] 4 (by kernel_rfl) (by kernel_rfl) (by kernel_rfl) (by kernel_rfl) (by kernel_rfl) ⟨⟨_, hW⟩, rfl⟩ ?_
        simp only [pickR, List.toList_toArray, List.flatMap_cons, List.flatMap_nil, List.drop_succ_cons, List.drop_zero, List.take_succ_cons, List.take_zero, List.cons_append, List.nil_append, List.append_nil]
        repeat go_big_quiet_step (fail)
        refine wpQuiet_nil ?_
        refine call_at 8 (some 50) 16 #[.agg #[.int .i64 k, .int .i64 r, .int .i64 n, .int .i64 v]] 3 (by kernel_rfl) (by kernel_rfl) (by kernel_rfl) (by kernel_rfl) (by kernel_rfl) ?_
        refine (hvf _).mono ?_
        rintro e w9 ⟨rfl, hb⟩
        replace hW := hW.trans (hb.mono hW.size)
        refine ⟨_, rfl, ⟨⟨_, hW⟩, rfl⟩, ?_⟩
        simp only [Act.put, List.setIfInBounds_toArray, List.set_cons_zero, List.set_cons_succ]
        refine seg_range [(11, 3)] 0 (by kernel_rfl) (by kernel_rfl) (by kernel_rfl) (by kernel_rfl) (by kernel_rfl) ⟨⟨_, hW⟩, rfl⟩ ?_
        simp only [pickR, List.toList_toArray, List.flatMap_cons, List.flatMap_nil, List.drop_succ_cons, List.drop_zero, List.take_succ_cons, List.take_zero, List.cons_append, List.nil_append, List.append_nil]
        repeat go_big_quiet_step (fail)
        refine wpQuiet_nil ?_
        refine text_end (by kernel_rfl) ?_
        have hb := HB.out.trans (hW.mono HB.out.size)
        clear hW HB cx0 cx1 cx2 cx3 cp0 hnn fl0 hsp hvf
        go_wp2
        go_ret
        exact ⟨rfl, hb⟩
  · have hd : decide (1048576 < (zs.length : Int)) = true := decide_eq_true (by omega)
    go_enter Try.func3, Try.ntmps3
    go_wp2_with fail
    refine (lwBig_any a zs.length cap w hm).mono ?_
    rintro e w1 ⟨rfl, hw⟩
    replace hw := hw.symm
    subst hw
    rw [hd]
    go_wp2
    go_ret
    exact ⟨rfl, Below.refl _ _⟩

end Go.Proofs.Ytpdbjjklcejimaa
