/- The board of an instance, or its fault. -/
import Derived.Test.YtmlkfmjenkcflaaGreatDoorI6h
import Derived.Test.YtmlkfmjenkcflaaGreatDoorGK
namespace Go.Proofs.YtmlkfmjenkcflaaGreatDoor
open Go.RowKit
open Go.BigFrame
set_option linter.unusedVariables false
set_option maxRecDepth 100000
set_option linter.unusedSimpArgs false

/-- No board. -/
def brd0 : List Value := brdC false (.slice none 0 0) [] [0, 0, 0]
/-- An answer of two: the first one lies in a block. -/
theorem results_two {fn : Func} {p q : Tmp} {ty : TypeId} (h : fn.results = #[.cell p ty, .tmp q]) (tmps : Array Value) (w : World) (g : Nat) (cs : Array Value) (v : Value)
    (hp : tmps.getD p undef = .pointer (some ⟨g, 0, none⟩)) (hq : tmps.getD q undef = v) (hld : (loadVar ty ⟨g, 0, none⟩).run Tryz.prog w = .ok (.agg cs) w) :
    (results fn tmps).run Tryz.prog w = .ok (.tuple #[.agg cs, v]) w := by
  have hp' : tmps[p]?.getD undef = .pointer (some ⟨g, 0, none⟩) := by simpa using hp
  have hq' : tmps[q]?.getD undef = v := by simpa using hq
  simp [results, h, hp', hq', asAddr, hld]
theorem ld_brd {w : World} {g : Nat} {t : TypeId} {L : List Value} (hB : Blk w g t L.toArray) (hl : L.length = 30) : (loadVar 76 ⟨g, 0, none⟩).run Tryz.prog w = .ok (.agg L.toArray) w :=
  run_loadVar_mid w g 0 76 L _ (rng hB L (fun j v hv => by rw [Nat.zero_add, List.getElem?_toArray]; exact hv)) Tryz.underlying76 rfl (by rw [hl]; exact sz_board)
theorem wel_of {rs : List RoundE} (h : rndsF rs = 0) : Wel rs := fun r hr => by
  obtain ⟨k, hk, rfl⟩ := List.getElem_of_mem hr
  have := rndsF_at h k hk
  have e : rs.getD k rnd0 = rs[k] := by simp [List.getD, hk]
  rw [e] at this
  exact ⟨vf_len this.1, vf_len this.2⟩
theorem wel_take {rs : List RoundE} (h : Wel rs) (k : Nat) : Wel (rs.take k) := fun r hr => h r (List.mem_of_mem_take hr)
theorem insF_I {x : InstE} (h : shpF x = 0) : insF x = if rgtI x then 0 else 10 := if_pos h

set_option maxHeartbeats 8000000 in
theorem boardOf_any (p : InstQ) (w : World) (hG : Rul w) (h : instK.rd w p) (hl : p.n ≤ 1048576) :
    Calls Tryz.prog 32 #[.agg #[.bool p.has, p.vb, p.vr, p.vd]] w fun e w' => e = .returned (.tuple #[.agg (if insF p.e = 0 then brdC p.has p.vb p.e.rounds p.dec else brd0).toArray, .int .i64 (insF p.e)]) ∧ Below w.heap.size w w' := by
  have hff := fun w h => formFault_any p w h hl
  have hrb := fun (w' : World) hb => instK.rd_below (w' := w') h hb
  generalize hC : insF p.e = C
  generalize hBD : (if C = 0 then brdC p.has p.vb p.e.rounds p.dec else brd0) = BD
  have HC : Hid (insF p.e = C ∧ (if C = 0 then brdC p.has p.vb p.e.rounds p.dec else brd0) = BD) := And.intro hC hBD
  clear hC hBD
  obtain ⟨has, vb, batch, vr, rounds, vd, dec⟩ := p
  obtain ⟨hT, hR, hD⟩ : txnK.At w vb batch ∧ roundK.At w vr rounds ∧ intK.At w vd dec := h
  obtain ⟨ba, bk, rfl⟩ := hT.shape
  obtain ⟨va, vk, rfl⟩ := hR.shape
  obtain ⟨da, dk, rfl⟩ := hD.shape
  dsimp only at hff hrb
  have B := (Blk.new w 32 #[.bool has, .slice ba batch.length bk, .slice va rounds.length vk, .slice da dec.length dk]).below (w' := (w.alloc (.cells #[.bool has, .slice ba batch.length bk, .slice va rounds.length vk, .slice da dec.length dk] 32)).alloc (.cells brd0.toArray 76)) (by go_grown)
  have Rb := Blk.new (w.alloc (.cells #[.bool has, .slice ba batch.length bk, .slice va rounds.length vk, .slice da dec.length dk] 32)) 76 brd0.toArray
  simp only [World.size_alloc] at Rb
  have hB : Below w.heap.size w ((w.alloc (.cells #[.bool has, .slice ba batch.length bk, .slice va rounds.length vk, .slice da dec.length dk] 32)).alloc (.cells brd0.toArray 76)) := by go_grown
  have hsz0 : (Tryz.prog.info? 76).map (·.size) = some brd0.toArray.size := by kernel_rfl
  have hold0 : brd0.toArray.size = brd0.toArray.size := rfl
  have hszZ : (Tryz.prog.info? 76).map (·.size) = some (#[.int .i64 0, .int .i64 0, .int .i64 0, .int .i64 0, .int .i64 0, .int .i64 0, .int .i64 0, .int .i64 0, .int .i64 0, .int .i64 0, .int .i64 0, .int .i64 0, .int .i64 0, .int .i64 0, .int .i64 0, .int .i64 0, .int .i64 0, .int .i64 0, .int .i64 0, .int .i64 0, .int .i64 0, .int .i64 0, .int .i64 0, .int .i64 0, .int .i64 0, .bool false, .slice none 0 0, .int .i64 0, .int .i64 0, .int .i64 0] : Array Value).size := by kernel_rfl
  have holdZ : brd0.toArray.size = (#[.int .i64 0, .int .i64 0, .int .i64 0, .int .i64 0, .int .i64 0, .int .i64 0, .int .i64 0, .int .i64 0, .int .i64 0, .int .i64 0, .int .i64 0, .int .i64 0, .int .i64 0, .int .i64 0, .int .i64 0, .int .i64 0, .int .i64 0, .int .i64 0, .int .i64 0, .int .i64 0, .int .i64 0, .int .i64 0, .int .i64 0, .int .i64 0, .int .i64 0, .bool false, .slice none 0 0, .int .i64 0, .int .i64 0, .int .i64 0] : Array Value).size := rfl
  have honeZ : (#[.int .i64 0, .int .i64 0, .int .i64 0, .int .i64 0, .int .i64 0, .int .i64 0, .int .i64 0, .int .i64 0, .int .i64 0, .int .i64 0, .int .i64 0, .int .i64 0, .int .i64 0, .int .i64 0, .int .i64 0, .int .i64 0, .int .i64 0, .int .i64 0, .int .i64 0, .int .i64 0, .int .i64 0, .int .i64 0, .int .i64 0, .int .i64 0, .int .i64 0, .bool false, .slice none 0 0, .int .i64 0, .int .i64 0, .int .i64 0] : Array Value).all (·.oneCell') = true := by kernel_rfl
  have hone0 : brd0.toArray.all (·.oneCell') = true := by kernel_rfl
  have hz30 : #[.int .i64 0, .int .i64 0, .int .i64 0, .int .i64 0, .int .i64 0, .int .i64 0, .int .i64 0, .int .i64 0, .int .i64 0, .int .i64 0, .int .i64 0, .int .i64 0, .int .i64 0, .int .i64 0, .int .i64 0, .int .i64 0, .int .i64 0, .int .i64 0, .int .i64 0, .int .i64 0, .int .i64 0, .int .i64 0, .int .i64 0, .int .i64 0, .int .i64 0, .bool false, .slice none 0 0, .int .i64 0, .int .i64 0, .int .i64 0] = brd0.toArray := rfl
  go_enter Tryz.func32, Tryz.ntmps32
  go_wp2_with fail
  generalize (w.alloc (.cells #[.bool has, .slice ba batch.length bk, .slice va rounds.length vk, .slice da dec.length dk] 32)).alloc (.cells brd0.toArray 76) = W at *
  refine (hff W (hrb W hB)).mono ?_
  rintro e w1 ⟨rfl, hb1⟩
  have Bx := B.below hb1
  replace Rb := Rb.below hb1
  replace hB := hB.trans (hb1.mono hB.size)
  have hs1 : w.heap.size + 1 < w1.heap.size := Rb.lt
  clear hff hrb hb1 B
  by_cases h0 : shpF (InstQ.e ⟨has, .slice ba batch.length bk, batch, .slice va rounds.length vk, rounds, .slice da dec.length dk, dec⟩) = 0
  · obtain ⟨⟨h1, h4⟩, hF, hDv, _, _⟩ := shp_zero h0
    have hCI := insF_I h0
    replace hF : rndsF (rounds.map RoundQ.e) = 0 := hF
    replace hDv : vf dec 1 = 0 := hDv
    replace h1 : 1 ≤ (rounds.map RoundQ.e).length := h1
    replace h4 : (rounds.map RoundQ.e).length ≤ 4 := h4
    rw [List.length_map] at h1 h4
    have HCI : Hid (C = if (List.range (rounds.map RoundQ.e).length).all (allI has (rounds.map RoundQ.e)) && endA (rounds.map RoundQ.e) dec then 0 else 10) := HC.out.1.symm.trans hCI
    have HBD : Hid ((if C = 0 then brdC has (.slice ba batch.length bk) (rounds.map RoundQ.e) dec else brd0) = BD) := HC.out.2
    rw [h0]
    clear h0 hCI HC
    have hd3 := vf_len hDv
    obtain ⟨d0, d1, d2, rfl⟩ := three hd3
    have hDR := (intK_at (hD.below hB)).2
    obtain ⟨db, dof, hda, _, _⟩ := hDR 0 (by simp)
    subst hda
    have hro := fun b off cap w h h3 => rowOf_any b off cap [d0, d1, d2] w h h3
    have hroR := fun zs b off cap w h h3 => rowOf_any b off cap zs w h h3
    have hW3 : [d0, d1, d2].length = 3 := rfl
    rw [hW3] at Bx
    go_wp2_with fail
    refine region_vals [some 14, some 15, some 16, some 17, some 18, some 19, some 20, some 21, some 5] (fun vs w' => ∃ g : Nat, vs = [.pointer (some ⟨w.heap.size, 0, none⟩), .bool has, .pointer (some ⟨w.heap.size, 1, none⟩), .slice ba batch.length bk, .pointer (some ⟨w.heap.size, 3, none⟩), .slice (some ⟨db, dof, none⟩) 3 dk, .agg #[iv d0, iv d1, iv d2], .agg (brdC has (.slice ba batch.length bk) [] [d0, d1, d2]).toArray, .pointer (some ⟨g, 0, none⟩)] ∧ w1.heap.size ≤ g ∧ Blk w' g 76 (brdC has (.slice ba batch.length bk) [] [d0, d1, d2]).toArray ∧ Below w1.heap.size w1 w') ?_ ?_
    · have hW : Below w1.heap.size w1 w1.drew := (Below.refl _ _).drew
      have hnn : Nonempty (Lat w1) := ⟨⟨w1, Below.refl _ _⟩⟩
      obtain ⟨p0, p1⟩ := Bx.lts2
      have p3 := Bx.lat 3 _ rfl
      have hszB : (Tryz.prog.info? 76).map (·.size) = some (brdC has (.slice ba batch.length bk) [] [d0, d1, d2]).toArray.size := by kernel_rfl
      have hold : brd0.toArray.size = (brdC has (.slice ba batch.length bk) [] [d0, d1, d2]).toArray.size := rfl
      have hone : (brdC has (.slice ba batch.length bk) [] [d0, d1, d2]).toArray.all (·.oneCell') = true := by kernel_rfl
      refine text_begin (S := fun w' => ∃ u : Lat w1, w' = u.val) (by kernel_rfl) ?_
      refine sgr [(0, 6)] 4 (by kernel_rfl) ⟨⟨_, hW⟩, rfl⟩ ?_
      simp only [pkE]
      repeat go_big_quiet_step (fail)
      refine wpQuiet_nil ?_
      clear p0 p1 p3
      generalize w1.drew = wd at hW ⊢
      refine twa 6 8 3 (by kernel_rfl) ?_ ?_
      · refine opc 6 (some 20) 45 #[.slice (some ⟨db, dof, none⟩) 3 dk] (by kernel_rfl) ?_
        refine (hro db dof dk _ (hDR.below hW) rfl).mono ?_
        rintro e w8 ⟨rfl, hb8⟩
        replace hW := hW.trans (hb8.mono hW.size)
        clear hb8
        refine ⟨_, rfl, ⟨⟨_, hW⟩, rfl⟩, ?_⟩
        simp only [Act.put, pgE, pjE]
        refine qta 7 (some 21) (.agg (brdC has (.slice ba batch.length bk) [] [d0, d1, d2]).toArray) 2 (by kernel_rfl) (fun u _ => by kernel_rfl) ⟨⟨_, hW⟩, rfl⟩ ?_
        simp only [Act.put, pgE, pjE]
        refine ona 8 1 rfl (by kernel_rfl) ?_
        have Bz := Blk.new w8 76 brd0.toArray
        have hzz : w1.heap.size ≤ w8.heap.size := hW.size
        replace hW := hW.alloc hW.size (.cells brd0.toArray 76)
        go_wp2
        refine ThenGo.to ⟨⟨⟨_, hW⟩, rfl⟩, ?_⟩
        generalize w8.alloc (.cells brd0.toArray 76) = Z8 at Bz hW ⊢
        refine ona 9 0 rfl (by kernel_rfl) ?_
        refine st_row (by kernel_rfl) 76 _ _ rfl _ (brdC has (.slice ba batch.length bk) [] [d0, d1, d2]).toArray rfl rfl 76 _ Bz hszB hold hone ?_
        refine ThenGo.to ⟨⟨⟨_, below_row hW hzz _⟩, rfl⟩, ?_⟩
        refine text_end (by kernel_rfl) ?_
        refine ⟨rfl, _, ⟨w8.heap.size, rfl, hzz, Bz.row _, below_row hW hzz _⟩, ?_⟩
        simp only [putAll, Act.put, pgE, pjE]
        try rfl
      · refine op_one 8 _ rfl ?_
        have Bz := Blk.new wd 76 brd0.toArray
        have hzz : w1.heap.size ≤ wd.heap.size := hW.size
        replace hW := hW.alloc hW.size (.cells brd0.toArray 76)
        go_wp2
        refine ThenGo.to ⟨⟨⟨_, hW⟩, rfl⟩, ?_⟩
        generalize wd.alloc (.cells brd0.toArray 76) = Z8 at Bz hW ⊢
        refine cla 6 (some 20) 45 #[.slice (some ⟨db, dof, none⟩) 3 dk] 2 (by kernel_rfl) ?_
        refine (hro db dof dk _ (hDR.below hW) rfl).mono ?_
        rintro e w8 ⟨rfl, hb8⟩
        replace hW := hW.trans (hb8.mono hW.size)
        replace Bz := Bz.below hb8
        clear hb8
        refine ⟨_, rfl, ⟨⟨_, hW⟩, rfl⟩, ?_⟩
        simp only [Act.put, pgE, pjE]
        refine qta 7 (some 21) (.agg (brdC has (.slice ba batch.length bk) [] [d0, d1, d2]).toArray) 1 (by kernel_rfl) (fun u _ => by kernel_rfl) ⟨⟨_, hW⟩, rfl⟩ ?_
        simp only [Act.put, pgE, pjE]
        refine ona 9 0 rfl (by kernel_rfl) ?_
        refine st_row (by kernel_rfl) 76 _ _ rfl _ (brdC has (.slice ba batch.length bk) [] [d0, d1, d2]).toArray rfl rfl 76 _ Bz hszB hold hone ?_
        refine ThenGo.to ⟨⟨⟨_, below_row hW hzz _⟩, rfl⟩, ?_⟩
        refine text_end (by kernel_rfl) ?_
        refine ⟨rfl, _, ⟨wd.heap.size, rfl, hzz, Bz.row _, below_row hW hzz _⟩, ?_⟩
        simp only [putAll, Act.put, pgE, pjE]
        try rfl
    rintro vs X ⟨g, rfl, hg, Bg, hX⟩
    simp only [putAll, Act.put, pjE]
    have hBX : Below w.heap.size w X := hB.trans (hX.mono hB.size)
    have RbX := Rb.below hX
    have BxX := Bx.below hX
    have hgs : w.heap.size + 1 < g := by omega
    have hRX := hR.below hBX
    have hGX := hG.below hBX
    have p2 := BxX.cell 2 _ rfl
    clear hX hB Rb Bx hro hDR
    go_wp2
    clear p2
    generalize hrs : rounds.map RoundQ.e = rs at *
    have hwel := wel_of hF
    have hrl : rs.length = rounds.length := by rw [← hrs, List.length_map]
    go_loopw [25] (fun j wr => ∃ k : Nat, k ≤ rounds.length ∧ j = .int .i64 k ∧ Hid (Blk wr g 76 (brdC has (.slice ba batch.length bk) (rs.take k) [d0, d1, d2]).toArray) ∧ Hid (Out [g] X wr)) (fun j _ => rounds.length - (intOf j).toNat)
    case atStart => exact ⟨0, Nat.zero_le _, rfl, Bg, Out.refl _ _⟩
    case round =>
      obtain ⟨k, hk, rfl, HB, HO⟩ := hrel
      have hBr : Below w.heap.size w wr := Out.keep hBX HO.out hBX.size (fun k hk => by simp only [List.mem_singleton] at hk; omega)
      by_cases hlt : k < rounds.length
      · obtain ⟨rb, ro, hra, hbs, hc, hrd⟩ := (hR.below hBr).cell (by decide) k hlt
        have hc' : ∀ j x, (roundK.cells rounds[k])[j]? = some x → wr.cell? ⟨rb, ro + k * 2 + j, none⟩ = some x := hc
        have r0 := hc' 0 (rounds[k].vr) rfl
        have r1 := hc' 1 (rounds[k].vp) rfl
        have hat : rs.getD k rnd0 = RoundQ.e rounds[k] := by rw [← hrs]; exact rnd_at rounds k hlt
        obtain ⟨hv1, hv2⟩ := rndsF_at hF k (by rw [hrl]; exact hlt)
        rw [hat] at hv1 hv2
        replace hv1 : vf rounds[k].rep 1 = 0 := hv1
        replace hv2 : vf rounds[k].pro 2 = 0 := hv2
        have hgk : rs[k]'(by rw [hrl]; exact hlt) = RoundQ.e rounds[k] := by rw [← hat]; simp [List.getD, show k < rs.length by rw [hrl]; exact hlt]
        have HTK : Hid (rs.take (k + 1) = rs.take k ++ [RoundE.mk rounds[k].rep rounds[k].pro]) := by
          rw [List.take_succ_eq_append_getElem (show k < rs.length by rw [hrl]; exact hlt), hgk]
          exact (rfl : _ = _)
        have hrdw : roundK.rd w rounds[k] := by
          obtain ⟨_, _, _, _, _, hx⟩ := hR.cell (by decide) k hlt
          exact hx
        obtain ⟨hA1, hA2⟩ : intK.At w rounds[k].vr rounds[k].rep ∧ intK.At w rounds[k].vp rounds[k].pro := hrdw
        clear hc hc' hat hgk hrd
        generalize rounds[k].vr = qv at *
        generalize rounds[k].rep = qr at *
        generalize rounds[k].vp = qw at *
        generalize rounds[k].pro = qp at *
        obtain ⟨xa, xc, xb, xo, rfl, hxa, _, xRow⟩ := vf_row hA1 hv1 0 (by omega)
        obtain ⟨ya, yc, yb, yo, rfl, hya, _, yRow⟩ := vf_row hA2 hv2 0 (by omega)
        subst hra hxa hya
        obtain ⟨x0, x1, x2, rfl⟩ := three (vf_len hv1)
        obtain ⟨y0, y1, y2, rfl⟩ := three (vf_len hv2)
        have By := Blk.new wr 43 #[.slice (some ⟨xb, xo, none⟩) 3 xc, .slice (some ⟨yb, yo, none⟩) 3 yc]
        have hbY : Below wr.heap.size wr (wr.alloc (.cells #[.slice (some ⟨xb, xo, none⟩) 3 xc, .slice (some ⟨yb, yo, none⟩) 3 yc] 43)) := by go_grown
        have HOY : Hid (Out [g] X (wr.alloc (.cells #[.slice (some ⟨xb, xo, none⟩) 3 xc, .slice (some ⟨yb, yo, none⟩) 3 yc] 43))) := HO.out.call hbY
        have HBY : Hid (Blk (wr.alloc (.cells #[.slice (some ⟨xb, xo, none⟩) 3 xc, .slice (some ⟨yb, yo, none⟩) 3 yc] 43)) g 76 (brdC has (.slice ba batch.length bk) (rs.take k) [d0, d1, d2]).toArray) := HB.out.below hbY
        have hgw : g < wr.heap.size := HB.out.lt
        have hyg : wr.heap.size ≠ g := by omega
        replace hBr := hBr.trans (hbY.mono hBr.size)
        rw [Nat.add_zero] at r0
        clear HB HO hbY hA1 hA2
        go_wp2_with fail
        clear r0 r1
        generalize wr.alloc (.cells #[.slice (some ⟨xb, xo, none⟩) 3 xc, .slice (some ⟨yb, yo, none⟩) 3 yc] 43) = Y at *
        have hkeep : ∀ W', Out [g] Y W' → Below w.heap.size w W' := fun W' hW' => Out.keep hBr hW' hBr.size (fun k hk => by simp only [List.mem_singleton] at hk; omega)
        have hadd := fun w' hB' => addRound_any g 76 (rs.take k) ([.bool has, .slice ba batch.length bk] ++ [d0, d1, d2].map iv) ⟨[x0, x1, x2], [y0, y1, y2]⟩ w' hB' (wel_take hwel k) ⟨rfl, rfl⟩ (by rw [List.length_take]; omega)
        have hnn : Nonempty (LatO [g] Y) := ⟨⟨Y, Out.refl _ _⟩⟩
        have hW : Out [g] Y Y.drew := Out.of_below ((Below.refl _ _).drew)
        have p0 := lato_cell (F := [g]) (By.cell 0 _ rfl) (by simp only [List.mem_singleton]; exact hyg)
        have p1 := lato_cell (F := [g]) (By.cell 1 _ rfl) (by simp only [List.mem_singleton]; exact hyg)
        have Bg2 := HBY.out.below (w' := Y.drew) ((Below.refl _ _).drew)
        refine text_begin (S := fun w' => ∃ u : LatO [g] Y, w' = u.val) (by kernel_rfl) ?_
        refine sgr [(0, 3), (4, 2)] 4 (by kernel_rfl) ⟨⟨_, hW⟩, rfl⟩ ?_
        simp only [pkE]
        repeat go_big_quiet_step (fail)
        refine wpQuiet_nil ?_
        refine cla 3 (some 32) 45 #[.slice (some ⟨xb, xo, none⟩) 3 xc] 3 (by kernel_rfl) ?_
        refine (hroR _ xb xo xc _ (xRow.below (hkeep _ hW)) rfl).mono ?_
        rintro e w8 ⟨rfl, hb8⟩
        replace hW := hW.call hb8
        replace Bg2 := Bg2.below hb8
        clear hb8
        refine ⟨_, rfl, ⟨⟨_, hW⟩, rfl⟩, ?_⟩
        simp only [Act.put, pjE]
        refine cla 6 (some 35) 45 #[.slice (some ⟨yb, yo, none⟩) 3 yc] 2 (by kernel_rfl) ?_
        refine (hroR _ yb yo yc _ (yRow.below (hkeep _ hW)) rfl).mono ?_
        rintro e w9 ⟨rfl, hb9⟩
        replace hW := hW.call hb9
        replace Bg2 := Bg2.below hb9
        clear hb9
        refine ⟨_, rfl, ⟨⟨_, hW⟩, rfl⟩, ?_⟩
        simp only [Act.put, pjE]
        refine qta 7 (some 36) (.agg (rowC ⟨[x0, x1, x2], [y0, y1, y2]⟩).toArray) 1 (by kernel_rfl) (fun u _ => by kernel_rfl) ⟨⟨_, hW⟩, rfl⟩ ?_
        simp only [Act.put, pjE]
        refine cla 8 (some 37) 46 #[.pointer (some ⟨g, 0, none⟩), .agg (rowC ⟨[x0, x1, x2], [y0, y1, y2]⟩).toArray] 0 (by kernel_rfl) ?_
        refine (hadd w9 Bg2).mono ?_
        rintro e w10 ⟨rfl, hB10, u10⟩
        replace hW := hW.trans u10
        clear u10
        refine ⟨_, rfl, ⟨⟨_, hW⟩, rfl⟩, ?_⟩
        simp only [Act.put, pjE]
        refine text_end (by kernel_rfl) ?_
        have HB2 : Hid (Blk w10 g 76 (brdC has (.slice ba batch.length bk) (rs.take (k + 1)) [d0, d1, d2]).toArray) := by rw [HTK.out]; exact hB10
        have HO2 : Hid (Out [g] X w10) := HOY.out.trans hW
        clear hB10 hW hadd HBY HOY p0 p1 hnn hkeep HTK
        go_wp2
        go_roundw
        case rel => exact ⟨k + 1, by omega, by go_num, HB2.out, HO2.out⟩
        case measure => simp [intOf]; omega
      · have hkl : k = rounds.length := by omega
        subst hkl
        have Bw := HB.out
        rw [← hrl, List.take_length] at Bw
        have Rw : Blk wr (w.heap.size + 1) 76 brd0.toArray := (HO.out.block _ RbX.lt (by simp only [List.mem_singleton]; omega)).trans RbX
        have hlen := brdC_length (has := has) (vb := .slice ba batch.length bk) (dec := [d0, d1, d2]) hwel (by rw [hrl]; exact h4) rfl
        have hir := isRight_any has (.slice ba batch.length bk) rs [d0, d1, d2] wr (hG.below hBr) hwel (by rw [hrl]; exact h4) rfl
        have hrgB := rng Bw (brdC has (.slice ba batch.length bk) rs [d0, d1, d2]) (o := 0) (fun j v hv => by rw [Nat.zero_add, List.getElem?_toArray]; exact hv)
        have hszB : (Tryz.prog.info? 76).map (·.size) = some (brdC has (.slice ba batch.length bk) rs [d0, d1, d2]).length := by rw [hlen]; exact sz_board
        have honeB : (brdC has (.slice ba batch.length bk) rs [d0, d1, d2]).toArray.all (·.oneCell') = true := all_oneCell_toArray (fun v hv => by
          simp only [brdC, rndC, rowsV, List.mem_append, List.mem_cons, List.mem_flatMap, List.mem_replicate, List.mem_map, rowC, List.not_mem_nil, or_false] at hv
          rcases hv with (rfl | ⟨r, _, z, _, rfl⟩ | ⟨_, rfl⟩) | (rfl | rfl) | ⟨z, _, rfl⟩ <;> rfl)
        clear HB HO hroR
        generalize hX2 : ((List.range rs.length).all (allI has rs) && endA rs [d0, d1, d2]) = XX at *
        generalize hcs : brdC has (.slice ba batch.length bk) rs [d0, d1, d2] = cs at *
        go_wp2_with (refine ld_g (by kernel_rfl) 76 _ rfl _ _ rfl cs _ hrgB Tryz.underlying76 rfl hszB ?_)
        refine hir.mono ?_
        rintro e w5 ⟨rfl, hb5⟩
        replace Rw := Rw.below hb5
        replace Bw := Bw.below hb5
        replace hBr := hBr.trans (hb5.mono hBr.size)
        replace hrgB := rng_below hrgB hb5
        clear hir hb5
        cases XX with
        | false =>
          have E1 : Hid (C = 10) := by rw [HCI.out]; exact (rfl : _ = _)
          have E2 : Hid (BD = brd0) := by
            have := HBD.out
            rw [E1.out, if_neg (by decide)] at this
            exact this.symm
          clear HCI HBD hrgB
          go_wp2_with (refine st_row (by kernel_rfl) 76 _ _ rfl _ #[.int .i64 0, .int .i64 0, .int .i64 0, .int .i64 0, .int .i64 0, .int .i64 0, .int .i64 0, .int .i64 0, .int .i64 0, .int .i64 0, .int .i64 0, .int .i64 0, .int .i64 0, .int .i64 0, .int .i64 0, .int .i64 0, .int .i64 0, .int .i64 0, .int .i64 0, .int .i64 0, .int .i64 0, .int .i64 0, .int .i64 0, .int .i64 0, .int .i64 0, .bool false, .slice none 0 0, .int .i64 0, .int .i64 0, .int .i64 0] rfl rfl 76 _ Rw hszZ holdZ honeZ ?_)
          rw [E2.out, E1.out]
          exact bodyPost_ret (v := .tuple #[.agg brd0.toArray, .int .i64 10]) (results_two Tryz.results32 _ _ (w.heap.size + 1) brd0.toArray _ rfl rfl (ld_brd (Rw.row _) rfl)) rfl ⟨rfl, below_row hBr (by omega) _⟩
        | true =>
          have E1 : Hid (C = 0) := by rw [HCI.out]; exact (rfl : _ = _)
          have E2 : Hid (BD = cs) := by
            have := HBD.out
            rw [E1.out, if_pos rfl] at this
            exact this.symm
          have hszC : (Tryz.prog.info? 76).map (·.size) = some cs.toArray.size := hszB
          have holdC : brd0.toArray.size = cs.toArray.size := (show 30 = cs.length from hlen.symm)
          clear HCI HBD
          go_wp2_with (first | (refine ld_g (by kernel_rfl) 76 _ rfl _ _ rfl cs _ hrgB Tryz.underlying76 rfl hszB ?_) | (refine st_row (by kernel_rfl) 76 _ _ rfl _ cs.toArray rfl rfl 76 _ Rw hszC holdC honeB ?_))
          rw [E2.out, E1.out]
          exact bodyPost_ret (v := .tuple #[.agg cs.toArray, .int .i64 0]) (results_two Tryz.results32 _ _ (w.heap.size + 1) cs.toArray _ rfl rfl (ld_brd (Rw.row _) hlen)) rfl ⟨rfl, below_row hBr (by omega) _⟩
  · have hC : C ≠ 0 ∧ C = shpF (InstQ.e ⟨has, .slice ba batch.length bk, batch, .slice va rounds.length vk, rounds, .slice da dec.length dk, dec⟩) := by
      have := HC.out.1
      unfold insF at this
      rw [if_neg h0] at this
      exact ⟨by rw [← this]; exact h0, this.symm⟩
    have E2 : Hid (BD = brd0) := by
      have := HC.out.2
      rw [if_neg hC.1] at this
      exact this.symm
    rw [← hC.2]
    have h0' : (C != 0) = true := by simpa using hC.1
    clear HC h0 hC hR hT hD
    go_wp2_with (refine st_row (by kernel_rfl) 76 _ _ rfl _ #[.int .i64 0, .int .i64 0, .int .i64 0, .int .i64 0, .int .i64 0, .int .i64 0, .int .i64 0, .int .i64 0, .int .i64 0, .int .i64 0, .int .i64 0, .int .i64 0, .int .i64 0, .int .i64 0, .int .i64 0, .int .i64 0, .int .i64 0, .int .i64 0, .int .i64 0, .int .i64 0, .int .i64 0, .int .i64 0, .int .i64 0, .int .i64 0, .int .i64 0, .bool false, .slice none 0 0, .int .i64 0, .int .i64 0, .int .i64 0] rfl rfl 76 _ Rb hszZ holdZ honeZ ?_)
    rw [E2.out]
    exact bodyPost_ret (v := .tuple #[.agg brd0.toArray, .int .i64 C]) (results_two Tryz.results32 _ _ (w.heap.size + 1) brd0.toArray _ rfl rfl (ld_brd (Rb.row _) rfl)) rfl ⟨rfl, below_row hB (by omega) _⟩

end Go.Proofs.YtmlkfmjenkcflaaGreatDoor
