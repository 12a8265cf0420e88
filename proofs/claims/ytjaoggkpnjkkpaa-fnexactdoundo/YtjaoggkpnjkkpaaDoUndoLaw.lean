/- FnExactDoUndo walked: it comes out true, and only new memory is made. No condition. -/
import Derived.Test.YtjaoggkpnjkkpaaUnR
import Derived.Test.YtjaoggkpnjkkpaaS4f
import Derived.Test.YtjaoggkpnjkkpaaMid
namespace Go.Proofs.Ytjaoggkpnjkkpaa
open Go.RowKit
open Go.BigFrame
set_option linter.unusedVariables false
set_option linter.unusedSimpArgs false

set_option maxRecDepth 100000 in
set_option maxHeartbeats 4000000 in
theorem doUndoLaw (a0 : Option Addr) (cap0 : Nat) (zs0 : List ItemD) (ti1 ts1 tq1 : Int) (a1 : Option Addr) (cap1 : Nat) (zs1 : List ActD) (w : World) (h0 : ItemRow w a0 zs0) (hn0 : zs0.length ≤ 9223372036854775807) (h1 : ActRow w a1 zs1) (hn1 : zs1.length ≤ 9223372036854775807) :
    Calls Try.prog 4 #[.slice a0 zs0.length cap0, .agg #[.int .i64 ti1, .int .i64 ts1, .int .i64 tq1, .slice a1 zs1.length cap1]] w fun e w' => e = .returned (.bool true) ∧ Below w.heap.size w w' := by
  have hb0 : Below w.heap.size w (w.alloc (.cells #[.int .i64 ti1, .int .i64 ts1, .int .i64 tq1, .slice a1 zs1.length cap1] 50)) := by go_grown
  have B1 := Blk.new w 50 #[.int .i64 ti1, .int .i64 ts1, .int .i64 tq1, .slice a1 zs1.length cap1]
  go_enter Try.func4, Try.ntmps4
  go_wp2_with fail
  generalize w.alloc (.cells #[.int .i64 ti1, .int .i64 ts1, .int .i64 tq1, .slice a1 zs1.length cap1] 50) = W0 at hb0 B1
  refine (szItems_u a0 zs0.length cap0 1048576 _ hn0 (by omega) (by omega)).mono ?_
  rintro e y0 ⟨sz0, rfl, hs0, hb⟩
  replace B1 := B1.below hb
  replace hb0 := hb0.trans (hb.mono hb0.size)
  clear hb
  by_cases hbig0 : sz0 < 0
  · go_wp2
    go_ret
    exact ⟨rfl, hb0⟩
  have hl0 : zs0.length ≤ 1048576 := by have := hs0 (by omega); omega
  have hk0 : sz0 ≤ 1048576 := by have := hs0 (by omega); omega
  have hj0 : 0 ≤ sz0 := by omega
  clear hs0
  have p0 := B1.cell 0 _ rfl
  have p1 := B1.cell 1 _ rfl
  have p2 := B1.cell 2 _ rfl
  have p3 := B1.cell 3 _ rfl
  go_wp2_with fail
  clear p0 p1 p2 p3
  refine (szTxn_u ti1 ts1 tq1 a1 zs1.length cap1 sz0 _ hn1 (by omega) (by omega)).mono ?_
  rintro e y1 ⟨sz1, rfl, hs1, hb⟩
  replace B1 := B1.below hb
  replace hb0 := hb0.trans (hb.mono hb0.size)
  clear hb
  by_cases hbig1 : sz1 < 0
  · go_wp2
    go_ret
    exact ⟨rfl, hb0⟩
  have hl1 : zs1.length ≤ 1048576 := by have := hs1 (by omega); omega
  have hk1 : sz1 ≤ 1048576 := by have := hs1 (by omega); omega
  have hj1 : 0 ≤ sz1 := by omega
  clear hs1
  have hto0 := fun w h => toItems_u a0 cap0 zs0 w h hl0
  have hto1 := fun w h => toTxn_u ti1 ts1 tq1 a1 cap1 zs1 w h hl1
  have hsp := fun a c ta tc w h hN ht => specDoUndo_any a c zs0 ti1 ts1 tq1 ta tc zs1 w h hN ht hl0 hl1
  have him := fun a c ta tc w h ht => implDoUndo_any a c zs0 ti1 ts1 tq1 ta tc zs1 w h ht hl0 hl1
  have hyl : (duU zs0 ti1 ts1 tq1 zs1).length ≤ 1048576 ∧ (exR zs0 ti1 ts1 tq1 zs1).length ≤ 1048576 := ⟨duU_le zs0 ti1 ts1 tq1 zs1, Nat.le_trans (exR_le zs0 ti1 ts1 tq1 zs1) (by decide)⟩
  generalize exC zs0 ti1 ts1 tq1 zs1 = d at hsp him
  generalize exR zs0 ti1 ts1 tq1 zs1 = ys at hsp him hyl
  generalize exV zs0 ti1 ts1 tq1 zs1 = y at hsp him
  generalize duU zs0 ti1 ts1 tq1 zs1 = us at hsp him hyl
  have heg := fun a1 c1 a1' c1' a2 c2 a2' c2' w h h' => eqUnR_true d y a1 a1' c1 c1' a2 a2' c2 c2' us ys w h h' hyl
  have hmk := fun lo hi a1 c1 a2 c2 w o => markUnR_any lo hi d y a1 c1 a2 c2 us ys w o hyl
  have hhd := fun a1 c1 a2 c2 w o => heldUnR_true d y a1 c1 a2 c2 us.length ys.length w o hyl
  have hm0 : ¬ unM us.length ys.length < 0 := by unfold unM; omega
  generalize unM us.length ys.length = m at hmk hhd hm0
  have hmm : (m != m) = false := by simp
  go_wp2_with fail
  refine region_vals [some 24, some 25, some 26, some 27, some 28, some 6] (fun vs w' => ∃ (xas0 : Option Addr) (xcs0 : Nat) (xas1 : Option Addr) (xcs1 : Nat) (ras : Option Addr) (rcs : Nat) (rbs : Option Addr) (rds : Nat) (bxs los his : Nat), vs = [.slice a0 zs0.length cap0, .slice xas0 zs0.length xcs0, .agg #[.int .i64 ti1, .int .i64 ts1, .int .i64 tq1, .slice a1 zs1.length cap1], .agg #[.int .i64 ti1, .int .i64 ts1, .int .i64 tq1, .slice xas1 zs1.length xcs1], .agg #[.int .i64 d, .int .i64 y, .slice ras us.length rcs, .slice rbs ys.length rds], .pointer (some ⟨bxs, 0, none⟩)] ∧ Blk w' bxs 32 #[.int .i64 d, .int .i64 y, .slice ras us.length rcs, .slice rbs ys.length rds] ∧ OwnU los his w' (.slice ras us.length rcs) (.slice rbs ys.length rds) us ys ∧ Below y1.heap.size y1 w') ?_ ?_
  · skip
    have hW : Below y1.heap.size y1 y1.drew := (Below.refl _ _).drew
    have hne : Nonempty (Lat y1) := ⟨⟨y1, Below.refl _ _⟩⟩
    have p0 := B1.lat 0 _ rfl
    have p1 := B1.lat 1 _ rfl
    have p2 := B1.lat 2 _ rfl
    have p3 := B1.lat 3 _ rfl
    refine text_begin (S := fun w' => ∃ u : Lat y1, w' = u.val) (by kernel_rfl) ?_
    refine seg_range [(0, 1), (2, 1)] 5 (by kernel_rfl) (by kernel_rfl) (by kernel_rfl) (by kernel_rfl) (by kernel_rfl) ⟨⟨_, hW⟩, rfl⟩ ?_
    simp only [pickR, List.toList_toArray, List.flatMap_cons, List.flatMap_nil, List.drop_succ_cons, List.drop_zero, List.take_succ_cons, List.take_zero, List.cons_append, List.nil_append, List.append_nil]
    repeat go_big_quiet_step (fail)
    refine wpQuiet_nil ?_
    clear p0 p1 p2 p3
    generalize y1.drew = yd at hW ⊢
    refine two_at 1 5 4 (by kernel_rfl) (by kernel_rfl) ?_ ?_
    · skip
      refine op_call 1 (some 25) 25 #[.slice a0 zs0.length cap0] (by kernel_rfl) (by kernel_rfl) (by kernel_rfl) ?_
      refine (hto0 _ (h0.below (hb0.trans (hW.mono hb0.size)))).mono ?_
      rintro e us0 ⟨xas0, xcs0, rfl, os0, hb⟩
      replace hW := hW.trans (hb.mono hW.size)
      clear hb
      refine ⟨_, rfl, ⟨⟨_, hW⟩, rfl⟩, ?_⟩
      simp only [Act.put, List.getElem_toArray, List.getElem_cons_succ, List.getElem_cons_zero, List.setIfInBounds_toArray, List.set_cons_zero, List.set_cons_succ]
      refine two_at 3 5 3 (by kernel_rfl) (by kernel_rfl) ?_ ?_
      · skip
        refine op_call 3 (some 27) 26 #[.agg #[.int .i64 ti1, .int .i64 ts1, .int .i64 tq1, .slice a1 zs1.length cap1]] (by kernel_rfl) (by kernel_rfl) (by kernel_rfl) ?_
        refine (hto1 _ (h1.below (hb0.trans (hW.mono hb0.size)))).mono ?_
        rintro e us1 ⟨xas1, xcs1, rfl, os1, hb⟩
        replace os0 := os0.below hb
        replace hW := hW.trans (hb.mono hW.size)
        clear hb
        refine ⟨_, rfl, ⟨⟨_, hW⟩, rfl⟩, ?_⟩
        simp only [Act.put, List.getElem_toArray, List.getElem_cons_succ, List.getElem_cons_zero, List.setIfInBounds_toArray, List.set_cons_zero, List.set_cons_succ]
        refine two_at 4 5 2 (by kernel_rfl) (by kernel_rfl) ?_ ?_
        · skip
          refine op_call 4 (some 28) 20 #[.slice xas0 zs0.length xcs0, .agg #[.int .i64 ti1, .int .i64 ts1, .int .i64 tq1, .slice xas1 zs1.length xcs1]] (by kernel_rfl) (by kernel_rfl) (by kernel_rfl) ?_
          refine (hsp _ _ _ _ _ (os0.lies) (nice_own os0.1) (os1.lies)).mono ?_
          rintro e vs ⟨ras, rcs, rbs, rds, rfl, os, hb⟩
          replace os0 := os0.below hb
          replace os1 := os1.below hb
          replace hW := hW.trans (hb.mono hW.size)
          clear hb
          refine ⟨_, rfl, ⟨⟨_, hW⟩, rfl⟩, ?_⟩
          simp only [Act.put, List.getElem_toArray, List.getElem_cons_succ, List.getElem_cons_zero, List.setIfInBounds_toArray, List.set_cons_zero, List.set_cons_succ]
          refine one_at 5 _ 1 (by kernel_rfl) rfl (by kernel_rfl) ?_
          have hbz : Below vs.heap.size vs (vs.alloc (.cells #[.int .i64 0, .int .i64 0, .slice none 0 0, .slice none 0 0] 32)) := by go_grown
          have Bz := Blk.new vs 32 #[.int .i64 0, .int .i64 0, .slice none 0 0, .slice none 0 0]
          have hsz := hW.size
          replace hW := hW.trans (hbz.mono hW.size)
          replace os0 := os0.below hbz
          replace os1 := os1.below hbz
          have hnb : ∀ k, ((Value.slice ras us.length rcs).ownBlock = some k ∨ (Value.slice rbs ys.length rds).ownBlock = some k) → k ≠ vs.heap.size := fun k hk => by
            rcases hk with hk | hk
            · have := os.o1.1.lt k hk; omega
            · have := os.o2.1.lt k hk; omega
          replace os := os.below hbz
          go_wp2
          refine ThenGo.to ⟨⟨⟨_, hW⟩, rfl⟩, ?_⟩
          have hzz : y1.heap.size ≤ vs.heap.size := hsz
          generalize vs.alloc (.cells #[.int .i64 0, .int .i64 0, .slice none 0 0, .slice none 0 0] 32) = Z at hbz Bz hW os0 os1 os ⊢
          clear hbz
          refine one_at 6 _ 0 (by kernel_rfl) rfl (by kernel_rfl) ?_
          have p0 := Bz.cell 0 _ rfl
          have f0 := Bz.frozen 0
          have p1 := Bz.cell 1 _ rfl
          have f1 := Bz.frozen 1
          have p2 := Bz.cell 2 _ rfl
          have f2 := Bz.frozen 2
          have p3 := Bz.cell 3 _ rfl
          have f3 := Bz.frozen 3
          go_wp2
          refine ThenGo.to ⟨⟨⟨_, ((((hW.setCell (p := ⟨vs.heap.size, 0, none⟩) hzz (.int .i64 d)).setCell (p := ⟨vs.heap.size, 1, none⟩) hzz (.int .i64 y)).setCell (p := ⟨vs.heap.size, 2, none⟩) hzz (.slice ras us.length rcs)).setCell (p := ⟨vs.heap.size, 3, none⟩) hzz (.slice rbs ys.length rds))⟩, rfl⟩, ?_⟩
          refine text_end (by kernel_rfl) ?_
          exact ⟨rfl, _, ⟨xas0, xcs0, xas1, xcs1, ras, rcs, rbs, rds, vs.heap.size, _, _, rfl, ((((Bz.set 0 (.int .i64 d)).set 1 (.int .i64 y)).set 2 (.slice ras us.length rcs)).set 3 (.slice rbs ys.length rds)), ((((os.setOther (j := 0) (u := .int .i64 d) hnb).setOther (j := 1) (u := .int .i64 y) hnb).setOther (j := 2) (u := .slice ras us.length rcs) hnb).setOther (j := 3) (u := .slice rbs ys.length rds) hnb), ((((hW.setCell (p := ⟨vs.heap.size, 0, none⟩) hzz (.int .i64 d)).setCell (p := ⟨vs.heap.size, 1, none⟩) hzz (.int .i64 y)).setCell (p := ⟨vs.heap.size, 2, none⟩) hzz (.slice ras us.length rcs)).setCell (p := ⟨vs.heap.size, 3, none⟩) hzz (.slice rbs ys.length rds))⟩, by kernel_rfl⟩
        · skip
          refine op_one 5 _ rfl ?_
          have hbz : Below us1.heap.size us1 (us1.alloc (.cells #[.int .i64 0, .int .i64 0, .slice none 0 0, .slice none 0 0] 32)) := by go_grown
          have Bz := Blk.new us1 32 #[.int .i64 0, .int .i64 0, .slice none 0 0, .slice none 0 0]
          have hsz := hW.size
          replace hW := hW.trans (hbz.mono hW.size)
          replace os0 := os0.below hbz
          replace os1 := os1.below hbz
          go_wp2
          refine ThenGo.to ⟨⟨⟨_, hW⟩, rfl⟩, ?_⟩
          have hzz : y1.heap.size ≤ us1.heap.size := hsz
          generalize us1.alloc (.cells #[.int .i64 0, .int .i64 0, .slice none 0 0, .slice none 0 0] 32) = Z at hbz Bz hW os0 os1 ⊢
          clear hbz
          refine call_at 4 (some 28) 20 #[.slice xas0 zs0.length xcs0, .agg #[.int .i64 ti1, .int .i64 ts1, .int .i64 tq1, .slice xas1 zs1.length xcs1]] 1 (by kernel_rfl) (by kernel_rfl) (by kernel_rfl) (by kernel_rfl) (by kernel_rfl) ?_
          refine (hsp _ _ _ _ _ (os0.lies) (nice_own os0.1) (os1.lies)).mono ?_
          rintro e vs ⟨ras, rcs, rbs, rds, rfl, os, hb⟩
          have hnb : ∀ k, ((Value.slice ras us.length rcs).ownBlock = some k ∨ (Value.slice rbs ys.length rds).ownBlock = some k) → k ≠ us1.heap.size := fun k hk => by
            rcases hk with hk | hk
            · have := (os.o1.1.lt k hk).1; have := Bz.lt; omega
            · have := (os.o2.1.lt k hk).1; have := Bz.lt; omega
          replace os0 := os0.below hb
          replace os1 := os1.below hb
          replace Bz := Bz.below hb
          replace hW := hW.trans (hb.mono hW.size)
          clear hb
          refine ⟨_, rfl, ⟨⟨_, hW⟩, rfl⟩, ?_⟩
          simp only [Act.put, List.getElem_toArray, List.getElem_cons_succ, List.getElem_cons_zero, List.setIfInBounds_toArray, List.set_cons_zero, List.set_cons_succ]
          refine one_at 6 _ 0 (by kernel_rfl) rfl (by kernel_rfl) ?_
          have p0 := Bz.cell 0 _ rfl
          have f0 := Bz.frozen 0
          have p1 := Bz.cell 1 _ rfl
          have f1 := Bz.frozen 1
          have p2 := Bz.cell 2 _ rfl
          have f2 := Bz.frozen 2
          have p3 := Bz.cell 3 _ rfl
          have f3 := Bz.frozen 3
          go_wp2
          refine ThenGo.to ⟨⟨⟨_, ((((hW.setCell (p := ⟨us1.heap.size, 0, none⟩) hzz (.int .i64 d)).setCell (p := ⟨us1.heap.size, 1, none⟩) hzz (.int .i64 y)).setCell (p := ⟨us1.heap.size, 2, none⟩) hzz (.slice ras us.length rcs)).setCell (p := ⟨us1.heap.size, 3, none⟩) hzz (.slice rbs ys.length rds))⟩, rfl⟩, ?_⟩
          refine text_end (by kernel_rfl) ?_
          exact ⟨rfl, _, ⟨xas0, xcs0, xas1, xcs1, ras, rcs, rbs, rds, us1.heap.size, _, _, rfl, ((((Bz.set 0 (.int .i64 d)).set 1 (.int .i64 y)).set 2 (.slice ras us.length rcs)).set 3 (.slice rbs ys.length rds)), ((((os.setOther (j := 0) (u := .int .i64 d) hnb).setOther (j := 1) (u := .int .i64 y) hnb).setOther (j := 2) (u := .slice ras us.length rcs) hnb).setOther (j := 3) (u := .slice rbs ys.length rds) hnb), ((((hW.setCell (p := ⟨us1.heap.size, 0, none⟩) hzz (.int .i64 d)).setCell (p := ⟨us1.heap.size, 1, none⟩) hzz (.int .i64 y)).setCell (p := ⟨us1.heap.size, 2, none⟩) hzz (.slice ras us.length rcs)).setCell (p := ⟨us1.heap.size, 3, none⟩) hzz (.slice rbs ys.length rds))⟩, by kernel_rfl⟩
      · skip
        refine op_one 5 _ rfl ?_
        have hbz : Below us0.heap.size us0 (us0.alloc (.cells #[.int .i64 0, .int .i64 0, .slice none 0 0, .slice none 0 0] 32)) := by go_grown
        have Bz := Blk.new us0 32 #[.int .i64 0, .int .i64 0, .slice none 0 0, .slice none 0 0]
        have hsz := hW.size
        replace hW := hW.trans (hbz.mono hW.size)
        replace os0 := os0.below hbz
        go_wp2
        refine ThenGo.to ⟨⟨⟨_, hW⟩, rfl⟩, ?_⟩
        have hzz : y1.heap.size ≤ us0.heap.size := hsz
        generalize us0.alloc (.cells #[.int .i64 0, .int .i64 0, .slice none 0 0, .slice none 0 0] 32) = Z at hbz Bz hW os0 ⊢
        clear hbz
        refine call_at 3 (some 27) 26 #[.agg #[.int .i64 ti1, .int .i64 ts1, .int .i64 tq1, .slice a1 zs1.length cap1]] 2 (by kernel_rfl) (by kernel_rfl) (by kernel_rfl) (by kernel_rfl) (by kernel_rfl) ?_
        refine (hto1 _ (h1.below (hb0.trans (hW.mono hb0.size)))).mono ?_
        rintro e us1 ⟨xas1, xcs1, rfl, os1, hb⟩
        replace os0 := os0.below hb
        replace Bz := Bz.below hb
        replace hW := hW.trans (hb.mono hW.size)
        clear hb
        refine ⟨_, rfl, ⟨⟨_, hW⟩, rfl⟩, ?_⟩
        simp only [Act.put, List.getElem_toArray, List.getElem_cons_succ, List.getElem_cons_zero, List.setIfInBounds_toArray, List.set_cons_zero, List.set_cons_succ]
        refine call_at 4 (some 28) 20 #[.slice xas0 zs0.length xcs0, .agg #[.int .i64 ti1, .int .i64 ts1, .int .i64 tq1, .slice xas1 zs1.length xcs1]] 1 (by kernel_rfl) (by kernel_rfl) (by kernel_rfl) (by kernel_rfl) (by kernel_rfl) ?_
        refine (hsp _ _ _ _ _ (os0.lies) (nice_own os0.1) (os1.lies)).mono ?_
        rintro e vs ⟨ras, rcs, rbs, rds, rfl, os, hb⟩
        have hnb : ∀ k, ((Value.slice ras us.length rcs).ownBlock = some k ∨ (Value.slice rbs ys.length rds).ownBlock = some k) → k ≠ us0.heap.size := fun k hk => by
          rcases hk with hk | hk
          · have := (os.o1.1.lt k hk).1; have := Bz.lt; omega
          · have := (os.o2.1.lt k hk).1; have := Bz.lt; omega
        replace os0 := os0.below hb
        replace os1 := os1.below hb
        replace Bz := Bz.below hb
        replace hW := hW.trans (hb.mono hW.size)
        clear hb
        refine ⟨_, rfl, ⟨⟨_, hW⟩, rfl⟩, ?_⟩
        simp only [Act.put, List.getElem_toArray, List.getElem_cons_succ, List.getElem_cons_zero, List.setIfInBounds_toArray, List.set_cons_zero, List.set_cons_succ]
        refine one_at 6 _ 0 (by kernel_rfl) rfl (by kernel_rfl) ?_
        have p0 := Bz.cell 0 _ rfl
        have f0 := Bz.frozen 0
        have p1 := Bz.cell 1 _ rfl
        have f1 := Bz.frozen 1
        have p2 := Bz.cell 2 _ rfl
        have f2 := Bz.frozen 2
        have p3 := Bz.cell 3 _ rfl
        have f3 := Bz.frozen 3
        go_wp2
        refine ThenGo.to ⟨⟨⟨_, ((((hW.setCell (p := ⟨us0.heap.size, 0, none⟩) hzz (.int .i64 d)).setCell (p := ⟨us0.heap.size, 1, none⟩) hzz (.int .i64 y)).setCell (p := ⟨us0.heap.size, 2, none⟩) hzz (.slice ras us.length rcs)).setCell (p := ⟨us0.heap.size, 3, none⟩) hzz (.slice rbs ys.length rds))⟩, rfl⟩, ?_⟩
        refine text_end (by kernel_rfl) ?_
        exact ⟨rfl, _, ⟨xas0, xcs0, xas1, xcs1, ras, rcs, rbs, rds, us0.heap.size, _, _, rfl, ((((Bz.set 0 (.int .i64 d)).set 1 (.int .i64 y)).set 2 (.slice ras us.length rcs)).set 3 (.slice rbs ys.length rds)), ((((os.setOther (j := 0) (u := .int .i64 d) hnb).setOther (j := 1) (u := .int .i64 y) hnb).setOther (j := 2) (u := .slice ras us.length rcs) hnb).setOther (j := 3) (u := .slice rbs ys.length rds) hnb), ((((hW.setCell (p := ⟨us0.heap.size, 0, none⟩) hzz (.int .i64 d)).setCell (p := ⟨us0.heap.size, 1, none⟩) hzz (.int .i64 y)).setCell (p := ⟨us0.heap.size, 2, none⟩) hzz (.slice ras us.length rcs)).setCell (p := ⟨us0.heap.size, 3, none⟩) hzz (.slice rbs ys.length rds))⟩, by kernel_rfl⟩
    · skip
      refine op_one 5 _ rfl ?_
      have hbz : Below yd.heap.size yd (yd.alloc (.cells #[.int .i64 0, .int .i64 0, .slice none 0 0, .slice none 0 0] 32)) := by go_grown
      have Bz := Blk.new yd 32 #[.int .i64 0, .int .i64 0, .slice none 0 0, .slice none 0 0]
      have hsz := hW.size
      replace hW := hW.trans (hbz.mono hW.size)
      go_wp2
      refine ThenGo.to ⟨⟨⟨_, hW⟩, rfl⟩, ?_⟩
      have hzz : y1.heap.size ≤ yd.heap.size := hsz
      generalize yd.alloc (.cells #[.int .i64 0, .int .i64 0, .slice none 0 0, .slice none 0 0] 32) = Z at hbz Bz hW ⊢
      clear hbz
      refine call_at 1 (some 25) 25 #[.slice a0 zs0.length cap0] 3 (by kernel_rfl) (by kernel_rfl) (by kernel_rfl) (by kernel_rfl) (by kernel_rfl) ?_
      refine (hto0 _ (h0.below (hb0.trans (hW.mono hb0.size)))).mono ?_
      rintro e us0 ⟨xas0, xcs0, rfl, os0, hb⟩
      replace Bz := Bz.below hb
      replace hW := hW.trans (hb.mono hW.size)
      clear hb
      refine ⟨_, rfl, ⟨⟨_, hW⟩, rfl⟩, ?_⟩
      simp only [Act.put, List.getElem_toArray, List.getElem_cons_succ, List.getElem_cons_zero, List.setIfInBounds_toArray, List.set_cons_zero, List.set_cons_succ]
      refine call_at 3 (some 27) 26 #[.agg #[.int .i64 ti1, .int .i64 ts1, .int .i64 tq1, .slice a1 zs1.length cap1]] 2 (by kernel_rfl) (by kernel_rfl) (by kernel_rfl) (by kernel_rfl) (by kernel_rfl) ?_
      refine (hto1 _ (h1.below (hb0.trans (hW.mono hb0.size)))).mono ?_
      rintro e us1 ⟨xas1, xcs1, rfl, os1, hb⟩
      replace os0 := os0.below hb
      replace Bz := Bz.below hb
      replace hW := hW.trans (hb.mono hW.size)
      clear hb
      refine ⟨_, rfl, ⟨⟨_, hW⟩, rfl⟩, ?_⟩
      simp only [Act.put, List.getElem_toArray, List.getElem_cons_succ, List.getElem_cons_zero, List.setIfInBounds_toArray, List.set_cons_zero, List.set_cons_succ]
      refine call_at 4 (some 28) 20 #[.slice xas0 zs0.length xcs0, .agg #[.int .i64 ti1, .int .i64 ts1, .int .i64 tq1, .slice xas1 zs1.length xcs1]] 1 (by kernel_rfl) (by kernel_rfl) (by kernel_rfl) (by kernel_rfl) (by kernel_rfl) ?_
      refine (hsp _ _ _ _ _ (os0.lies) (nice_own os0.1) (os1.lies)).mono ?_
      rintro e vs ⟨ras, rcs, rbs, rds, rfl, os, hb⟩
      have hnb : ∀ k, ((Value.slice ras us.length rcs).ownBlock = some k ∨ (Value.slice rbs ys.length rds).ownBlock = some k) → k ≠ yd.heap.size := fun k hk => by
        rcases hk with hk | hk
        · have := (os.o1.1.lt k hk).1; have := Bz.lt; omega
        · have := (os.o2.1.lt k hk).1; have := Bz.lt; omega
      replace os0 := os0.below hb
      replace os1 := os1.below hb
      replace Bz := Bz.below hb
      replace hW := hW.trans (hb.mono hW.size)
      clear hb
      refine ⟨_, rfl, ⟨⟨_, hW⟩, rfl⟩, ?_⟩
      simp only [Act.put, List.getElem_toArray, List.getElem_cons_succ, List.getElem_cons_zero, List.setIfInBounds_toArray, List.set_cons_zero, List.set_cons_succ]
      refine one_at 6 _ 0 (by kernel_rfl) rfl (by kernel_rfl) ?_
      have p0 := Bz.cell 0 _ rfl
      have f0 := Bz.frozen 0
      have p1 := Bz.cell 1 _ rfl
      have f1 := Bz.frozen 1
      have p2 := Bz.cell 2 _ rfl
      have f2 := Bz.frozen 2
      have p3 := Bz.cell 3 _ rfl
      have f3 := Bz.frozen 3
      go_wp2
      refine ThenGo.to ⟨⟨⟨_, ((((hW.setCell (p := ⟨yd.heap.size, 0, none⟩) hzz (.int .i64 d)).setCell (p := ⟨yd.heap.size, 1, none⟩) hzz (.int .i64 y)).setCell (p := ⟨yd.heap.size, 2, none⟩) hzz (.slice ras us.length rcs)).setCell (p := ⟨yd.heap.size, 3, none⟩) hzz (.slice rbs ys.length rds))⟩, rfl⟩, ?_⟩
      refine text_end (by kernel_rfl) ?_
      exact ⟨rfl, _, ⟨xas0, xcs0, xas1, xcs1, ras, rcs, rbs, rds, yd.heap.size, _, _, rfl, ((((Bz.set 0 (.int .i64 d)).set 1 (.int .i64 y)).set 2 (.slice ras us.length rcs)).set 3 (.slice rbs ys.length rds)), ((((os.setOther (j := 0) (u := .int .i64 d) hnb).setOther (j := 1) (u := .int .i64 y) hnb).setOther (j := 2) (u := .slice ras us.length rcs) hnb).setOther (j := 3) (u := .slice rbs ys.length rds) hnb), ((((hW.setCell (p := ⟨yd.heap.size, 0, none⟩) hzz (.int .i64 d)).setCell (p := ⟨yd.heap.size, 1, none⟩) hzz (.int .i64 y)).setCell (p := ⟨yd.heap.size, 2, none⟩) hzz (.slice ras us.length rcs)).setCell (p := ⟨yd.heap.size, 3, none⟩) hzz (.slice rbs ys.length rds))⟩, by kernel_rfl⟩
  rintro vs W ⟨xas0, xcs0, xas1, xcs1, ras, rcs, rbs, rds, bxs, los, his, rfl, Bw, os, hW⟩
  simp only [putAll, Act.put, List.setIfInBounds_toArray, List.set_cons_zero, List.set_cons_succ]
  replace B1 := B1.below hW
  replace hb0 := hb0.trans (hW.mono hb0.size)
  clear hW
  go_wp2_with fail
  replace h0 := h0.below hb0
  replace h1 := h1.below hb0
  have b2 : Below W.heap.size W W := Below.refl _ _
  refine (hto0 _ (h0.below b2)).mono ?_
  rintro e ux0 ⟨xax0, xcx0, rfl, ox0, hb⟩
  have hzx0 := hb.size
  replace b2 := b2.trans (hb.mono b2.size)
  clear hb
  have p0 := (B1.below b2).cell 0 _ rfl
  have p1 := (B1.below b2).cell 1 _ rfl
  have p2 := (B1.below b2).cell 2 _ rfl
  have p3 := (B1.below b2).cell 3 _ rfl
  go_wp2_with fail
  clear p0 p1 p2 p3
  refine (hto1 _ (h1.below b2)).mono ?_
  rintro e ux1 ⟨xax1, xcx1, rfl, ox1, hb⟩
  have hzx1 := hb.size
  replace b2 := b2.trans (hb.mono b2.size)
  replace ox0 := ox0.below hb
  clear hb
  have hb : Below ux1.heap.size ux1 (ux1.alloc (.cells #[.int .i64 ti1, .int .i64 ts1, .int .i64 tq1, .slice xax1 zs1.length xcx1] 27)) := by go_grown
  have Bx1 := Blk.new ux1 27 #[.int .i64 ti1, .int .i64 ts1, .int .i64 tq1, .slice xax1 zs1.length xcx1]
  have hqBx1 : ux1.heap.size ≤ (ux1.alloc (.cells #[.int .i64 ti1, .int .i64 ts1, .int .i64 tq1, .slice xax1 zs1.length xcx1] 27)).heap.size := hb.size
  have hq1Bx1 : ux1.heap.size + 1 ≤ (ux1.alloc (.cells #[.int .i64 ti1, .int .i64 ts1, .int .i64 tq1, .slice xax1 zs1.length xcx1] 27)).heap.size := by simp
  replace ox0 := ox0.below hb
  replace ox1 := ox1.below hb
  go_wp2_with fail
  generalize ux1.alloc (.cells #[.int .i64 ti1, .int .i64 ts1, .int .i64 tq1, .slice xax1 zs1.length xcx1] 27) = X1 at hb ox0 ox1 Bx1 hqBx1 hq1Bx1
  replace b2 := b2.trans (hb.mono b2.size)
  clear hb
  refine (him _ _ _ _ _ (ox0.lies) (ox1.lies)).mono ?_
  rintro e vg ⟨rag, rcg, rbg, rdg, rfl, og, hb⟩
  have hzg := hb.size
  replace b2 := b2.trans (hb.mono b2.size)
  replace ox0 := ox0.below hb
  replace ox1 := ox1.below hb
  replace Bx1 := Bx1.below hb
  clear hb
  have hb : Below vg.heap.size vg (vg.alloc (.cells #[.int .i64 d, .int .i64 y, .slice rag us.length rcg, .slice rbg ys.length rdg] 32)) := by go_grown
  have Bg := Blk.new vg 32 #[.int .i64 d, .int .i64 y, .slice rag us.length rcg, .slice rbg ys.length rdg]
  have hqg : vg.heap.size ≤ (vg.alloc (.cells #[.int .i64 d, .int .i64 y, .slice rag us.length rcg, .slice rbg ys.length rdg] 32)).heap.size := hb.size
  replace ox0 := ox0.below hb
  replace ox1 := ox1.below hb
  replace Bx1 := Bx1.below hb
  replace og := og.below hb
  have Bw0 := Bw.below (b2.trans (hb.mono b2.size))
  have q0 := Bw0.cell 0 _ rfl
  have q1 := Bw0.cell 1 _ rfl
  have q2 := Bw0.cell 2 _ rfl
  have q3 := Bw0.cell 3 _ rfl
  go_wp2_with fail
  clear q0 q1 q2 q3
  generalize vg.alloc (.cells #[.int .i64 d, .int .i64 y, .slice rag us.length rcg, .slice rbg ys.length rdg] 32) = G at hb ox0 ox1 Bx1 og Bg Bw0 hqg
  replace b2 := b2.trans (hb.mono b2.size)
  clear hb Bw0
  refine (heg _ _ _ _ _ _ _ _ _ (og).row ((os.below b2)).row).mono ?_
  rintro e G1 ⟨rfl, hb⟩
  replace b2 := b2.trans (hb.mono b2.size)
  replace ox0 := ox0.below hb
  replace ox1 := ox1.below hb
  replace Bx1 := Bx1.below hb
  replace og := og.below hb
  replace Bg := Bg.below hb
  clear hb
  go_wp2_with fail
  refine (hto0 _ (h0.below b2)).mono ?_
  rintro e ue0 ⟨xae0, xce0, rfl, oe0, hb⟩
  replace b2 := b2.trans (hb.mono b2.size)
  replace ox0 := ox0.below hb
  replace ox1 := ox1.below hb
  replace Bx1 := Bx1.below hb
  replace og := og.below hb
  replace Bg := Bg.below hb
  clear hb
  go_wp2_with fail
  refine (eqItemS_true _ _ _ _ zs0 _ ox0.lies oe0.lies (by omega)).mono ?_
  rintro e ze0 ⟨rfl, hb⟩
  replace b2 := b2.trans (hb.mono b2.size)
  replace ox0 := ox0.below hb
  replace ox1 := ox1.below hb
  replace Bx1 := Bx1.below hb
  replace og := og.below hb
  replace Bg := Bg.below hb
  clear hb oe0
  go_wp2_with fail
  have B1' := B1.below b2
  have hR' := h1.below b2
  have hW : Below ze0.heap.size ze0 ze0.drew := (Below.refl _ _).drew
  have hne : Nonempty (Lat ze0) := ⟨⟨ze0, Below.refl _ _⟩⟩
  have p0 := B1'.lat 0 _ rfl
  have q0 := Bx1.lat 0 _ rfl
  have p1 := B1'.lat 1 _ rfl
  have q1 := Bx1.lat 1 _ rfl
  have p2 := B1'.lat 2 _ rfl
  have q2 := Bx1.lat 2 _ rfl
  have p3 := B1'.lat 3 _ rfl
  have q3 := Bx1.lat 3 _ rfl
  refine text_begin (S := fun w' => ∃ u : Lat ze0, w' = u.val) (by kernel_rfl) ?_
  refine seg_range [(0, 2)] 3 (by kernel_rfl) (by kernel_rfl) (by kernel_rfl) (by kernel_rfl) (by kernel_rfl) ⟨⟨_, hW⟩, rfl⟩ ?_
  simp only [pickR, List.toList_toArray, List.flatMap_cons, List.flatMap_nil, List.drop_succ_cons, List.drop_zero, List.take_succ_cons, List.take_zero, List.cons_append, List.nil_append, List.append_nil]
  repeat go_big_quiet_step (fail)
  refine wpQuiet_nil ?_
  refine call_at 2 (some 47) 26 #[.agg #[.int .i64 ti1, .int .i64 ts1, .int .i64 tq1, .slice a1 zs1.length cap1]] 2 (by kernel_rfl) (by kernel_rfl) (by kernel_rfl) (by kernel_rfl) (by kernel_rfl) ?_
  refine (hto1 _ (hR'.below hW)).mono ?_
  rintro e ue1 ⟨xae1, xce1, rfl, oe1, hb⟩
  replace hW := hW.trans (hb.mono hW.size)
  clear hb
  refine ⟨_, rfl, ⟨⟨_, hW⟩, rfl⟩, ?_⟩
  simp only [Act.put, List.getElem_toArray, List.getElem_cons_succ, List.getElem_cons_zero, List.setIfInBounds_toArray, List.set_cons_zero, List.set_cons_succ]
  refine call_at 3 (some 48) 29 #[.agg #[.int .i64 ti1, .int .i64 ts1, .int .i64 tq1, .slice xax1 zs1.length xcx1], .agg #[.int .i64 ti1, .int .i64 ts1, .int .i64 tq1, .slice xae1 zs1.length xce1]] 1 (by kernel_rfl) (by kernel_rfl) (by kernel_rfl) (by kernel_rfl) (by kernel_rfl) ?_
  refine (eqTxn_true ti1 ts1 tq1 _ _ _ _ zs1 _ (ox1.below hW).lies oe1.lies (by omega)).mono ?_
  rintro e ze1 ⟨rfl, hb⟩
  replace hW := hW.trans (hb.mono hW.size)
  clear hb oe1
  refine ⟨_, rfl, ⟨⟨_, hW⟩, rfl⟩, ?_⟩
  simp only [Act.put, List.getElem_toArray, List.getElem_cons_succ, List.getElem_cons_zero, List.setIfInBounds_toArray, List.set_cons_zero, List.set_cons_succ]
  refine seg_range [(4, 1)] 0 (by kernel_rfl) (by kernel_rfl) (by kernel_rfl) (by kernel_rfl) (by kernel_rfl) ⟨⟨_, hW⟩, rfl⟩ ?_
  simp only [pickR, List.toList_toArray, List.flatMap_cons, List.flatMap_nil, List.drop_succ_cons, List.drop_zero, List.take_succ_cons, List.take_zero, List.cons_append, List.nil_append, List.append_nil]
  repeat go_big_quiet_step (fail)
  refine wpQuiet_nil ?_
  refine text_end (by kernel_rfl) ?_
  clear p0 q0 p1 q1 p2 q2 p3 q3 hne hR' B1'
  replace b2 := b2.trans (hW.mono b2.size)
  replace ox0 := ox0.below hW
  replace ox1 := ox1.below hW
  replace Bx1 := Bx1.below hW
  replace og := og.below hW
  replace Bg := Bg.below hW
  clear hW
  go_wp2_with fail
  refine (markItems_u _ _ _ _ _ 1 _ ox0 (by omega) (by omega) (by omega)).mono ?_
  rintro e k0 ⟨m0, rfl, hm0', ho⟩
  clear ox0
  replace b2 := below_only b2 ho (by omega) (by have := b2.size; omega)
  replace ox1 := ox1.only ho (by omega)
  replace Bx1 := blk_only Bx1 ho (by omega)
  replace og := og.only ho (by omega)
  replace Bg := blk_only Bg ho (by omega)
  clear ho
  have p0 := Bx1.cell 0 _ rfl
  have p1 := Bx1.cell 1 _ rfl
  have p2 := Bx1.cell 2 _ rfl
  have p3 := Bx1.cell 3 _ rfl
  go_wp2_with fail
  clear p0 p1 p2 p3
  refine (markTxn_u ti1 ts1 tq1 _ _ _ _ _ m0 _ ox1 (by omega) (by omega) (by omega)).mono ?_
  rintro e k1 ⟨m1, rfl, hm1', ho⟩
  clear ox1
  clear Bx1
  replace b2 := below_only b2 ho (by omega) (by have := b2.size; omega)
  replace og := og.only ho (by omega)
  replace Bg := blk_only Bg ho (by omega)
  clear ho
  have hmn : ¬ m1 < 0 := by omega
  have Bw0 := Bw.below b2
  have q0 := Bw0.cell 0 _ rfl
  have p0 := Bg.cell 0 _ rfl
  have q1 := Bw0.cell 1 _ rfl
  have p1 := Bg.cell 1 _ rfl
  have q2 := Bw0.cell 2 _ rfl
  have p2 := Bg.cell 2 _ rfl
  have q3 := Bw0.cell 3 _ rfl
  have p3 := Bg.cell 3 _ rfl
  go_wp2_with fail
  clear Bw0 q0 p0 q1 p1 q2 p2 q3 p3
  refine (heg _ _ _ _ _ _ _ _ _ (og).row ((os.below b2)).row).mono ?_
  rintro e G2 ⟨rfl, hb⟩
  replace b2 := b2.trans (hb.mono b2.size)
  replace og := og.below hb
  replace Bg := Bg.below hb
  clear hb
  have p0 := Bg.cell 0 _ rfl
  have p1 := Bg.cell 1 _ rfl
  have p2 := Bg.cell 2 _ rfl
  have p3 := Bg.cell 3 _ rfl
  go_wp2_with fail
  clear p0 p1 p2 p3
  refine (hmk _ _ _ _ _ _ _ og).mono ?_
  rintro e G3 ⟨rfl, og', ho⟩
  replace b2 := below_only b2 ho (by omega) (by have := b2.size; omega)
  replace Bg := blk_only Bg ho (by omega)
  clear og ho
  have p0 := Bg.cell 0 _ rfl
  have p1 := Bg.cell 1 _ rfl
  have p2 := Bg.cell 2 _ rfl
  have p3 := Bg.cell 3 _ rfl
  go_wp2_with fail
  clear p0 p1 p2 p3
  refine (hhd _ _ _ _ _ og').mono ?_
  rintro e G4 ⟨rfl, hb⟩
  replace b2 := b2.trans (hb.mono b2.size)
  replace Bg := Bg.below hb
  replace og' := og'.below hb
  clear hb
  have B1h := B1.below b2
  go_wp2_with fail
  refine region_vals [some 75, some 76, some 77, some 78, some 79, some 13] (fun vs w' => ∃ (xah0 : Option Addr) (xch0 : Nat) (xah1 : Option Addr) (xch1 : Nat) (rah : Option Addr) (rch : Nat) (rbh : Option Addr) (rdh : Nat) (bxh loh hih : Nat), vs = [.slice a0 zs0.length cap0, .slice xah0 zs0.length xch0, .agg #[.int .i64 ti1, .int .i64 ts1, .int .i64 tq1, .slice a1 zs1.length cap1], .agg #[.int .i64 ti1, .int .i64 ts1, .int .i64 tq1, .slice xah1 zs1.length xch1], .agg #[.int .i64 d, .int .i64 y, .slice rah us.length rch, .slice rbh ys.length rdh], .pointer (some ⟨bxh, 0, none⟩)] ∧ Blk w' bxh 32 #[.int .i64 d, .int .i64 y, .slice rah us.length rch, .slice rbh ys.length rdh] ∧ OwnU loh hih w' (.slice rah us.length rch) (.slice rbh ys.length rdh) us ys ∧ Below G4.heap.size G4 w') ?_ ?_
  · skip
    have hW : Below G4.heap.size G4 G4.drew := (Below.refl _ _).drew
    have hne : Nonempty (Lat G4) := ⟨⟨G4, Below.refl _ _⟩⟩
    have p0 := B1h.lat 0 _ rfl
    have p1 := B1h.lat 1 _ rfl
    have p2 := B1h.lat 2 _ rfl
    have p3 := B1h.lat 3 _ rfl
    refine text_begin (S := fun w' => ∃ u : Lat G4, w' = u.val) (by kernel_rfl) ?_
    refine seg_range [(0, 1), (2, 1)] 5 (by kernel_rfl) (by kernel_rfl) (by kernel_rfl) (by kernel_rfl) (by kernel_rfl) ⟨⟨_, hW⟩, rfl⟩ ?_
    simp only [pickR, List.toList_toArray, List.flatMap_cons, List.flatMap_nil, List.drop_succ_cons, List.drop_zero, List.take_succ_cons, List.take_zero, List.cons_append, List.nil_append, List.append_nil]
    repeat go_big_quiet_step (fail)
    refine wpQuiet_nil ?_
    clear p0 p1 p2 p3
    generalize G4.drew = yd at hW ⊢
    refine two_at 1 5 4 (by kernel_rfl) (by kernel_rfl) ?_ ?_
    · skip
      refine op_call 1 (some 76) 25 #[.slice a0 zs0.length cap0] (by kernel_rfl) (by kernel_rfl) (by kernel_rfl) ?_
      refine (hto0 _ (h0.below (b2.trans (hW.mono b2.size)))).mono ?_
      rintro e uh0 ⟨xah0, xch0, rfl, oh0, hb⟩
      replace hW := hW.trans (hb.mono hW.size)
      clear hb
      refine ⟨_, rfl, ⟨⟨_, hW⟩, rfl⟩, ?_⟩
      simp only [Act.put, List.getElem_toArray, List.getElem_cons_succ, List.getElem_cons_zero, List.setIfInBounds_toArray, List.set_cons_zero, List.set_cons_succ]
      refine two_at 3 5 3 (by kernel_rfl) (by kernel_rfl) ?_ ?_
      · skip
        refine op_call 3 (some 78) 26 #[.agg #[.int .i64 ti1, .int .i64 ts1, .int .i64 tq1, .slice a1 zs1.length cap1]] (by kernel_rfl) (by kernel_rfl) (by kernel_rfl) ?_
        refine (hto1 _ (h1.below (b2.trans (hW.mono b2.size)))).mono ?_
        rintro e uh1 ⟨xah1, xch1, rfl, oh1, hb⟩
        replace oh0 := oh0.below hb
        replace hW := hW.trans (hb.mono hW.size)
        clear hb
        refine ⟨_, rfl, ⟨⟨_, hW⟩, rfl⟩, ?_⟩
        simp only [Act.put, List.getElem_toArray, List.getElem_cons_succ, List.getElem_cons_zero, List.setIfInBounds_toArray, List.set_cons_zero, List.set_cons_succ]
        refine two_at 4 5 2 (by kernel_rfl) (by kernel_rfl) ?_ ?_
        · skip
          refine op_call 4 (some 79) 10 #[.slice xah0 zs0.length xch0, .agg #[.int .i64 ti1, .int .i64 ts1, .int .i64 tq1, .slice xah1 zs1.length xch1]] (by kernel_rfl) (by kernel_rfl) (by kernel_rfl) ?_
          refine (him _ _ _ _ _ (oh0.lies) (oh1.lies)).mono ?_
          rintro e vh ⟨rah, rch, rbh, rdh, rfl, oh, hb⟩
          replace oh0 := oh0.below hb
          replace oh1 := oh1.below hb
          replace hW := hW.trans (hb.mono hW.size)
          clear hb
          refine ⟨_, rfl, ⟨⟨_, hW⟩, rfl⟩, ?_⟩
          simp only [Act.put, List.getElem_toArray, List.getElem_cons_succ, List.getElem_cons_zero, List.setIfInBounds_toArray, List.set_cons_zero, List.set_cons_succ]
          refine one_at 5 _ 1 (by kernel_rfl) rfl (by kernel_rfl) ?_
          have hbz : Below vh.heap.size vh (vh.alloc (.cells #[.int .i64 0, .int .i64 0, .slice none 0 0, .slice none 0 0] 32)) := by go_grown
          have Bz := Blk.new vh 32 #[.int .i64 0, .int .i64 0, .slice none 0 0, .slice none 0 0]
          have hsz := hW.size
          replace hW := hW.trans (hbz.mono hW.size)
          replace oh0 := oh0.below hbz
          replace oh1 := oh1.below hbz
          have hnb : ∀ k, ((Value.slice rah us.length rch).ownBlock = some k ∨ (Value.slice rbh ys.length rdh).ownBlock = some k) → k ≠ vh.heap.size := fun k hk => by
            rcases hk with hk | hk
            · have := oh.o1.1.lt k hk; omega
            · have := oh.o2.1.lt k hk; omega
          replace oh := oh.below hbz
          go_wp2
          refine ThenGo.to ⟨⟨⟨_, hW⟩, rfl⟩, ?_⟩
          have hzz : G4.heap.size ≤ vh.heap.size := hsz
          generalize vh.alloc (.cells #[.int .i64 0, .int .i64 0, .slice none 0 0, .slice none 0 0] 32) = Z at hbz Bz hW oh0 oh1 oh ⊢
          clear hbz
          refine one_at 6 _ 0 (by kernel_rfl) rfl (by kernel_rfl) ?_
          have p0 := Bz.cell 0 _ rfl
          have f0 := Bz.frozen 0
          have p1 := Bz.cell 1 _ rfl
          have f1 := Bz.frozen 1
          have p2 := Bz.cell 2 _ rfl
          have f2 := Bz.frozen 2
          have p3 := Bz.cell 3 _ rfl
          have f3 := Bz.frozen 3
          go_wp2
          refine ThenGo.to ⟨⟨⟨_, ((((hW.setCell (p := ⟨vh.heap.size, 0, none⟩) hzz (.int .i64 d)).setCell (p := ⟨vh.heap.size, 1, none⟩) hzz (.int .i64 y)).setCell (p := ⟨vh.heap.size, 2, none⟩) hzz (.slice rah us.length rch)).setCell (p := ⟨vh.heap.size, 3, none⟩) hzz (.slice rbh ys.length rdh))⟩, rfl⟩, ?_⟩
          refine text_end (by kernel_rfl) ?_
          exact ⟨rfl, _, ⟨xah0, xch0, xah1, xch1, rah, rch, rbh, rdh, vh.heap.size, _, _, rfl, ((((Bz.set 0 (.int .i64 d)).set 1 (.int .i64 y)).set 2 (.slice rah us.length rch)).set 3 (.slice rbh ys.length rdh)), ((((oh.setOther (j := 0) (u := .int .i64 d) hnb).setOther (j := 1) (u := .int .i64 y) hnb).setOther (j := 2) (u := .slice rah us.length rch) hnb).setOther (j := 3) (u := .slice rbh ys.length rdh) hnb), ((((hW.setCell (p := ⟨vh.heap.size, 0, none⟩) hzz (.int .i64 d)).setCell (p := ⟨vh.heap.size, 1, none⟩) hzz (.int .i64 y)).setCell (p := ⟨vh.heap.size, 2, none⟩) hzz (.slice rah us.length rch)).setCell (p := ⟨vh.heap.size, 3, none⟩) hzz (.slice rbh ys.length rdh))⟩, by kernel_rfl⟩
        · skip
          refine op_one 5 _ rfl ?_
          have hbz : Below uh1.heap.size uh1 (uh1.alloc (.cells #[.int .i64 0, .int .i64 0, .slice none 0 0, .slice none 0 0] 32)) := by go_grown
          have Bz := Blk.new uh1 32 #[.int .i64 0, .int .i64 0, .slice none 0 0, .slice none 0 0]
          have hsz := hW.size
          replace hW := hW.trans (hbz.mono hW.size)
          replace oh0 := oh0.below hbz
          replace oh1 := oh1.below hbz
          go_wp2
          refine ThenGo.to ⟨⟨⟨_, hW⟩, rfl⟩, ?_⟩
          have hzz : G4.heap.size ≤ uh1.heap.size := hsz
          generalize uh1.alloc (.cells #[.int .i64 0, .int .i64 0, .slice none 0 0, .slice none 0 0] 32) = Z at hbz Bz hW oh0 oh1 ⊢
          clear hbz
          refine call_at 4 (some 79) 10 #[.slice xah0 zs0.length xch0, .agg #[.int .i64 ti1, .int .i64 ts1, .int .i64 tq1, .slice xah1 zs1.length xch1]] 1 (by kernel_rfl) (by kernel_rfl) (by kernel_rfl) (by kernel_rfl) (by kernel_rfl) ?_
          refine (him _ _ _ _ _ (oh0.lies) (oh1.lies)).mono ?_
          rintro e vh ⟨rah, rch, rbh, rdh, rfl, oh, hb⟩
          have hnb : ∀ k, ((Value.slice rah us.length rch).ownBlock = some k ∨ (Value.slice rbh ys.length rdh).ownBlock = some k) → k ≠ uh1.heap.size := fun k hk => by
            rcases hk with hk | hk
            · have := (oh.o1.1.lt k hk).1; have := Bz.lt; omega
            · have := (oh.o2.1.lt k hk).1; have := Bz.lt; omega
          replace oh0 := oh0.below hb
          replace oh1 := oh1.below hb
          replace Bz := Bz.below hb
          replace hW := hW.trans (hb.mono hW.size)
          clear hb
          refine ⟨_, rfl, ⟨⟨_, hW⟩, rfl⟩, ?_⟩
          simp only [Act.put, List.getElem_toArray, List.getElem_cons_succ, List.getElem_cons_zero, List.setIfInBounds_toArray, List.set_cons_zero, List.set_cons_succ]
          refine one_at 6 _ 0 (by kernel_rfl) rfl (by kernel_rfl) ?_
          have p0 := Bz.cell 0 _ rfl
          have f0 := Bz.frozen 0
          have p1 := Bz.cell 1 _ rfl
          have f1 := Bz.frozen 1
          have p2 := Bz.cell 2 _ rfl
          have f2 := Bz.frozen 2
          have p3 := Bz.cell 3 _ rfl
          have f3 := Bz.frozen 3
          go_wp2
          refine ThenGo.to ⟨⟨⟨_, ((((hW.setCell (p := ⟨uh1.heap.size, 0, none⟩) hzz (.int .i64 d)).setCell (p := ⟨uh1.heap.size, 1, none⟩) hzz (.int .i64 y)).setCell (p := ⟨uh1.heap.size, 2, none⟩) hzz (.slice rah us.length rch)).setCell (p := ⟨uh1.heap.size, 3, none⟩) hzz (.slice rbh ys.length rdh))⟩, rfl⟩, ?_⟩
          refine text_end (by kernel_rfl) ?_
          exact ⟨rfl, _, ⟨xah0, xch0, xah1, xch1, rah, rch, rbh, rdh, uh1.heap.size, _, _, rfl, ((((Bz.set 0 (.int .i64 d)).set 1 (.int .i64 y)).set 2 (.slice rah us.length rch)).set 3 (.slice rbh ys.length rdh)), ((((oh.setOther (j := 0) (u := .int .i64 d) hnb).setOther (j := 1) (u := .int .i64 y) hnb).setOther (j := 2) (u := .slice rah us.length rch) hnb).setOther (j := 3) (u := .slice rbh ys.length rdh) hnb), ((((hW.setCell (p := ⟨uh1.heap.size, 0, none⟩) hzz (.int .i64 d)).setCell (p := ⟨uh1.heap.size, 1, none⟩) hzz (.int .i64 y)).setCell (p := ⟨uh1.heap.size, 2, none⟩) hzz (.slice rah us.length rch)).setCell (p := ⟨uh1.heap.size, 3, none⟩) hzz (.slice rbh ys.length rdh))⟩, by kernel_rfl⟩
      · skip
        refine op_one 5 _ rfl ?_
        have hbz : Below uh0.heap.size uh0 (uh0.alloc (.cells #[.int .i64 0, .int .i64 0, .slice none 0 0, .slice none 0 0] 32)) := by go_grown
        have Bz := Blk.new uh0 32 #[.int .i64 0, .int .i64 0, .slice none 0 0, .slice none 0 0]
        have hsz := hW.size
        replace hW := hW.trans (hbz.mono hW.size)
        replace oh0 := oh0.below hbz
        go_wp2
        refine ThenGo.to ⟨⟨⟨_, hW⟩, rfl⟩, ?_⟩
        have hzz : G4.heap.size ≤ uh0.heap.size := hsz
        generalize uh0.alloc (.cells #[.int .i64 0, .int .i64 0, .slice none 0 0, .slice none 0 0] 32) = Z at hbz Bz hW oh0 ⊢
        clear hbz
        refine call_at 3 (some 78) 26 #[.agg #[.int .i64 ti1, .int .i64 ts1, .int .i64 tq1, .slice a1 zs1.length cap1]] 2 (by kernel_rfl) (by kernel_rfl) (by kernel_rfl) (by kernel_rfl) (by kernel_rfl) ?_
        refine (hto1 _ (h1.below (b2.trans (hW.mono b2.size)))).mono ?_
        rintro e uh1 ⟨xah1, xch1, rfl, oh1, hb⟩
        replace oh0 := oh0.below hb
        replace Bz := Bz.below hb
        replace hW := hW.trans (hb.mono hW.size)
        clear hb
        refine ⟨_, rfl, ⟨⟨_, hW⟩, rfl⟩, ?_⟩
        simp only [Act.put, List.getElem_toArray, List.getElem_cons_succ, List.getElem_cons_zero, List.setIfInBounds_toArray, List.set_cons_zero, List.set_cons_succ]
        refine call_at 4 (some 79) 10 #[.slice xah0 zs0.length xch0, .agg #[.int .i64 ti1, .int .i64 ts1, .int .i64 tq1, .slice xah1 zs1.length xch1]] 1 (by kernel_rfl) (by kernel_rfl) (by kernel_rfl) (by kernel_rfl) (by kernel_rfl) ?_
        refine (him _ _ _ _ _ (oh0.lies) (oh1.lies)).mono ?_
        rintro e vh ⟨rah, rch, rbh, rdh, rfl, oh, hb⟩
        have hnb : ∀ k, ((Value.slice rah us.length rch).ownBlock = some k ∨ (Value.slice rbh ys.length rdh).ownBlock = some k) → k ≠ uh0.heap.size := fun k hk => by
          rcases hk with hk | hk
          · have := (oh.o1.1.lt k hk).1; have := Bz.lt; omega
          · have := (oh.o2.1.lt k hk).1; have := Bz.lt; omega
        replace oh0 := oh0.below hb
        replace oh1 := oh1.below hb
        replace Bz := Bz.below hb
        replace hW := hW.trans (hb.mono hW.size)
        clear hb
        refine ⟨_, rfl, ⟨⟨_, hW⟩, rfl⟩, ?_⟩
        simp only [Act.put, List.getElem_toArray, List.getElem_cons_succ, List.getElem_cons_zero, List.setIfInBounds_toArray, List.set_cons_zero, List.set_cons_succ]
        refine one_at 6 _ 0 (by kernel_rfl) rfl (by kernel_rfl) ?_
        have p0 := Bz.cell 0 _ rfl
        have f0 := Bz.frozen 0
        have p1 := Bz.cell 1 _ rfl
        have f1 := Bz.frozen 1
        have p2 := Bz.cell 2 _ rfl
        have f2 := Bz.frozen 2
        have p3 := Bz.cell 3 _ rfl
        have f3 := Bz.frozen 3
        go_wp2
        refine ThenGo.to ⟨⟨⟨_, ((((hW.setCell (p := ⟨uh0.heap.size, 0, none⟩) hzz (.int .i64 d)).setCell (p := ⟨uh0.heap.size, 1, none⟩) hzz (.int .i64 y)).setCell (p := ⟨uh0.heap.size, 2, none⟩) hzz (.slice rah us.length rch)).setCell (p := ⟨uh0.heap.size, 3, none⟩) hzz (.slice rbh ys.length rdh))⟩, rfl⟩, ?_⟩
        refine text_end (by kernel_rfl) ?_
        exact ⟨rfl, _, ⟨xah0, xch0, xah1, xch1, rah, rch, rbh, rdh, uh0.heap.size, _, _, rfl, ((((Bz.set 0 (.int .i64 d)).set 1 (.int .i64 y)).set 2 (.slice rah us.length rch)).set 3 (.slice rbh ys.length rdh)), ((((oh.setOther (j := 0) (u := .int .i64 d) hnb).setOther (j := 1) (u := .int .i64 y) hnb).setOther (j := 2) (u := .slice rah us.length rch) hnb).setOther (j := 3) (u := .slice rbh ys.length rdh) hnb), ((((hW.setCell (p := ⟨uh0.heap.size, 0, none⟩) hzz (.int .i64 d)).setCell (p := ⟨uh0.heap.size, 1, none⟩) hzz (.int .i64 y)).setCell (p := ⟨uh0.heap.size, 2, none⟩) hzz (.slice rah us.length rch)).setCell (p := ⟨uh0.heap.size, 3, none⟩) hzz (.slice rbh ys.length rdh))⟩, by kernel_rfl⟩
    · skip
      refine op_one 5 _ rfl ?_
      have hbz : Below yd.heap.size yd (yd.alloc (.cells #[.int .i64 0, .int .i64 0, .slice none 0 0, .slice none 0 0] 32)) := by go_grown
      have Bz := Blk.new yd 32 #[.int .i64 0, .int .i64 0, .slice none 0 0, .slice none 0 0]
      have hsz := hW.size
      replace hW := hW.trans (hbz.mono hW.size)
      go_wp2
      refine ThenGo.to ⟨⟨⟨_, hW⟩, rfl⟩, ?_⟩
      have hzz : G4.heap.size ≤ yd.heap.size := hsz
      generalize yd.alloc (.cells #[.int .i64 0, .int .i64 0, .slice none 0 0, .slice none 0 0] 32) = Z at hbz Bz hW ⊢
      clear hbz
      refine call_at 1 (some 76) 25 #[.slice a0 zs0.length cap0] 3 (by kernel_rfl) (by kernel_rfl) (by kernel_rfl) (by kernel_rfl) (by kernel_rfl) ?_
      refine (hto0 _ (h0.below (b2.trans (hW.mono b2.size)))).mono ?_
      rintro e uh0 ⟨xah0, xch0, rfl, oh0, hb⟩
      replace Bz := Bz.below hb
      replace hW := hW.trans (hb.mono hW.size)
      clear hb
      refine ⟨_, rfl, ⟨⟨_, hW⟩, rfl⟩, ?_⟩
      simp only [Act.put, List.getElem_toArray, List.getElem_cons_succ, List.getElem_cons_zero, List.setIfInBounds_toArray, List.set_cons_zero, List.set_cons_succ]
      refine call_at 3 (some 78) 26 #[.agg #[.int .i64 ti1, .int .i64 ts1, .int .i64 tq1, .slice a1 zs1.length cap1]] 2 (by kernel_rfl) (by kernel_rfl) (by kernel_rfl) (by kernel_rfl) (by kernel_rfl) ?_
      refine (hto1 _ (h1.below (b2.trans (hW.mono b2.size)))).mono ?_
      rintro e uh1 ⟨xah1, xch1, rfl, oh1, hb⟩
      replace oh0 := oh0.below hb
      replace Bz := Bz.below hb
      replace hW := hW.trans (hb.mono hW.size)
      clear hb
      refine ⟨_, rfl, ⟨⟨_, hW⟩, rfl⟩, ?_⟩
      simp only [Act.put, List.getElem_toArray, List.getElem_cons_succ, List.getElem_cons_zero, List.setIfInBounds_toArray, List.set_cons_zero, List.set_cons_succ]
      refine call_at 4 (some 79) 10 #[.slice xah0 zs0.length xch0, .agg #[.int .i64 ti1, .int .i64 ts1, .int .i64 tq1, .slice xah1 zs1.length xch1]] 1 (by kernel_rfl) (by kernel_rfl) (by kernel_rfl) (by kernel_rfl) (by kernel_rfl) ?_
      refine (him _ _ _ _ _ (oh0.lies) (oh1.lies)).mono ?_
      rintro e vh ⟨rah, rch, rbh, rdh, rfl, oh, hb⟩
      have hnb : ∀ k, ((Value.slice rah us.length rch).ownBlock = some k ∨ (Value.slice rbh ys.length rdh).ownBlock = some k) → k ≠ yd.heap.size := fun k hk => by
        rcases hk with hk | hk
        · have := (oh.o1.1.lt k hk).1; have := Bz.lt; omega
        · have := (oh.o2.1.lt k hk).1; have := Bz.lt; omega
      replace oh0 := oh0.below hb
      replace oh1 := oh1.below hb
      replace Bz := Bz.below hb
      replace hW := hW.trans (hb.mono hW.size)
      clear hb
      refine ⟨_, rfl, ⟨⟨_, hW⟩, rfl⟩, ?_⟩
      simp only [Act.put, List.getElem_toArray, List.getElem_cons_succ, List.getElem_cons_zero, List.setIfInBounds_toArray, List.set_cons_zero, List.set_cons_succ]
      refine one_at 6 _ 0 (by kernel_rfl) rfl (by kernel_rfl) ?_
      have p0 := Bz.cell 0 _ rfl
      have f0 := Bz.frozen 0
      have p1 := Bz.cell 1 _ rfl
      have f1 := Bz.frozen 1
      have p2 := Bz.cell 2 _ rfl
      have f2 := Bz.frozen 2
      have p3 := Bz.cell 3 _ rfl
      have f3 := Bz.frozen 3
      go_wp2
      refine ThenGo.to ⟨⟨⟨_, ((((hW.setCell (p := ⟨yd.heap.size, 0, none⟩) hzz (.int .i64 d)).setCell (p := ⟨yd.heap.size, 1, none⟩) hzz (.int .i64 y)).setCell (p := ⟨yd.heap.size, 2, none⟩) hzz (.slice rah us.length rch)).setCell (p := ⟨yd.heap.size, 3, none⟩) hzz (.slice rbh ys.length rdh))⟩, rfl⟩, ?_⟩
      refine text_end (by kernel_rfl) ?_
      exact ⟨rfl, _, ⟨xah0, xch0, xah1, xch1, rah, rch, rbh, rdh, yd.heap.size, _, _, rfl, ((((Bz.set 0 (.int .i64 d)).set 1 (.int .i64 y)).set 2 (.slice rah us.length rch)).set 3 (.slice rbh ys.length rdh)), ((((oh.setOther (j := 0) (u := .int .i64 d) hnb).setOther (j := 1) (u := .int .i64 y) hnb).setOther (j := 2) (u := .slice rah us.length rch) hnb).setOther (j := 3) (u := .slice rbh ys.length rdh) hnb), ((((hW.setCell (p := ⟨yd.heap.size, 0, none⟩) hzz (.int .i64 d)).setCell (p := ⟨yd.heap.size, 1, none⟩) hzz (.int .i64 y)).setCell (p := ⟨yd.heap.size, 2, none⟩) hzz (.slice rah us.length rch)).setCell (p := ⟨yd.heap.size, 3, none⟩) hzz (.slice rbh ys.length rdh))⟩, by kernel_rfl⟩
  rintro vs Wh ⟨xah0, xch0, xah1, xch1, rah, rch, rbh, rdh, bxh, loh, hih, rfl, Bh, oh, hW⟩
  simp only [putAll, Act.put, List.setIfInBounds_toArray, List.set_cons_zero, List.set_cons_succ]
  replace b2 := b2.trans (hW.mono b2.size)
  replace Bg := Bg.below hW
  replace og' := og'.below hW
  replace B1h := B1h.below hW
  clear hW
  have Bw0 := Bw.below b2
  have q0 := Bw0.cell 0 _ rfl
  have p0 := Bh.cell 0 _ rfl
  have q1 := Bw0.cell 1 _ rfl
  have p1 := Bh.cell 1 _ rfl
  have q2 := Bw0.cell 2 _ rfl
  have p2 := Bh.cell 2 _ rfl
  have q3 := Bw0.cell 3 _ rfl
  have p3 := Bh.cell 3 _ rfl
  go_wp2_with fail
  clear Bw0 q0 p0 q1 p1 q2 p2 q3 p3
  refine (heg _ _ _ _ _ _ _ _ _ (oh).row ((os.below b2)).row).mono ?_
  rintro e G5 ⟨rfl, hb⟩
  replace b2 := b2.trans (hb.mono b2.size)
  replace Bg := Bg.below hb
  replace og' := og'.below hb
  replace B1h := B1h.below hb
  replace Bh := Bh.below hb
  replace oh := oh.below hb
  clear hb
  have p0 := Bg.cell 0 _ rfl
  have p1 := Bg.cell 1 _ rfl
  have p2 := Bg.cell 2 _ rfl
  have p3 := Bg.cell 3 _ rfl
  go_wp2_with fail
  clear p0 p1 p2 p3
  refine (hhd _ _ _ _ _ og').mono ?_
  rintro e G6 ⟨rfl, hb⟩
  replace b2 := b2.trans (hb.mono b2.size)
  replace Bg := Bg.below hb
  replace og' := og'.below hb
  replace B1h := B1h.below hb
  replace Bh := Bh.below hb
  replace oh := oh.below hb
  clear hb
  go_wp2
  go_ret
  exact ⟨rfl, hb0.trans (b2.mono hb0.size)⟩

end Go.Proofs.Ytjaoggkpnjkkpaa
