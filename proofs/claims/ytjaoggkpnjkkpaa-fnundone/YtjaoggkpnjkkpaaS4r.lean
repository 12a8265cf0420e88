/- TakeAll of the model, by the plain store. No condition. -/
import Derived.Test.YtjaoggkpnjkkpaaS4q
import Derived.Test.YtjaoggkpnjkkpaaS4c
namespace Go.Proofs.Ytjaoggkpnjkkpaa
open Go.RowKit Go.Maps
open Go.BigFrame
set_option linter.unusedVariables false
set_option linter.unusedSimpArgs false

theorem drop_us {uss : List (List UndoD)} {m : Nat} (h : m < uss.length) : uss.drop m = uss.getD m [] :: uss.drop (m + 1) := by
  have e : uss.getD m [] = uss[m] := by simp [List.getD, h]
  rw [e, List.drop_eq_getElem_cons h]

set_option maxRecDepth 100000 in
set_option maxHeartbeats 4000000 in
theorem specTakeAll_any (a : Option Addr) (cap : Nat) (xs : List ItemD) (v : Value) (uss : List (List UndoD)) (w : World) (h : ItemRow w a xs) (hN : Nice a xs.length cap) (hu : UssAt w v uss) (hl : xs.length ≤ 1048576) (hl2 : uss.length + sumU uss ≤ 1048576) :
    Calls Try.prog 17 #[.slice a xs.length cap, v] w fun e w' => ∃ b c, e = .returned (.agg #[.int .i64 (taC xs uss), .int .i64 0, .slice b (taI xs uss).length c]) ∧
      w'.ownsRow w.heap.size 94 2 (.slice b (taI xs uss).length c) (taI xs uss).length (itemCells (taI xs uss)) ∧ Below w.heap.size w w' := by
  have hF := fun w h => l3Fault_any a cap xs w h hl
  have hb0 : Below w.heap.size w (w.alloc (.cells #[.int .i64 0, .int .i64 0, .slice none 0 0] 37)) := by go_grown
  have B0 := Blk.new w 37 #[.int .i64 0, .int .i64 0, .slice none 0 0]
  obtain ⟨va, vc, rfl⟩ := hu.shape
  rcases ta_ways xs uss with ⟨h0, e1, e2⟩ | ⟨h0, h1, e1, e2⟩ | ⟨h0, h1, e1, e2⟩ <;> rw [e1, e2] <;> clear e1 e2
  case inl =>
    have p0 := B0.cell 0 _ rfl
    have p1 := B0.cell 1 _ rfl
    have p2 := B0.cell 2 _ rfl
    go_enter Try.func17, Try.ntmps17
    go_wp2
    refine bodyPost_ret (v := .agg #[.int .i64 2, .int .i64 0, .slice none 0 0]) (by simp [results, Try.results17, go_sem, p0, p1, p2]) rfl ⟨_, _, rfl, World.ownsRow_nil _ _ _ _, ?_⟩
    first
      | go_grown
      | (repeat' (refine Below.setCell ?_ (by dsimp only; omega) _)
         exact hb0)
  case inr.inl =>
    have hne : (itemsF xs != 0) = true := by simpa using h1
    clear h1
    generalize itemsF xs = r at hF hne
    go_enter Try.func17, Try.ntmps17
    go_wp2_with fail
    generalize w.alloc (.cells #[.int .i64 0, .int .i64 0, .slice none 0 0] 37) = W0 at hb0 B0
    refine (hF _ (h.below hb0)).mono ?_
    rintro e w1 ⟨rfl, hb⟩
    replace B0 := B0.below hb
    replace hb0 := hb0.trans (hb.mono hb0.size)
    clear hb
    have p0 := B0.cell 0 _ rfl
    have f0 := B0.frozen 0
    have p1 := B0.cell 1 _ rfl
    have f1 := B0.frozen 1
    have p2 := B0.cell 2 _ rfl
    have f2 := B0.frozen 2
    have hlt := B0.lt
    clear B0
    go_wp2
    refine bodyPost_ret (v := .agg #[.int .i64 r, .int .i64 0, .slice none 0 0]) (by simp [results, Try.results17, go_sem, p0, p1, p2]) rfl ⟨_, _, rfl, World.ownsRow_nil _ _ _ _, ?_⟩
    repeat' (refine Below.setCell ?_ (by dsimp only; omega) _)
    exact hb0
  case inr.inr =>
    obtain ⟨h8, g⟩ := good_of_F h1
    rw [h1] at hF
    clear h1
    go_enter Try.func17, Try.ntmps17
    go_wp2_with fail
    generalize w.alloc (.cells #[.int .i64 0, .int .i64 0, .slice none 0 0] 37) = W0 at hb0 B0
    refine (hF _ (h.below hb0)).mono ?_
    rintro e w1 ⟨rfl, hb⟩
    replace B0 := B0.below hb
    replace hb0 := hb0.trans (hb.mono hb0.size)
    clear hb hF
    have hlt0 := B0.lt
    have hbE : Below w1.heap.size w1 (w1.alloc (.cells #[] 94)) := by go_grown
    have hoE := World.ownsRow_lit (size := 2) (e := 94) w1 #[] 0 (Nat.le_refl _) (by decide) rfl
    have hcp : ∀ (ops : Array Oper) (rest : List Oper) (o : Oper) (act : Act) (Q : Exit → Act → World → Prop) (hgd : o.guard = none) (sx x : Operand) (ho : o.op = .call { callee := .builtin .append, args := #[sx, x], argTypes := #[24, 24] }) (hs : act.eval sx = .slice (some ⟨w1.heap.size, 0, none⟩) 0 0) (hx : act.eval x = .slice a xs.length cap)
        (hh : ∀ a' c' w', w'.ownsRow w1.heap.size 94 2 (.slice a' xs.length c') xs.length (itemCells xs) → Below w1.heap.size (w1.alloc (.cells #[] 94)) w' → wpList Try.prog ops Q rest (act.put o.dst (.slice a' xs.length c')) w'), wpList Try.prog ops Q (o :: rest) act (w1.alloc (.cells #[] 94)) :=
      fun ops rest o act Q hgd sx x ho hs hx hh => wpList_copy_items _ hgd sx x ho w1.heap.size w1.heap.size hs hoE a xs cap hx ((h.below hb0).below hbE) hN (by omega) (by simp) hh
    go_wp2_with (at_builtin; refine hcp _ _ _ _ _ rfl _ _ rfl rfl rfl ?_)
    intro ra rc w2 o2 hbc
    have hb2 : Below w1.heap.size w1 w2 := hbE.trans hbc
    clear hcp hoE hbE hbc
    replace B0 := B0.below hb2
    have hs2 := hb2.size
    replace hb0 := hb0.trans (hb2.mono hb0.size)
    clear hb2
    have hb : Below w2.heap.size w2 (w2.alloc (.cells #[.int .i64 0, .int .i64 0, .slice ra xs.length rc] 37)) := by go_grown
    have Bo := Blk.new w2 37 #[.int .i64 0, .int .i64 0, .slice ra xs.length rc]
    replace B0 := B0.below hb
    replace o2 := own_base (base' := w.heap.size + 1) (own_below o2 hb) (by omega)
    replace hb0 := hb0.trans (hb.mono hb0.size)
    clear hb
    have hbo : w.heap.size < w2.heap.size := by omega
    go_wp2
    generalize w2.alloc (.cells #[.int .i64 0, .int .i64 0, .slice ra xs.length rc] 37) = w3 at *
    generalize w2.heap.size = bo at *
    go_loopw [7] (fun j wr => ∃ (m : Nat) (Y : List ItemD) (ya : Option Addr) (yc : Nat), m ≤ uss.length ∧ j = .int .i64 ((m : Int) - 1) ∧ Hid (taR xs (uss.drop m) = (0, Y)) ∧ Y.length ≤ 8 ∧ Blk wr bo 37 #[.int .i64 0, .int .i64 0, .slice ya Y.length yc] ∧ wr.ownsRow (w.heap.size + 1) 94 2 (.slice ya Y.length yc) Y.length (itemCells Y) ∧ Blk wr w.heap.size 37 #[.int .i64 0, .int .i64 0, .slice none 0 0] ∧ Below w.heap.size w wr) (fun j _ => (intOf j + 1).toNat)
    case atStart => exact ⟨uss.length, xs, ra, rc, Nat.le_refl _, rfl, (by rw [List.drop_length]; rfl : _ = _), h8, Bo, o2, B0, hb0⟩
    case round =>
      clear Bo o2 B0 hb0
      obtain ⟨m, Y, ya, yc, hm, rfl, HY, hY8, Bo, oY, B0, hb0⟩ := hrel
      have hbow := Bo.lt
      cases m with
      | zero =>
        have HZ : Hid (taR xs uss = (0, Y)) := by simpa using HY
        clear HY
        have hne0 : ∀ k, (Value.slice ya Y.length yc).ownBlock = some k → k ≠ w.heap.size := fun k hk => by have := (oY.lt k hk).1; omega
        have hbr := B0.lt
        have q0 := Bo.cell 0 _ rfl
        have q1 := Bo.cell 1 _ rfl
        have q2 := Bo.cell 2 _ rfl
        have p0 := B0.cell 0 _ rfl
        have f0 := B0.frozen 0
        have p1 := B0.cell 1 _ rfl
        have f1 := B0.frozen 1
        have p2 := B0.cell 2 _ rfl
        have f2 := B0.frozen 2
        have RR : Hid (_ ∧ _) := ⟨oY, hb0⟩
        clear Bo B0 oY hb0
        go_wp2
        refine bodyPost_ret (v := .agg #[.int .i64 0, .int .i64 0, .slice ya Y.length yc]) (by simp [results, Try.results17, go_sem, p0, p1, p2]) rfl ?_
        rw [HZ.out]
        refine ⟨_, _, rfl, ?_, ?_⟩
        · exact own_base (own_set_other (own_set_other (own_set_other RR.out.1 hne0) hne0) hne0) (by omega)
        · refine Below.setCell (Below.setCell (Below.setCell RR.out.2 ?_ _) ?_ _) ?_ _ <;> exact Nat.le_refl _
      | succ m =>
        obtain ⟨b, off, xa, xc, rfl, hbs, hcm, hxr⟩ := (hu.below hb0).at m (by omega)
        have hzl : (uss.getD m []).length ≤ sumU uss := mem_le_sumU (by simp [List.getD, show m < uss.length by omega])
        have HS : Hid (taR xs (uss.drop m) = (tbC Y (uss.getD m []), tbI Y (uss.getD m []))) := by
          show _ = _
          rw [drop_us (by omega)]
          simp only [taR, HY.out, if_true]
        have hx1 : ((m + 1 : Nat) : Int) - 1 = (m : Int) := by omega
        rw [hx1]
        have hT := fun W h hu => specTakeBack_any ya yc Y xa xc (uss.getD m []) W h (nice_own oY) hu (by omega) (by omega)
        have hT8 := tbI_le Y (uss.getD m [])
        have HB : Hid (tbC Y (uss.getD m []) ≠ 0 → taR xs uss = (tbC Y (uss.getD m []), [])) := by
          intro hc
          have h1 : (taR xs (uss.drop m)).1 ≠ 0 := by rw [HS.out]; exact hc
          have := taR_drop uss m h1
          rw [this, HS.out]
        have HBI : Hid (tbC Y (uss.getD m []) ≠ 0 → tbI Y (uss.getD m []) = []) := fun hc => tbI_bad hc
        clear HY
        generalize uss.getD m [] = xd at hcm hxr hzl HS hT hT8 HB HBI
        have hR := Lies.own oY
        by_cases hc : tbC Y xd = 0
        · rw [hc] at HS hT
          clear HB HBI hc
          generalize tbI Y xd = YY at HS hT hT8
          go_wp2_with fail
          refine region_vals [some 30, some 31, some 32, some 33, some 34, some 35, some 36, some 8] (fun vs w' => ∃ (rb : Option Addr) (rd bx : Nat), vs = [.pointer (some ⟨bo, 2, none⟩), .slice ya Y.length yc, .slice (some ⟨b, off, none⟩) uss.length vc, .int .i64 m, .pointer (some ⟨b, off + m, none⟩), .slice xa xd.length xc, .agg #[.int .i64 0, .int .i64 0, .slice rb YY.length rd], .pointer (some ⟨bx, 0, none⟩)] ∧ wr.heap.size ≤ bx ∧ Blk w' bx 37 #[.int .i64 0, .int .i64 0, .slice rb YY.length rd] ∧ w'.ownsRow wr.heap.size 94 2 (.slice rb YY.length rd) YY.length (itemCells YY) ∧ Below wr.heap.size wr w') ?_ ?_
          · skip
            have hW : Below wr.heap.size wr wr.drew := (Below.refl _ _).drew
            have hne : Nonempty (Lat wr) := ⟨⟨wr, Below.refl _ _⟩⟩
            have k1 := Bo.lat 2 _ rfl
            have k2 := lat_cell hcm
            refine text_begin (S := fun w' => ∃ u : Lat wr, w' = u.val) (by kernel_rfl) ?_
            refine seg_range [(0, 6)] 3 (by kernel_rfl) (by kernel_rfl) (by kernel_rfl) (by kernel_rfl) (by kernel_rfl) ⟨⟨_, hW⟩, rfl⟩ ?_
            simp only [pickR, List.toList_toArray, List.flatMap_cons, List.flatMap_nil, List.drop_succ_cons, List.drop_zero, List.take_succ_cons, List.take_zero, List.cons_append, List.nil_append, List.append_nil]
            repeat go_big_quiet_step (fail)
            refine wpQuiet_nil ?_
            clear k1 k2
            generalize wr.drew = wd at hW ⊢
            refine two_at 6 7 2 (by kernel_rfl) (by kernel_rfl) ?_ ?_
            · skip
              refine op_call 6 (some 36) 15 #[.slice ya Y.length yc, .slice xa xd.length xc] (by kernel_rfl) (by kernel_rfl) (by kernel_rfl) ?_
              refine (hT _ (Lies.below hR hW) (hxr.below hW)).mono ?_
              rintro e W1 ⟨rb, rd, rfl, o1, hb⟩
              replace o1 := own_base (base' := wr.heap.size) o1 (by have := hW.size; omega)
              replace hW := hW.trans (hb.mono hW.size)
              clear hb
              refine ⟨_, rfl, ⟨⟨_, hW⟩, rfl⟩, ?_⟩
              simp only [Act.put, List.getElem_toArray, List.getElem_cons_succ, List.getElem_cons_zero, List.setIfInBounds_toArray, List.set_cons_zero, List.set_cons_succ]
              refine one_at 7 _ 1 (by kernel_rfl) rfl (by kernel_rfl) ?_
              have hbz : Below W1.heap.size W1 (W1.alloc (.cells #[.int .i64 0, .int .i64 0, .slice none 0 0] 37)) := by go_grown
              have Bz := Blk.new W1 37 #[.int .i64 0, .int .i64 0, .slice none 0 0]
              have hnb : ∀ k, (Value.slice rb YY.length rd).ownBlock = some k → k ≠ W1.heap.size := fun k hk => by have := o1.lt k hk; omega
              replace o1 := own_below o1 hbz
              have hzz : wr.heap.size ≤ W1.heap.size := hW.size
              replace hW := hW.trans (hbz.mono hW.size)
              clear hbz
              go_wp2
              refine ThenGo.to ⟨⟨⟨_, hW⟩, rfl⟩, ?_⟩
              generalize W1.alloc (.cells #[.int .i64 0, .int .i64 0, .slice none 0 0] 37) = Yw at hW Bz o1 ⊢
              refine one_at 8 _ 0 (by kernel_rfl) rfl (by kernel_rfl) ?_
              have p0 := Bz.cell 0 _ rfl
              have f0 := Bz.frozen 0
              have p1 := Bz.cell 1 _ rfl
              have f1 := Bz.frozen 1
              have p2 := Bz.cell 2 _ rfl
              have f2 := Bz.frozen 2
              have hW9 := ((hW.setCell (p := ⟨W1.heap.size, 0, none⟩) (by dsimp only; omega) (.int .i64 0)).setCell (p := ⟨W1.heap.size, 1, none⟩) (by dsimp only; omega) (.int .i64 0)).setCell (p := ⟨W1.heap.size, 2, none⟩) (by dsimp only; omega) (.slice rb YY.length rd)
              have Bz9 := ((Bz.set 0 (.int .i64 0)).set 1 (.int .i64 0)).set 2 (.slice rb YY.length rd)
              have o9 := own_set_other (j := 2) (u := .slice rb YY.length rd) (own_set_other (j := 1) (u := .int .i64 0) (own_set_other (j := 0) (u := .int .i64 0) o1 hnb) hnb) hnb
              clear hne
              go_wp2
              refine ThenGo.to ⟨⟨⟨_, hW9⟩, rfl⟩, ?_⟩
              refine text_end (by kernel_rfl) ?_
              exact ⟨rfl, _, ⟨rb, rd, _, rfl, hzz, Bz9, o9, hW9⟩, by kernel_rfl⟩
            · skip
              refine op_one 7 _ rfl ?_
              have hbz : Below wd.heap.size wd (wd.alloc (.cells #[.int .i64 0, .int .i64 0, .slice none 0 0] 37)) := by go_grown
              have Bz := Blk.new wd 37 #[.int .i64 0, .int .i64 0, .slice none 0 0]
              have hzz : wr.heap.size ≤ wd.heap.size := hW.size
              replace hW := hW.trans (hbz.mono hW.size)
              clear hbz
              go_wp2
              refine ThenGo.to ⟨⟨⟨_, hW⟩, rfl⟩, ?_⟩
              generalize wd.alloc (.cells #[.int .i64 0, .int .i64 0, .slice none 0 0] 37) = Yw at hW Bz  ⊢
              refine call_at 6 (some 36) 15 #[.slice ya Y.length yc, .slice xa xd.length xc] 1 (by kernel_rfl) (by kernel_rfl) (by kernel_rfl) (by kernel_rfl) (by kernel_rfl) ?_
              refine (hT _ (Lies.below hR hW) (hxr.below hW)).mono ?_
              rintro e W1 ⟨rb, rd, rfl, o1, hb⟩
              have hnb : ∀ k, (Value.slice rb YY.length rd).ownBlock = some k → k ≠ wd.heap.size := fun k hk => by have := (o1.lt k hk).1; have := Bz.lt; omega
              replace Bz := Bz.below hb
              replace o1 := own_base (base' := wr.heap.size) o1 (by have := hW.size; omega)
              replace hW := hW.trans (hb.mono hW.size)
              clear hb
              refine ⟨_, rfl, ⟨⟨_, hW⟩, rfl⟩, ?_⟩
              simp only [Act.put, List.getElem_toArray, List.getElem_cons_succ, List.getElem_cons_zero, List.setIfInBounds_toArray, List.set_cons_zero, List.set_cons_succ]
              refine one_at 8 _ 0 (by kernel_rfl) rfl (by kernel_rfl) ?_
              have p0 := Bz.cell 0 _ rfl
              have f0 := Bz.frozen 0
              have p1 := Bz.cell 1 _ rfl
              have f1 := Bz.frozen 1
              have p2 := Bz.cell 2 _ rfl
              have f2 := Bz.frozen 2
              have hW9 := ((hW.setCell (p := ⟨wd.heap.size, 0, none⟩) (by dsimp only; omega) (.int .i64 0)).setCell (p := ⟨wd.heap.size, 1, none⟩) (by dsimp only; omega) (.int .i64 0)).setCell (p := ⟨wd.heap.size, 2, none⟩) (by dsimp only; omega) (.slice rb YY.length rd)
              have Bz9 := ((Bz.set 0 (.int .i64 0)).set 1 (.int .i64 0)).set 2 (.slice rb YY.length rd)
              have o9 := own_set_other (j := 2) (u := .slice rb YY.length rd) (own_set_other (j := 1) (u := .int .i64 0) (own_set_other (j := 0) (u := .int .i64 0) o1 hnb) hnb) hnb
              clear hne
              go_wp2
              refine ThenGo.to ⟨⟨⟨_, hW9⟩, rfl⟩, ?_⟩
              refine text_end (by kernel_rfl) ?_
              exact ⟨rfl, _, ⟨rb, rd, _, rfl, hzz, Bz9, o9, hW9⟩, by kernel_rfl⟩
          rintro vs W5 ⟨rb, rd, bx, rfl, hbx, Bz, o5, hW⟩
          simp only [putAll, Act.put, List.setIfInBounds_toArray, List.set_cons_zero, List.set_cons_succ]
          replace Bo := Bo.below hW
          replace B0 := B0.below hW
          have hwb := hb0.size
          replace hb0 := hb0.trans (hW.mono hb0.size)
          have hbxl := Bz.lt
          have hnb : ∀ k, (Value.slice rb YY.length rd).ownBlock = some k → k ≠ bo := own_ne_blk o5 Bo (by decide)
          have z0 := Bz.cell 0 _ rfl
          have z1 := Bz.cell 1 _ rfl
          have z2 := Bz.cell 2 _ rfl
          have p0 := Bo.cell 0 _ rfl
          have f0 := Bo.frozen 0
          have p1 := Bo.cell 1 _ rfl
          have f1 := Bo.frozen 1
          have p2 := Bo.cell 2 _ rfl
          have f2 := Bo.frozen 2
          have Bo9 := ((Bo.set 0 (.int .i64 0)).set 1 (.int .i64 0)).set 2 (.slice rb YY.length rd)
          have B09 : Blk (((W5.setCell ⟨bo, 0, none⟩ (.int .i64 0)).setCell ⟨bo, 1, none⟩ (.int .i64 0)).setCell ⟨bo, 2, none⟩ (.slice rb YY.length rd)) w.heap.size 37 #[.int .i64 0, .int .i64 0, .slice none 0 0] := (Below.heap_setCell _ _ _ _ (by dsimp only; omega)).trans ((Below.heap_setCell _ _ _ _ (by dsimp only; omega)).trans ((Below.heap_setCell _ _ _ _ (by dsimp only; omega)).trans B0))
          have o9 := own_base (base' := w.heap.size + 1) (own_set_other (j := 2) (u := .slice rb YY.length rd) (own_set_other (j := 1) (u := .int .i64 0) (own_set_other (j := 0) (u := .int .i64 0) o5 hnb) hnb) hnb) (by omega)
          have hb9 := ((hb0.setCell (p := ⟨bo, 0, none⟩) (by dsimp only; omega) (.int .i64 0)).setCell (p := ⟨bo, 1, none⟩) (by dsimp only; omega) (.int .i64 0)).setCell (p := ⟨bo, 2, none⟩) (by dsimp only; omega) (.slice rb YY.length rd)
          have RR : Hid (_ ∧ _ ∧ _ ∧ _) := ⟨Bo9, o9, B09, hb9⟩
          clear Bo9 o9 B09 hb9 Bo B0 o5 hb0 Bz hW hR oY hT hcm hxr
          go_wp2
          go_roundw
          case rel => exact ⟨m, YY, rb, rd, by omega, by go_num, HS, hT8, by simpa using RR.out.1, RR.out.2.1, RR.out.2.2.1, RR.out.2.2.2⟩
          case measure => simp [intOf] <;> omega
        · have hcn : (tbC Y xd != 0) = true := by simpa using hc
          replace HB : Hid (taR xs uss = (tbC Y xd, [])) := HB.out hc
          have hnil : tbI Y xd = [] := HBI.out hc
          rw [hnil] at hT
          clear HS HBI hc hnil hT8
          obtain ⟨YY, hYY⟩ : ∃ YY : List ItemD, YY = [] := ⟨_, rfl⟩
          have HYY : Hid (YY = []) := hYY
          rw [← hYY] at hT
          clear hYY
          generalize tbC Y xd = C at hT HB hcn
          have hcm' := hcn
          clear hcn
          go_wp2_with fail
          refine region_vals [some 30, some 31, some 32, some 33, some 34, some 35, some 36, some 8] (fun vs w' => ∃ (rb : Option Addr) (rd bx : Nat), vs = [.pointer (some ⟨bo, 2, none⟩), .slice ya Y.length yc, .slice (some ⟨b, off, none⟩) uss.length vc, .int .i64 m, .pointer (some ⟨b, off + m, none⟩), .slice xa xd.length xc, .agg #[.int .i64 C, .int .i64 0, .slice rb YY.length rd], .pointer (some ⟨bx, 0, none⟩)] ∧ wr.heap.size ≤ bx ∧ Blk w' bx 37 #[.int .i64 C, .int .i64 0, .slice rb YY.length rd] ∧ w'.ownsRow wr.heap.size 94 2 (.slice rb YY.length rd) YY.length (itemCells YY) ∧ Below wr.heap.size wr w') ?_ ?_
          · skip
            have hW : Below wr.heap.size wr wr.drew := (Below.refl _ _).drew
            have hne : Nonempty (Lat wr) := ⟨⟨wr, Below.refl _ _⟩⟩
            have k1 := Bo.lat 2 _ rfl
            have k2 := lat_cell hcm
            refine text_begin (S := fun w' => ∃ u : Lat wr, w' = u.val) (by kernel_rfl) ?_
            refine seg_range [(0, 6)] 3 (by kernel_rfl) (by kernel_rfl) (by kernel_rfl) (by kernel_rfl) (by kernel_rfl) ⟨⟨_, hW⟩, rfl⟩ ?_
            simp only [pickR, List.toList_toArray, List.flatMap_cons, List.flatMap_nil, List.drop_succ_cons, List.drop_zero, List.take_succ_cons, List.take_zero, List.cons_append, List.nil_append, List.append_nil]
            repeat go_big_quiet_step (fail)
            refine wpQuiet_nil ?_
            clear k1 k2
            generalize wr.drew = wd at hW ⊢
            refine two_at 6 7 2 (by kernel_rfl) (by kernel_rfl) ?_ ?_
            · skip
              refine op_call 6 (some 36) 15 #[.slice ya Y.length yc, .slice xa xd.length xc] (by kernel_rfl) (by kernel_rfl) (by kernel_rfl) ?_
              refine (hT _ (Lies.below hR hW) (hxr.below hW)).mono ?_
              rintro e W1 ⟨rb, rd, rfl, o1, hb⟩
              replace o1 := own_base (base' := wr.heap.size) o1 (by have := hW.size; omega)
              replace hW := hW.trans (hb.mono hW.size)
              clear hb
              refine ⟨_, rfl, ⟨⟨_, hW⟩, rfl⟩, ?_⟩
              simp only [Act.put, List.getElem_toArray, List.getElem_cons_succ, List.getElem_cons_zero, List.setIfInBounds_toArray, List.set_cons_zero, List.set_cons_succ]
              refine one_at 7 _ 1 (by kernel_rfl) rfl (by kernel_rfl) ?_
              have hbz : Below W1.heap.size W1 (W1.alloc (.cells #[.int .i64 0, .int .i64 0, .slice none 0 0] 37)) := by go_grown
              have Bz := Blk.new W1 37 #[.int .i64 0, .int .i64 0, .slice none 0 0]
              have hnb : ∀ k, (Value.slice rb YY.length rd).ownBlock = some k → k ≠ W1.heap.size := fun k hk => by have := o1.lt k hk; omega
              replace o1 := own_below o1 hbz
              have hzz : wr.heap.size ≤ W1.heap.size := hW.size
              replace hW := hW.trans (hbz.mono hW.size)
              clear hbz
              go_wp2
              refine ThenGo.to ⟨⟨⟨_, hW⟩, rfl⟩, ?_⟩
              generalize W1.alloc (.cells #[.int .i64 0, .int .i64 0, .slice none 0 0] 37) = Yw at hW Bz o1 ⊢
              refine one_at 8 _ 0 (by kernel_rfl) rfl (by kernel_rfl) ?_
              have p0 := Bz.cell 0 _ rfl
              have f0 := Bz.frozen 0
              have p1 := Bz.cell 1 _ rfl
              have f1 := Bz.frozen 1
              have p2 := Bz.cell 2 _ rfl
              have f2 := Bz.frozen 2
              have hW9 := ((hW.setCell (p := ⟨W1.heap.size, 0, none⟩) (by dsimp only; omega) (.int .i64 C)).setCell (p := ⟨W1.heap.size, 1, none⟩) (by dsimp only; omega) (.int .i64 0)).setCell (p := ⟨W1.heap.size, 2, none⟩) (by dsimp only; omega) (.slice rb YY.length rd)
              have Bz9 := ((Bz.set 0 (.int .i64 C)).set 1 (.int .i64 0)).set 2 (.slice rb YY.length rd)
              have o9 := own_set_other (j := 2) (u := .slice rb YY.length rd) (own_set_other (j := 1) (u := .int .i64 0) (own_set_other (j := 0) (u := .int .i64 C) o1 hnb) hnb) hnb
              clear hne
              go_wp2
              refine ThenGo.to ⟨⟨⟨_, hW9⟩, rfl⟩, ?_⟩
              refine text_end (by kernel_rfl) ?_
              exact ⟨rfl, _, ⟨rb, rd, _, rfl, hzz, Bz9, o9, hW9⟩, by kernel_rfl⟩
            · skip
              refine op_one 7 _ rfl ?_
              have hbz : Below wd.heap.size wd (wd.alloc (.cells #[.int .i64 0, .int .i64 0, .slice none 0 0] 37)) := by go_grown
              have Bz := Blk.new wd 37 #[.int .i64 0, .int .i64 0, .slice none 0 0]
              have hzz : wr.heap.size ≤ wd.heap.size := hW.size
              replace hW := hW.trans (hbz.mono hW.size)
              clear hbz
              go_wp2
              refine ThenGo.to ⟨⟨⟨_, hW⟩, rfl⟩, ?_⟩
              generalize wd.alloc (.cells #[.int .i64 0, .int .i64 0, .slice none 0 0] 37) = Yw at hW Bz  ⊢
              refine call_at 6 (some 36) 15 #[.slice ya Y.length yc, .slice xa xd.length xc] 1 (by kernel_rfl) (by kernel_rfl) (by kernel_rfl) (by kernel_rfl) (by kernel_rfl) ?_
              refine (hT _ (Lies.below hR hW) (hxr.below hW)).mono ?_
              rintro e W1 ⟨rb, rd, rfl, o1, hb⟩
              have hnb : ∀ k, (Value.slice rb YY.length rd).ownBlock = some k → k ≠ wd.heap.size := fun k hk => by have := (o1.lt k hk).1; have := Bz.lt; omega
              replace Bz := Bz.below hb
              replace o1 := own_base (base' := wr.heap.size) o1 (by have := hW.size; omega)
              replace hW := hW.trans (hb.mono hW.size)
              clear hb
              refine ⟨_, rfl, ⟨⟨_, hW⟩, rfl⟩, ?_⟩
              simp only [Act.put, List.getElem_toArray, List.getElem_cons_succ, List.getElem_cons_zero, List.setIfInBounds_toArray, List.set_cons_zero, List.set_cons_succ]
              refine one_at 8 _ 0 (by kernel_rfl) rfl (by kernel_rfl) ?_
              have p0 := Bz.cell 0 _ rfl
              have f0 := Bz.frozen 0
              have p1 := Bz.cell 1 _ rfl
              have f1 := Bz.frozen 1
              have p2 := Bz.cell 2 _ rfl
              have f2 := Bz.frozen 2
              have hW9 := ((hW.setCell (p := ⟨wd.heap.size, 0, none⟩) (by dsimp only; omega) (.int .i64 C)).setCell (p := ⟨wd.heap.size, 1, none⟩) (by dsimp only; omega) (.int .i64 0)).setCell (p := ⟨wd.heap.size, 2, none⟩) (by dsimp only; omega) (.slice rb YY.length rd)
              have Bz9 := ((Bz.set 0 (.int .i64 C)).set 1 (.int .i64 0)).set 2 (.slice rb YY.length rd)
              have o9 := own_set_other (j := 2) (u := .slice rb YY.length rd) (own_set_other (j := 1) (u := .int .i64 0) (own_set_other (j := 0) (u := .int .i64 C) o1 hnb) hnb) hnb
              clear hne
              go_wp2
              refine ThenGo.to ⟨⟨⟨_, hW9⟩, rfl⟩, ?_⟩
              refine text_end (by kernel_rfl) ?_
              exact ⟨rfl, _, ⟨rb, rd, _, rfl, hzz, Bz9, o9, hW9⟩, by kernel_rfl⟩
          rintro vs W5 ⟨rb, rd, bx, rfl, hbx, Bz, o5, hW⟩
          simp only [putAll, Act.put, List.setIfInBounds_toArray, List.set_cons_zero, List.set_cons_succ]
          replace B0 := B0.below hW
          have hwb := hb0.size
          replace hb0 := hb0.trans (hW.mono hb0.size)
          have hbr := B0.lt
          have hnb : ∀ k, (Value.slice rb YY.length rd).ownBlock = some k → k ≠ w.heap.size := own_ne_blk o5 B0 (by decide)
          have z0 := Bz.cell 0 _ rfl
          have z1 := Bz.cell 1 _ rfl
          have z2 := Bz.cell 2 _ rfl
          have p0 := B0.cell 0 _ rfl
          have f0 := B0.frozen 0
          have p1 := B0.cell 1 _ rfl
          have f1 := B0.frozen 1
          have p2 := B0.cell 2 _ rfl
          have f2 := B0.frozen 2
          have RR : Hid (_ ∧ _) := ⟨o5, hb0⟩
          clear Bo B0 o5 hb0 Bz hW hR oY hT hcm hxr
          go_wp2
          refine bodyPost_ret (v := .agg #[.int .i64 C, .int .i64 0, .slice rb YY.length rd]) (by simp [results, Try.results17, go_sem, p0, p1, p2]) rfl ?_
          rw [HB.out]
          dsimp only
          refine ⟨rb, rd, by rw [HYY.out], ?_, ?_⟩
          · have o9 := own_base (base' := w.heap.size) (own_set_other (j := 2) (u := .slice rb YY.length rd) (own_set_other (j := 1) (u := .int .i64 0) (own_set_other (j := 0) (u := .int .i64 C) RR.out.1 hnb) hnb) hnb) hwb
            rw [HYY.out] at o9 ⊢
            exact o9
          · refine Below.setCell (Below.setCell (Below.setCell RR.out.2 ?_ _) ?_ _) ?_ _ <;> exact Nat.le_refl _

end Go.Proofs.Ytjaoggkpnjkkpaa
