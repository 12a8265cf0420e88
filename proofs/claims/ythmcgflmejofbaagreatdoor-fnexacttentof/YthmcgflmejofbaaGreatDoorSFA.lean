/- A history's answer to what is asked of it (replyTo), with the functions that ask. No condition. -/
import Derived.Test.YthmcgflmejofbaaGreatDoorSRBE
namespace Go.Proofs.YthmcgflmejofbaaGreatDoor
open Go.RowKit
open Go.BigFrame
set_option linter.unusedVariables false
set_option maxRecDepth 100000
set_option linter.unusedSimpArgs false

theorem rep_zero {r : RepE} (h : repF r = 0) : (r.done.length ≤ 16 ∧ r.tent.length ≤ 8) ∧ lstF (r.done ++ r.tent) = 0 ∧ sameRep (mkR r.done r.tent) r = true := by
  by_cases h1 : 16 < r.done.length ∨ 8 < r.tent.length
  · rw [rep_many h1] at h; exact absurd h (by decide)
  · by_cases h2 : lstF (r.done ++ r.tent) = 0
    · rw [rep_same h1 h2] at h
      refine ⟨by omega, h2, ?_⟩
      split at h
      · assumption
      · exact absurd h (by decide)
    · rw [rep_list h1 h2] at h
      exact absurd h h2
theorem allCd_length : ∀ (ds : List TxnD) (xs : List ItemD), (allCd xs ds).length = ds.length
  | [], _ => rfl
  | t :: r, xs => by simp [allCd, allCd_length r]
theorem allVl_length : ∀ (ds : List TxnD) (xs : List ItemD), (allVl xs ds).length = ds.length
  | [], _ => rfl
  | t :: r, xs => by simp [allVl, allVl_length r]


/-- What a history answers: its code, its answer and its value. -/
def repL (f : TxnD → Bool) : List (TxnD × Int × Int × List UndoD) → Int × Int × Int
  | [] => (4, 0, 0)
  | d :: r => if f d.1 = true then (0, d.2.1, d.2.2.1) else repL f r
theorem repL_at (f : TxnD → Bool) (ds : List DeedQ) (k : Nat) (h : k < ds.length) : repL f ((ds.drop k).map DeedQ.e4) = if f (DeedQ.t ds[k]) = true then (0, ds[k].code, ds[k].val) else repL f ((ds.drop (k + 1)).map DeedQ.e4) := by
  rw [List.drop_eq_getElem_cons h]
  rfl
def askS (s q : Int) (t : TxnD) : Bool := t.session == s && t.seq == q
def askI (i : Int) (t : TxnD) : Bool := t.id == i

set_option maxHeartbeats 1000000 in
theorem askS_any (i s q : Int) (a : Option Addr) (n c : Nat) (xs : List ActD) (x y : Int) (b1 b2 : Nat) (w : World) (h1 : Blk w b1 2 #[.int .i64 x]) (h2 : Blk w b2 2 #[.int .i64 y]) :
    Calls Tryz.prog 97 #[.agg #[.int .i64 i, .int .i64 s, .int .i64 q, .slice a n c], .pointer (some ⟨b1, 0, none⟩), .pointer (some ⟨b2, 0, none⟩)] w fun e w' => e = .returned (.bool (askS x y ⟨i, s, q, xs⟩)) ∧ Below w.heap.size w w' := by
  have hB : Below w.heap.size w (w.alloc (.cells #[.int .i64 i, .int .i64 s, .int .i64 q, .slice a n c] 31)) := by go_grown
  have x1 := (h1.below hB).cell 0 _ rfl
  have x2 := (h2.below hB).cell 0 _ rfl
  unfold askS
  dsimp only
  cases e1 : (s == x)
  · go_enter Tryz.func97, Tryz.ntmps97
    go_wp2
    go_ret
    exact ⟨rfl, hB⟩
  · go_enter Tryz.func97, Tryz.ntmps97
    go_wp2
    go_ret
    exact ⟨rfl, hB⟩

set_option maxHeartbeats 1000000 in
theorem askI_any (i s q : Int) (a : Option Addr) (n c : Nat) (xs : List ActD) (x : Int) (b1 : Nat) (w : World) (h1 : Blk w b1 2 #[.int .i64 x]) :
    Calls Tryz.prog 95 #[.agg #[.int .i64 i, .int .i64 s, .int .i64 q, .slice a n c], .pointer (some ⟨b1, 0, none⟩)] w fun e w' => e = .returned (.bool (askI x ⟨i, s, q, xs⟩)) ∧ Below w.heap.size w w' := by
  have hB : Below w.heap.size w (w.alloc (.cells #[.int .i64 i, .int .i64 s, .int .i64 q, .slice a n c] 31)) := by go_grown
  have x1 := (h1.below hB).cell 0 _ rfl
  unfold askI
  dsimp only
  go_enter Tryz.func95, Tryz.ntmps95
  go_wp2
  go_ret
  exact ⟨rfl, hB⟩

set_option maxRecDepth 100000 in
set_option maxHeartbeats 4000000 in
theorem replyToN_any (w0 : World) (v iv : Value) (ds : List DeedQ) (x y : Int) (b1 b2 : Nat) (w : World) (h : (deedNK w0).At w v ds) (h1 : Blk w b1 2 #[.int .i64 x]) (h2 : Blk w b2 2 #[.int .i64 y]) (hl : ds.length ≤ 100) :
    Calls Tryz.prog 96 #[.agg #[v, iv], .func (.func 97) #[] #[.pointer (some ⟨b1, 0, none⟩), .pointer (some ⟨b2, 0, none⟩)]] w fun e w' => e = .returned (.agg #[.int .i64 (repL (askS x y) (ds.map DeedQ.e4)).1, .int .i64 (repL (askS x y) (ds.map DeedQ.e4)).2.1, .int .i64 (repL (askS x y) (ds.map DeedQ.e4)).2.2]) ∧ Below w.heap.size w w' := by
  obtain ⟨a, cap, rfl⟩ := h.shape
  have HZ : Hid (repL (askS x y) ((ds.drop 0).map DeedQ.e4) = repL (askS x y) (ds.map DeedQ.e4)) := by rw [List.drop_zero]; exact rfl
  generalize repL (askS x y) (ds.map DeedQ.e4) = E at *
  have hbX : Below w.heap.size w ((w.alloc (.cells #[.slice a ds.length cap, iv] 102)).alloc (.cells #[.int .i64 0, .int .i64 0, .int .i64 0] 60)) := by go_grown
  have BX0 := Blk.new w 102 #[.slice a ds.length cap, iv]
  have hbX2 : Below (w.alloc (.cells #[.slice a ds.length cap, iv] 102)).heap.size (w.alloc (.cells #[.slice a ds.length cap, iv] 102)) ((w.alloc (.cells #[.slice a ds.length cap, iv] 102)).alloc (.cells #[.int .i64 0, .int .i64 0, .int .i64 0] 60)) := by go_grown
  have BX := BX0.below hbX2
  have RB := Blk.new (w.alloc (.cells #[.slice a ds.length cap, iv] 102)) 60 #[.int .i64 0, .int .i64 0, .int .i64 0]
  simp only [World.size_alloc] at RB
  have hg : w.heap.size ≤ w.heap.size + 1 := by omega
  have x0 := BX.cell 0 _ rfl
  have hli : (ds.length : Int) ≤ 100 := by omega
  clear BX0 hbX2
  go_enter Tryz.func96, Tryz.ntmps96
  go_wp2
  clear x0 BX
  generalize (w.alloc (.cells #[.slice a ds.length cap, iv] 102)).alloc (.cells #[.int .i64 0, .int .i64 0, .int .i64 0] 60) = WX at *
  generalize hgg : w.heap.size + 1 = g at *
  clear hgg
  go_loopw [10] (fun j wr => ∃ k : Nat, k ≤ ds.length ∧ j = .int .i64 k ∧ Below w.heap.size w wr ∧ Blk wr g 60 #[.int .i64 0, .int .i64 0, .int .i64 0] ∧ Hid (repL (askS x y) ((ds.drop k).map DeedQ.e4) = E)) (fun j _ => ds.length - (intOf j).toNat)
  case atStart => exact ⟨0, Nat.zero_le _, rfl, hbX, RB, HZ⟩
  case round =>
    clear HZ hbX RB
    obtain ⟨k, hk, rfl, hb, RB, HA⟩ := hrel
    by_cases hlt : k < ds.length
    · obtain ⟨b, off, rfl, hbs, hc, hrd⟩ := (h.below hb).cell (by show 0 < 6; decide) k hlt
      have hc' : ∀ j x, ((deedNK w0).cells ds[k])[j]? = some x → wr.cell? ⟨b, off + k * 6 + j, none⟩ = some x := hc
      have c0 := hc' 0 (.int .i64 ds[k].i) rfl
      have c1 := hc' 1 (.int .i64 ds[k].s) rfl
      have c2 := hc' 2 (.int .i64 ds[k].q) rfl
      have c3 := hc' 3 (ds[k].va) rfl
      have c4 := hc' 4 (.int .i64 ds[k].code) rfl
      have c5 := hc' 5 (.int .i64 ds[k].val) rfl
      skip
      rw [Nat.add_zero] at c0
      have HY : Hid ((askS x y) (DeedQ.t ds[k]) = true → E = (0, ds[k].code, ds[k].val)) := fun hx => by rw [← HA.out, repL_at _ ds k hlt, if_pos hx]
      have HN : Hid ((askS x y) (DeedQ.t ds[k]) = false → repL (askS x y) ((ds.drop (k + 1)).map DeedQ.e4) = E) := fun hx => by rw [← HA.out, repL_at _ ds k hlt, if_neg (by simp [hx])]
      clear HA hc hc'
      generalize ds[k] = p at *
      obtain ⟨i, s, q, va, acts, code, val, lv, us⟩ := p
      replace hrd : actK.At w0 va acts := hrd
      skip
      obtain ⟨aa, ac, rfl⟩ := hrd.shape
      dsimp only [DeedQ.t] at c0 c1 c2 c3 c4 c5 HY HN
      have hbY : Below wr.heap.size wr (wr.alloc (.cells #[.int .i64 i, .int .i64 s, .int .i64 q, .slice aa acts.length ac, .int .i64 code, .int .i64 val] 215)) := by go_grown
      have BY := Blk.new wr 215 #[.int .i64 i, .int .i64 s, .int .i64 q, .slice aa acts.length ac, .int .i64 code, .int .i64 val]
      have hq := askS_any i s q aa acts.length ac acts x y b1 b2 _ ((h1.below hb).below hbY) ((h2.below hb).below hbY)
      generalize askS x y ⟨i, s, q, acts⟩ = S at *
      have hlti : (k : Int) < (ds.length : Int) := by omega
      replace RB := RB.below hbY
      replace hb := hb.trans (hbY.mono hb.size)
      have y0 := BY.cell 0 _ rfl
      have y1 := BY.cell 1 _ rfl
      have y2 := BY.cell 2 _ rfl
      have y3 := BY.cell 3 _ rfl
      clear hbY
      go_wp2_with fail
      clear c0 c1 c2 c3 c4 c5 y0 y1 y2 y3
      generalize wr.alloc (.cells #[.int .i64 i, .int .i64 s, .int .i64 q, .slice aa acts.length ac, .int .i64 code, .int .i64 val] 215) = Y at *
      refine hq.mono ?_
      rintro e w2 ⟨rfl, hb2⟩
      replace hb := hb.trans (hb2.mono hb.size)
      replace RB := RB.below hb2
      replace BY := BY.below hb2
      clear hq hb2 hrd hbs
      cases S with
      | true =>
        have E1 : Hid (E = (0, code, val)) := HY.out rfl
        clear HY HN
        have y4 := BY.cell 4 _ rfl
        have y5 := BY.cell 5 _ rfl
        have r0 := RB.cell 0 _ rfl
        have r1 := RB.cell 1 _ rfl
        have r2 := RB.cell 2 _ rfl
        have f0 := RB.frozen 0
        have f1 := RB.frozen 1
        have f2 := RB.frozen 2
        go_wp2
        exact bodyPost_ret (v := .agg #[.int .i64 0, .int .i64 code, .int .i64 val]) (by simp [results, Tryz.results96, go_sem, r0, r1, r2]) rfl ⟨by rw [E1.out], ((hb.setCell (p := ⟨g, 0, none⟩) hg _).setCell (p := ⟨g, 1, none⟩) hg _).setCell (p := ⟨g, 2, none⟩) hg _⟩
      | false =>
        have HR' : Hid _ := HN.out rfl
        clear HY HN BY
        go_wp2
        go_roundw
        case rel => exact ⟨k + 1, by omega, by go_num, hb, RB, HR'⟩
        case measure => simp [intOf]; omega
    · have E1 : Hid (E = (4, 0, 0)) := by
        show E = _
        rw [← HA.out, List.drop_eq_nil_of_le (by omega)]
        rfl
      have hlti : ¬ (k : Int) < (ds.length : Int) := by omega
      clear HA
      have r0 := RB.cell 0 _ rfl
      have r1 := RB.cell 1 _ rfl
      have r2 := RB.cell 2 _ rfl
      have f0 := RB.frozen 0
      have f1 := RB.frozen 1
      have f2 := RB.frozen 2
      go_wp2
      exact bodyPost_ret (v := .agg #[.int .i64 4, .int .i64 0, .int .i64 0]) (by simp [results, Tryz.results96, go_sem, r0, r1, r2]) rfl ⟨by rw [E1.out], ((hb.setCell (p := ⟨g, 0, none⟩) hg _).setCell (p := ⟨g, 1, none⟩) hg _).setCell (p := ⟨g, 2, none⟩) hg _⟩

set_option maxRecDepth 100000 in
set_option maxHeartbeats 4000000 in
theorem replyToU_any (w0 : World) (v iv : Value) (ds : List DeedQ) (x : Int) (b1 : Nat) (w : World) (h : (deedUK w0).At w v ds) (h1 : Blk w b1 2 #[.int .i64 x]) (hl : ds.length ≤ 100) :
    Calls Tryz.prog 94 #[.agg #[v, iv], .func (.func 95) #[] #[.pointer (some ⟨b1, 0, none⟩)]] w fun e w' => e = .returned (.agg #[.int .i64 (repL (askI x) (ds.map DeedQ.e4)).1, .int .i64 (repL (askI x) (ds.map DeedQ.e4)).2.1, .int .i64 (repL (askI x) (ds.map DeedQ.e4)).2.2]) ∧ Below w.heap.size w w' := by
  obtain ⟨a, cap, rfl⟩ := h.shape
  have HZ : Hid (repL (askI x) ((ds.drop 0).map DeedQ.e4) = repL (askI x) (ds.map DeedQ.e4)) := by rw [List.drop_zero]; exact rfl
  generalize repL (askI x) (ds.map DeedQ.e4) = E at *
  have hbX : Below w.heap.size w ((w.alloc (.cells #[.slice a ds.length cap, iv] 105)).alloc (.cells #[.int .i64 0, .int .i64 0, .int .i64 0] 60)) := by go_grown
  have BX0 := Blk.new w 105 #[.slice a ds.length cap, iv]
  have hbX2 : Below (w.alloc (.cells #[.slice a ds.length cap, iv] 105)).heap.size (w.alloc (.cells #[.slice a ds.length cap, iv] 105)) ((w.alloc (.cells #[.slice a ds.length cap, iv] 105)).alloc (.cells #[.int .i64 0, .int .i64 0, .int .i64 0] 60)) := by go_grown
  have BX := BX0.below hbX2
  have RB := Blk.new (w.alloc (.cells #[.slice a ds.length cap, iv] 105)) 60 #[.int .i64 0, .int .i64 0, .int .i64 0]
  simp only [World.size_alloc] at RB
  have hg : w.heap.size ≤ w.heap.size + 1 := by omega
  have x0 := BX.cell 0 _ rfl
  have hli : (ds.length : Int) ≤ 100 := by omega
  clear BX0 hbX2
  go_enter Tryz.func94, Tryz.ntmps94
  go_wp2
  clear x0 BX
  generalize (w.alloc (.cells #[.slice a ds.length cap, iv] 105)).alloc (.cells #[.int .i64 0, .int .i64 0, .int .i64 0] 60) = WX at *
  generalize hgg : w.heap.size + 1 = g at *
  clear hgg
  go_loopw [10] (fun j wr => ∃ k : Nat, k ≤ ds.length ∧ j = .int .i64 k ∧ Below w.heap.size w wr ∧ Blk wr g 60 #[.int .i64 0, .int .i64 0, .int .i64 0] ∧ Hid (repL (askI x) ((ds.drop k).map DeedQ.e4) = E)) (fun j _ => ds.length - (intOf j).toNat)
  case atStart => exact ⟨0, Nat.zero_le _, rfl, hbX, RB, HZ⟩
  case round =>
    clear HZ hbX RB
    obtain ⟨k, hk, rfl, hb, RB, HA⟩ := hrel
    by_cases hlt : k < ds.length
    · obtain ⟨b, off, rfl, hbs, hc, hrd⟩ := (h.below hb).cell (by show 0 < 7; decide) k hlt
      have hc' : ∀ j x, ((deedUK w0).cells ds[k])[j]? = some x → wr.cell? ⟨b, off + k * 7 + j, none⟩ = some x := hc
      have c0 := hc' 0 (.int .i64 ds[k].i) rfl
      have c1 := hc' 1 (.int .i64 ds[k].s) rfl
      have c2 := hc' 2 (.int .i64 ds[k].q) rfl
      have c3 := hc' 3 (ds[k].va) rfl
      have c4 := hc' 4 (.int .i64 ds[k].code) rfl
      have c5 := hc' 5 (.int .i64 ds[k].val) rfl
      have c6 := hc' 6 (ds[k].lv) rfl
      rw [Nat.add_zero] at c0
      have HY : Hid ((askI x) (DeedQ.t ds[k]) = true → E = (0, ds[k].code, ds[k].val)) := fun hx => by rw [← HA.out, repL_at _ ds k hlt, if_pos hx]
      have HN : Hid ((askI x) (DeedQ.t ds[k]) = false → repL (askI x) ((ds.drop (k + 1)).map DeedQ.e4) = E) := fun hx => by rw [← HA.out, repL_at _ ds k hlt, if_neg (by simp [hx])]
      clear HA hc hc'
      generalize ds[k] = p at *
      obtain ⟨i, s, q, va, acts, code, val, lv, us⟩ := p
      obtain ⟨hrd, hrl⟩ : actK.At w0 va acts ∧ undoK.At wr lv us := hrd
      obtain ⟨la, lc, rfl⟩ := hrl.shape
      obtain ⟨aa, ac, rfl⟩ := hrd.shape
      dsimp only [DeedQ.t] at c0 c1 c2 c3 c4 c5 HY HN
      have hbY : Below wr.heap.size wr (wr.alloc (.cells #[.int .i64 i, .int .i64 s, .int .i64 q, .slice aa acts.length ac, .int .i64 code, .int .i64 val, .slice la us.length lc] 112)) := by go_grown
      have BY := Blk.new wr 112 #[.int .i64 i, .int .i64 s, .int .i64 q, .slice aa acts.length ac, .int .i64 code, .int .i64 val, .slice la us.length lc]
      have hq := askI_any i s q aa acts.length ac acts x b1 _ ((h1.below hb).below hbY)
      generalize askI x ⟨i, s, q, acts⟩ = S at *
      have hlti : (k : Int) < (ds.length : Int) := by omega
      replace RB := RB.below hbY
      replace hb := hb.trans (hbY.mono hb.size)
      have y0 := BY.cell 0 _ rfl
      have y1 := BY.cell 1 _ rfl
      have y2 := BY.cell 2 _ rfl
      have y3 := BY.cell 3 _ rfl
      clear hbY
      go_wp2_with fail
      clear c0 c1 c2 c3 c4 c5 c6 y0 y1 y2 y3
      generalize wr.alloc (.cells #[.int .i64 i, .int .i64 s, .int .i64 q, .slice aa acts.length ac, .int .i64 code, .int .i64 val, .slice la us.length lc] 112) = Y at *
      refine hq.mono ?_
      rintro e w2 ⟨rfl, hb2⟩
      replace hb := hb.trans (hb2.mono hb.size)
      replace RB := RB.below hb2
      replace BY := BY.below hb2
      clear hq hb2 hrd hbs
      cases S with
      | true =>
        have E1 : Hid (E = (0, code, val)) := HY.out rfl
        clear HY HN
        have y4 := BY.cell 4 _ rfl
        have y5 := BY.cell 5 _ rfl
        have r0 := RB.cell 0 _ rfl
        have r1 := RB.cell 1 _ rfl
        have r2 := RB.cell 2 _ rfl
        have f0 := RB.frozen 0
        have f1 := RB.frozen 1
        have f2 := RB.frozen 2
        go_wp2
        exact bodyPost_ret (v := .agg #[.int .i64 0, .int .i64 code, .int .i64 val]) (by simp [results, Tryz.results94, go_sem, r0, r1, r2]) rfl ⟨by rw [E1.out], ((hb.setCell (p := ⟨g, 0, none⟩) hg _).setCell (p := ⟨g, 1, none⟩) hg _).setCell (p := ⟨g, 2, none⟩) hg _⟩
      | false =>
        have HR' : Hid _ := HN.out rfl
        clear HY HN BY
        go_wp2
        go_roundw
        case rel => exact ⟨k + 1, by omega, by go_num, hb, RB, HR'⟩
        case measure => simp [intOf]; omega
    · have E1 : Hid (E = (4, 0, 0)) := by
        show E = _
        rw [← HA.out, List.drop_eq_nil_of_le (by omega)]
        rfl
      have hlti : ¬ (k : Int) < (ds.length : Int) := by omega
      clear HA
      have r0 := RB.cell 0 _ rfl
      have r1 := RB.cell 1 _ rfl
      have r2 := RB.cell 2 _ rfl
      have f0 := RB.frozen 0
      have f1 := RB.frozen 1
      have f2 := RB.frozen 2
      go_wp2
      exact bodyPost_ret (v := .agg #[.int .i64 4, .int .i64 0, .int .i64 0]) (by simp [results, Tryz.results94, go_sem, r0, r1, r2]) rfl ⟨by rw [E1.out], ((hb.setCell (p := ⟨g, 0, none⟩) hg _).setCell (p := ⟨g, 1, none⟩) hg _).setCell (p := ⟨g, 2, none⟩) hg _⟩

end Go.Proofs.YthmcgflmejofbaaGreatDoor
