/- A board as plain cells: how many rounds there are, the votes of four rounds, whether there is a batch, the batch, what was decided. -/
import Derived.Test.YtmlkfmjenkcflaaGreatDoorS6
import Derived.Test.YtmlkfmjenkcflaaGreatDoorGG
import Derived.Laws.Rows
import Derived.Laws.Tables
import Derived.Deep.MidRow
import Derived.Test.YtmlkfmjenkcflaaGreatDoorGF
namespace Go.Proofs.YtmlkfmjenkcflaaGreatDoor
open Go.RowKit
open Go.BigFrame
set_option linter.unusedVariables false
set_option maxRecDepth 100000
set_option linter.unusedSimpArgs false

abbrev iv (n : Int) : Value := .int .i64 n
/-- Each row has three votes. -/
def Wel (rs : List RoundE) : Prop := ∀ r ∈ rs, r.rep.length = 3 ∧ r.pro.length = 3
def rowC (r : RoundE) : List Value := (r.rep ++ r.pro).map iv
def rowsV (rs : List RoundE) : List Value := rs.flatMap rowC
def rndC (rs : List RoundE) : List Value := iv rs.length :: (rowsV rs ++ List.replicate (24 - 6 * rs.length) (iv 0))
def brdC (has : Bool) (vb : Value) (rs : List RoundE) (dec : List Int) : List Value := rndC rs ++ ([.bool has, vb] ++ dec.map iv)

theorem rowC_length {r : RoundE} (h : r.rep.length = 3 ∧ r.pro.length = 3) : (rowC r).length = 6 := by simp [rowC, h.1, h.2]
theorem rowsV_length {rs : List RoundE} (h : Wel rs) : (rowsV rs).length = rs.length * 6 := by
  induction rs with
  | nil => rfl
  | cons r t ih =>
    have h1 := ih (fun x hx => h x (List.mem_cons_of_mem _ hx))
    have h2 := rowC_length (h r (by simp))
    simp only [rowsV, List.flatMap_cons, List.length_append, List.length_cons] at h1 ⊢
    omega
theorem rndC_length {rs : List RoundE} (h : Wel rs) (h4 : rs.length ≤ 4) : (rndC rs).length = 25 := by
  have := rowsV_length h
  simp only [rndC, List.length_cons, List.length_append, List.length_replicate]
  omega
theorem brdC_length {has : Bool} {vb : Value} {rs : List RoundE} {dec : List Int} (h : Wel rs) (h4 : rs.length ≤ 4) (hd : dec.length = 3) : (brdC has vb rs dec).length = 30 := by
  have := rndC_length h h4
  simp only [brdC, List.length_append, List.length_cons, List.length_nil, List.length_map]
  omega
theorem rowsV_get {rs : List RoundE} (h : Wel rs) (r : Nat) (hr : r < rs.length) (j : Nat) (hj : j < 6) : (rowsV rs)[r * 6 + j]? = (rowC (rs.getD r rnd0))[j]? := by
  induction rs generalizing r with
  | nil => simp at hr
  | cons q t ih =>
    have hq := rowC_length (h q (by simp))
    simp only [rowsV, List.flatMap_cons]
    cases r with
    | zero =>
      rw [List.getElem?_append_left (by omega)]
      simp
    | succ r =>
      rw [List.getElem?_append_right (by omega), hq, show (r + 1) * 6 + j - 6 = r * 6 + j by omega]
      have := ih (fun x hx => h x (List.mem_cons_of_mem _ hx)) r (by simpa using hr)
      simpa [rowsV] using this
theorem wel_at {rs : List RoundE} (h : Wel rs) (r : Nat) (hr : r < rs.length) : (rs.getD r rnd0).rep.length = 3 ∧ (rs.getD r rnd0).pro.length = 3 := by
  have e : rs.getD r rnd0 = rs[r] := by simp [List.getD, hr]
  rw [e]
  exact h _ (List.getElem_mem hr)
theorem rowC_rep {q : RoundE} (h : q.rep.length = 3 ∧ q.pro.length = 3) (n : Nat) (hn : n < 3) : (rowC q)[n]? = some (iv (q.rep.getD n 0)) := by
  unfold rowC
  rw [List.getElem?_map, List.getElem?_append_left (by omega), List.getElem?_eq_getElem (by omega)]
  simp [List.getD, show n < q.rep.length by omega]
theorem rowC_pro {q : RoundE} (h : q.rep.length = 3 ∧ q.pro.length = 3) (n : Nat) (hn : n < 3) : (rowC q)[3 + n]? = some (iv (q.pro.getD n 0)) := by
  unfold rowC
  rw [List.getElem?_map, List.getElem?_append_right (by omega), h.1, show 3 + n - 3 = n by omega, List.getElem?_eq_getElem (by omega)]
  simp [List.getD, show n < q.pro.length by omega]
theorem rnd_cnt (rs : List RoundE) : (rndC rs)[0]? = some (iv rs.length) := rfl
theorem rnd_in {rs : List RoundE} (h : Wel rs) (r : Nat) (hr : r < rs.length) (j : Nat) (hj : j < 6) : (rndC rs)[1 + r * 6 + j]? = (rowC (rs.getD r rnd0))[j]? := by
  have hl := rowsV_length h
  unfold rndC
  rw [show 1 + r * 6 + j = (r * 6 + j) + 1 by omega, List.getElem?_cons_succ, List.getElem?_append_left (by omega), rowsV_get h r hr j hj]
theorem rnd_rep {rs : List RoundE} (h : Wel rs) (r : Nat) (hr : r < rs.length) (n : Nat) (hn : n < 3) : (rndC rs)[1 + r * 6 + n]? = some (iv (repA rs r n)) := by
  rw [rnd_in h r hr n (by omega), rowC_rep (wel_at h r hr) n hn]; rfl
theorem rnd_pro {rs : List RoundE} (h : Wel rs) (r : Nat) (hr : r < rs.length) (n : Nat) (hn : n < 3) : (rndC rs)[1 + r * 6 + 3 + n]? = some (iv (proA rs r n)) := by
  rw [show 1 + r * 6 + 3 + n = 1 + r * 6 + (3 + n) by omega, rnd_in h r hr (3 + n) (by omega), rowC_pro (wel_at h r hr) n hn]; rfl
theorem brd_rnd {has : Bool} {vb : Value} {rs : List RoundE} {dec : List Int} (h : Wel rs) (h4 : rs.length ≤ 4) (j : Nat) (hj : j < 25) : (brdC has vb rs dec)[j]? = (rndC rs)[j]? := by
  have := rndC_length h h4
  unfold brdC
  rw [List.getElem?_append_left (by omega)]
theorem brd_has {has : Bool} {vb : Value} {rs : List RoundE} {dec : List Int} (h : Wel rs) (h4 : rs.length ≤ 4) : (brdC has vb rs dec)[25]? = some (.bool has) := by
  have := rndC_length h h4
  unfold brdC
  rw [List.getElem?_append_right (by omega), this]; rfl
theorem brd_bat {has : Bool} {vb : Value} {rs : List RoundE} {dec : List Int} (h : Wel rs) (h4 : rs.length ≤ 4) : (brdC has vb rs dec)[26]? = some vb := by
  have := rndC_length h h4
  unfold brdC
  rw [List.getElem?_append_right (by omega), this]; rfl
theorem brd_dec {has : Bool} {vb : Value} {rs : List RoundE} {dec : List Int} (h : Wel rs) (h4 : rs.length ≤ 4) (hd : dec.length = 3) (n : Nat) (hn : n < 3) : (brdC has vb rs dec)[27 + n]? = some (iv (dec.getD n 0)) := by
  have := rndC_length h h4
  unfold brdC
  rw [List.getElem?_append_right (by omega), this, show 27 + n - 25 = n + 2 by omega]
  simp [List.getD, show n < dec.length by omega]

end Go.Proofs.YtmlkfmjenkcflaaGreatDoor

/- The small methods of a board. -/
namespace Go.Proofs.YtmlkfmjenkcflaaGreatDoor
open Go.RowKit
open Go.BigFrame
set_option linter.unusedVariables false
set_option maxRecDepth 100000
set_option linter.unusedSimpArgs false

theorem sz_rounds : (Tryz.prog.info? 74).map (·.size) = some 25 := by kernel_rfl
theorem sz_board : (Tryz.prog.info? 76).map (·.size) = some 30 := by kernel_rfl
theorem sz_row : (Tryz.prog.info? 69).map (·.size) = some 3 := by kernel_rfl
theorem sz_rows : (Tryz.prog.info? 71).map (·.size) = some 6 := by kernel_rfl

/-- Cells that lie in a block from o on. -/
theorem rng {w : World} {b o : Nat} {t : TypeId} {cs : Array Value} (hB : Blk w b t cs) (L : List Value) (h : ∀ j v, L[j]? = some v → cs[o + j]? = some v) : w.rangeAt b o L := fun j v hv => hB.cell (o + j) v (h j v hv)
theorem ld_at {w : World} {b o : Nat} (L : List Value) (ty : TypeId) (d : TypeDesc) (hr : w.rangeAt b o L) (hlt : b < w.heap.size) (hu : Tryz.prog.underlying ty = some d) (hd : d.isRow = true) (hi : (Tryz.prog.info? ty).map (·.size) = some L.length) :
    ∀ u : Lat w, (Instr.loadAt ty (.pointer (some ⟨b, o, none⟩))).run Tryz.prog u.val = .ok (.agg L.toArray) u.val := fun u => by
  refine run_loadAt_mid u.val b o ty L d (fun j v hv => ?_) hu hd hi
  rw [u.isBelow.cell (p := ⟨b, o + j, none⟩) hlt]
  exact hr j v hv

section
variable {ops : Array Oper} {rest : List Oper} {op : Oper} {a : Act} {w : World} {Q : Exit → Act → World → Prop}
/-- A load of many cells, its guard holds. -/
theorem ld_g (hw : Region.wanted op (yielded ops a.tmps) = true) (ty : TypeId) (x : Operand) (ho : op.op = .load ty x)
    (b o : Nat) (hx : a.eval x = .pointer (some ⟨b, o, none⟩)) (cs : List Value) (d : TypeDesc) (hc : w.rangeAt b o cs)
    (hu : Tryz.prog.underlying ty = some d) (hd : d.isRow = true) (hi : (Tryz.prog.info? ty).map (·.size) = some cs.length)
    (h : wpList Tryz.prog ops Q rest (a.put op.dst (.agg cs.toArray)) w) : wpList Tryz.prog ops Q (op :: rest) a w := by
  simp only [wpList]
  rw [if_pos hw]
  exact Or.inl (wp_load_mid ty x ho b o hx cs d hc hu hd hi h)
/-- A store of many cells, its guard holds. -/
theorem st_g (hw : Region.wanted op (yielded ops a.tmps) = true) (ty : TypeId) (x y : Operand) (ho : op.op = .store ty x y)
    (b o : Nat) (cells : Array Value) (hx : a.eval x = .pointer (some ⟨b, o, none⟩)) (hy : a.eval y = .agg cells)
    (ht : w.there b o cells.size) (hi : (Tryz.prog.info? ty).map (·.size) = some cells.size) (h1 : cells.all (·.oneCell') = true)
    (h : wpList Tryz.prog ops Q rest (a.put op.dst undef) (w.setCells b o cells.toList)) : wpList Tryz.prog ops Q (op :: rest) a w := by
  simp only [wpList]
  rw [if_pos hw]
  exact Or.inl (wp_store_mid ty x y ho b o cells hx hy ht hi h1 h)
end

set_option maxHeartbeats 1000000 in
theorem hasProp_any (rs : List RoundE) (r n : Nat) (w : World) (h : Wel rs) (h4 : rs.length ≤ 4) (hr : r < rs.length) (hn : n < 3) :
    Calls Tryz.prog 71 #[.agg (rndC rs).toArray, .int .i64 (r : Int), .int .i64 (n : Int)] w fun e w' => e = .returned (.bool (proA rs r n != 3)) ∧ Below w.heap.size w w' := by
  have hp := rnd_pro h r hr n hn
  have hl := rndC_length h h4
  generalize proA rs r n = P at *
  generalize rndC rs = cs at *
  have hr4 : (r : Int) < 4 := by omega
  have hn3 : (n : Int) < 3 := by omega
  go_enter Tryz.func71, Tryz.ntmps71
  go_wp2
  go_ret
  exact ⟨rfl, by go_grown⟩

set_option maxHeartbeats 1000000 in
theorem hasReport_any (rs : List RoundE) (r n : Nat) (w : World) (h : Wel rs) (h4 : rs.length ≤ 4) (hn : n < 3) :
    Calls Tryz.prog 74 #[.agg (rndC rs).toArray, .int .i64 (r : Int), .int .i64 (n : Int)] w fun e w' => e = .returned (.bool (decide (r < rs.length) && (repA rs r n != 3))) ∧ Below w.heap.size w w' := by
  have hc := rnd_cnt rs
  have hn3 : (n : Int) < 3 := by omega
  by_cases hr : r < rs.length
  · have hp := rnd_rep h r hr n hn
    have hr4 : (r : Int) < 4 := by omega
    have hd : decide (r < rs.length) = true := decide_eq_true hr
    rw [hd, Bool.true_and]
    generalize repA rs r n = P at *
    generalize rs.length = c at *
    generalize rndC rs = cs at *
    clear hd
    go_enter Tryz.func74, Tryz.ntmps74
    go_wp2
    go_ret
    exact ⟨rfl, by go_grown⟩
  · have hd : decide (r < rs.length) = false := decide_eq_false hr
    rw [hd, Bool.false_and]
    generalize rs.length = c at *
    generalize rndC rs = cs at *
    clear hd
    go_enter Tryz.func74, Tryz.ntmps74
    go_wp2
    go_ret
    exact ⟨rfl, by go_grown⟩

theorem infoI6 : (Tryz.prog.info? 2).map (fun i => (i.zero, i.size, i.bytes)) = some (some (.int .i64 0), 1, 8) := by kernel_rfl

set_option maxHeartbeats 1000000 in
theorem cloneI_any (b off cap : Nat) (zs : List Int) (w : World) (h : Row .i64 w (some ⟨b, off, none⟩) zs) (h0 : 0 < zs.length) (hl : zs.length ≤ 1048576) :
    Calls Tryz.prog 83 #[.slice (some ⟨b, off, none⟩) zs.length cap] w fun e w' => ∃ a c, e = .returned (.slice a zs.length c) ∧
      w'.ownsRow w.heap.size 2 1 (.slice a zs.length c) zs.length (zs.map iv) ∧ Below w.heap.size w w' := by
  obtain ⟨i0, hi, hz0, hz1, hz2⟩ := info_parts infoI6
  have hs := lies_src (Lies.below (lies_of_row h) (w' := w.alloc (.cells #[] 2)) (by go_grown))
  have hcl : (zs.map iv).length = zs.length * 1 := by simp
  have ho := World.ownsRow_lit (e := 2) (size := 1) w #[] 0 (Nat.le_refl _) (by decide) rfl
  have HS : Hid (∀ j u, (zs.map iv)[j]? = some u → _) := hs
  clear hs
  have hnil : ∀ w, (binOp .eql 24 (.slice (some ⟨b, off, none⟩) zs.length cap) (.slice none 0 0)).run Tryz.prog w = .ok (.bool false) w := fun w => by first | rfl | kernel_rfl | (simp only [binOp]; simp [Op.equal, Op.maxDepth, Op.equalIn, run_underlying Tryz.underlying24])
  go_enter Tryz.func83, Tryz.ntmps83
  go_wp2_with (at_builtin; refine wpList_append_own _ rfl _ _ 24 rfl w.heap.size 2 i0 (.int .i64 0) 1 8 Tryz.underlying24 hi hz0 hz1 hz2 rfl (by decide) _ 0 [] rfl ho ⟨b, off, none⟩ zs.length cap (zs.map iv) rfl hcl HS.out ?c2 ?c3 ?c4 ?c5 ?_)
  all_goals try (case c2 => first | (intro u hu; obtain ⟨z, _, rfl⟩ := List.mem_map.1 hu; rfl) | (intro u hu; rfl))
  all_goals try (case c3 => unfold maxLen; omega)
  all_goals try (case c4 => omega)
  all_goals try (case c5 => simp)
  intro v' w2 hown hgrow _
  obtain ⟨a2, c2, rfl⟩ := own_shape hown
  have hb2 : Below w.heap.size w w2 := ((Below.refl _ _).alloc (Nat.le_refl _) _).grown hgrow (by simp) (fun k hk => by simp [Value.ownBlock] at hk; omega)
  try simp only [Nat.zero_add] at hown
  clear hgrow HS ho
  go_wp2
  go_ret
  exact ⟨a2, c2, rfl, by simpa using hown, hb2⟩

/-- A row of votes as a list of its own. -/
theorem list_own {w' : World} {base n c : Nat} {a : Option Addr} {zs : List Int} (hn : n = zs.length) (h : w'.ownsRow base 2 1 (.slice a n c) n (zs.map iv)) : intK.Own w' (.slice a n c) zs ∧ (∀ k ∈ intK.fp (.slice a n c) zs, base ≤ k) := by
  subst hn
  obtain ⟨o, hk⟩ := own_zero h
  refine ⟨⟨by rw [intK_row]; exact o, fun _ _ => trivial⟩, ?_⟩
  rw [intK_fp]
  exact hk

set_option maxHeartbeats 1000000 in
theorem list_any (zs : List Int) (w : World) (h3 : zs.length = 3) :
    Calls Tryz.prog 73 #[.agg (zs.map iv).toArray] w fun e w' => ∃ a c, e = .returned (.slice a 3 c) ∧ intK.Own w' (.slice a 3 c) zs ∧ (∀ k ∈ intK.fp (.slice a 3 c) zs, w.heap.size ≤ k) ∧ Row .i64 w' a zs ∧ Below w.heap.size w w' := by
  have hB : Below w.heap.size w (w.alloc (.cells (zs.map iv).toArray 69)) := by go_grown
  have hR : Row .i64 (w.alloc (.cells (zs.map iv).toArray 69)) (some ⟨w.heap.size, 0, none⟩) zs := by
    intro i hi
    refine ⟨_, _, rfl, by simp, ?_⟩
    have := (Blk.new w 69 (zs.map iv).toArray).cell i (iv (zs.getD i 0)) (by simp [List.getD, hi])
    rw [Nat.zero_add]
    exact this
  have hcl := cloneI_any w.heap.size 0 3 zs _ hR (by omega) (by omega)
  rw [h3] at hcl
  go_enter Tryz.func73, Tryz.ntmps73
  go_wp2_with fail
  refine hcl.mono ?_
  rintro e w2 ⟨a, c, rfl, ho, hb⟩
  obtain ⟨O, G⟩ := list_own h3.symm ho
  have hRR := Row.own ho
  have G2 : Hid (∀ k ∈ intK.fp (.slice a 3 c) zs, w.heap.size ≤ k) := fun k hk => Nat.le_trans (by simp) (G k hk)
  replace hB := hB.trans (hb.mono hB.size)
  clear hcl ho hb G
  go_wp2
  go_ret
  exact ⟨a, c, rfl, O, G2.out, hRR, hB⟩

end Go.Proofs.YtmlkfmjenkcflaaGreatDoor

/- Whether all that was said on a board was said by the rules. -/
namespace Go.Proofs.YtmlkfmjenkcflaaGreatDoor
open Go.RowKit
open Go.BigFrame
set_option linter.unusedVariables false
set_option maxRecDepth 100000
set_option linter.unusedSimpArgs false

section
variable {has : Bool} {vb : Value} {rs : List RoundE} {dec : List Int} {w : World} {b : Nat} {t : TypeId}
/-- The parts of a block that holds a board. -/
theorem brd_rounds (h : Wel rs) (h4 : rs.length ≤ 4) (hB : Blk w b t (brdC has vb rs dec).toArray) : w.rangeAt b 0 (rndC rs) := rng hB _ (fun j v hv => by
  have hj := (List.getElem?_eq_some_iff.1 hv).1
  rw [rndC_length h h4] at hj
  rw [Nat.zero_add, List.getElem?_toArray, brd_rnd h h4 j hj]
  exact hv)
theorem row_get {zs : List Int} (hl : zs.length = 3) {j : Nat} {v : Value} (hv : (zs.map iv)[j]? = some v) : j < 3 ∧ v = iv (zs.getD j 0) := by
  have hj : j < zs.length := by have := (List.getElem?_eq_some_iff.1 hv).1; simpa using this
  refine ⟨by omega, ?_⟩
  rw [List.getElem?_map, List.getElem?_eq_getElem hj] at hv
  simp only [Option.map_some, Option.some.injEq] at hv
  rw [← hv]
  simp [List.getD, hj]
theorem rnd_prow (h : Wel rs) (r : Nat) (hr : r < rs.length) : ∀ j v, ((rs.getD r rnd0).pro.map iv)[j]? = some v → (rndC rs)[1 + r * 6 + 3 + j]? = some v := by
  intro j v hv
  obtain ⟨hj, rfl⟩ := row_get (wel_at h r hr).2 hv
  exact rnd_pro h r hr j hj
theorem rnd_rrow (h : Wel rs) (r : Nat) (hr : r < rs.length) : ∀ j v, ((rs.getD r rnd0).rep.map iv)[j]? = some v → (rndC rs)[1 + r * 6 + j]? = some v := by
  intro j v hv
  obtain ⟨hj, rfl⟩ := row_get (wel_at h r hr).1 hv
  exact rnd_rep h r hr j hj
theorem brd_prow (h : Wel rs) (h4 : rs.length ≤ 4) (r : Nat) (hr : r < rs.length) (hB : Blk w b t (brdC has vb rs dec).toArray) : w.rangeAt b (1 + r * 6 + 3) ((rs.getD r rnd0).pro.map iv) := rng hB _ (fun j v hv => by
  have h1 := rnd_prow h r hr j v hv
  have hj := (List.getElem?_eq_some_iff.1 h1).1
  rw [rndC_length h h4] at hj
  rw [List.getElem?_toArray, brd_rnd h h4 _ hj]
  exact h1)
end

set_option maxHeartbeats 2000000 in
theorem isReportRight_any (has : Bool) (vb : Value) (rs : List RoundE) (dec : List Int) (r n : Nat) (w : World) (hG : Rul w) (h : Wel rs) (h4 : rs.length ≤ 4) (hd : dec.length = 3) (hr : r < rs.length) (hn : n < 3) :
    Calls Tryz.prog 59 #[.agg (brdC has vb rs dec).toArray, .int .i64 (r : Int), .int .i64 (n : Int)] w fun e w' => e = .returned (.bool (repI has rs r n)) ∧ Below w.heap.size w w' := by
  have hB := Blk.new w 76 (brdC has vb rs dec).toArray
  have hb0 : Below w.heap.size w (w.alloc (.cells (brdC has vb rs dec).toArray 76)) := by go_grown
  have c1 : (brdC has vb rs dec)[1 + r * 6 + n]? = some (iv (repA rs r n)) := by
    have h1 := rnd_rep h r hr n hn
    rw [brd_rnd h h4 _ (by omega)]
    exact h1
  have c2 := brd_has (has := has) (vb := vb) (dec := dec) h h4
  generalize hE : repI has rs r n = E
  have HE : Hid (E = if repA rs r n = 1 ∧ has = false then false else if repA rs r n = 3 ∨ r = 0 then true else befR rs r n) := hE.symm
  clear hE
  have hr4 : (r : Int) < 4 := by omega
  have hn3 : (n : Int) < 3 := by omega
  by_cases h1 : repA rs r n = 1
  · cases has with
    | false =>
      have E2 : Hid (E = false) := by rw [HE.out, if_pos ⟨h1, rfl⟩]; rfl
      rw [h1] at c1
      clear HE hB h1
      generalize brdC false vb rs dec = cs at *
      go_enter Tryz.func59, Tryz.ntmps59
      go_wp2
      go_ret
      exact ⟨by rw [E2.out]; rfl, hb0⟩
    | true =>
      have HE2 : Hid (E = if repA rs r n = 3 ∨ r = 0 then true else befR rs r n) := by
        have := HE.out
        rw [if_neg (by simp)] at this
        exact this
      rw [h1] at c1
      obtain ⟨R, hRR⟩ : ∃ R : Int, R = 1 := ⟨1, rfl⟩
      have HRR : Hid (R = repA rs r n) := hRR.trans h1.symm
      have hR3 : (R == 3) = false := by rw [hRR]; rfl
      have hR1 : (R == 1) = true := by rw [hRR]; rfl
      rw [← hRR] at c1
      have hRn : ¬ R = 3 := by omega
      clear HE h1 hRR
      by_cases hr0 : r = 0
      · have E2 : Hid (E = true) := by rw [HE2.out, if_pos (Or.inr hr0)]; rfl
        subst hr0
        simp only [Nat.zero_mul, Nat.add_zero, Nat.zero_add] at c1
        clear HE2 HRR
        generalize brdC true vb rs dec = cs at *
        go_enter Tryz.func59, Tryz.ntmps59
        go_wp2
        go_ret
        exact ⟨by rw [E2.out]; rfl, hb0⟩
      · obtain ⟨s, rfl⟩ : ∃ s, r = s + 1 := ⟨r - 1, by omega⟩
        have HS : Hid (E = ((proA rs s n != 3) && mayR (rs.getD s rnd0).pro R)) := by rw [HE2.out, if_neg (by rw [← HRR.out]; omega), HRR.out]; exact (rfl : _ = _)
        have hs : s < rs.length := by omega
        have hpr := fun w => hasProp_any rs s n w h h4 hs hn
        have hrg := brd_rounds h h4 hB
        have hsz1 : (Tryz.prog.info? 74).map (·.size) = some (rndC rs).length := by rw [rndC_length h h4]; exact sz_rounds
        have hwl := wel_at h s hs
        have hls := list_any (rs.getD s rnd0).pro
        have hlt := hB.lt
        have hr0' : ¬ ((s : Int) + 1 = 0) := by omega
        have hrg2 := brd_prow h h4 s hs hB
        have hsz2 : (Tryz.prog.info? 69).map (·.size) = some ((rs.getD s rnd0).pro.map iv).length := by rw [List.length_map, hwl.2]; exact sz_row
        have hq3 := hwl.2
        clear HE2 HRR
        generalize (rs.getD s rnd0).pro = qp at *
        generalize proA rs s n = A at *
        generalize rndC rs = ds at *
        go_enter Tryz.func59, Tryz.ntmps59
        generalize brdC true vb rs dec = cs at *
        go_wp2_with (refine ld_g (by kernel_rfl) 74 _ rfl _ _ rfl ds _ hrg Tryz.underlying74 rfl hsz1 ?_)
        clear hrg hsz1
        generalize w.alloc (.cells cs.toArray 76) = W at *
        refine (hpr W).mono ?_
        rintro e w1 ⟨rfl, hb1⟩
        have hB1 := hb0.trans (hb1.mono hb0.size)
        clear hpr
        by_cases hA : A = 3
        · have E2 : Hid (E = false) := by rw [HS.out, hA]; rfl
          have hA' : (A != 3) = false := by simp [hA]
          rw [hA']
          clear HS hls hrg2 hsz2 hA
          go_wp2
          go_ret
          exact ⟨by rw [E2.out]; rfl, hB1⟩
        · have hA' : (A != 3) = true := by simpa using hA
          rw [hA'] at HS
          rw [hA']
          have hlt1 := hlt
          have hrg3 : w1.rangeAt w.heap.size (1 + s * 6 + 3) (qp.map iv) := fun j v hv => by rw [hb1.cell (p := ⟨w.heap.size, 1 + s * 6 + 3 + j, none⟩) hlt]; exact hrg2 j v hv
          clear hrg2 hA
          go_wp2_with (refine ld_g (by kernel_rfl) 69 _ rfl _ _ rfl (qp.map iv) _ hrg3 Tryz.underlying69 rfl hsz2 ?_)
          clear hrg3 hsz2
          refine (hls w1 hq3).mono ?_
          rintro e w2 ⟨la, lc, rfl, lO, lG, lR, hb2⟩
          have hB2 := hB1.trans (hb2.mono hB1.size)
          have hmr := implMayR_any la lc qp R w2 (hG.below hB2) lR (by omega)
          rw [hq3] at hmr
          generalize mayR qp R = Y at *
          clear hls lO lG hb2
          go_wp2_with fail
          refine hmr.mono ?_
          rintro e w3 ⟨rfl, hb3⟩
          have hB3 := hB2.trans (hb3.mono hB2.size)
          clear hmr hb3
          have E2 : Hid (E = Y) := by rw [HS.out]; exact (rfl : _ = _)
          clear HS
          go_wp2
          go_ret
          exact ⟨by rw [E2.out]; rfl, hB3⟩
  · have HE2 : Hid (E = if repA rs r n = 3 ∨ r = 0 then true else befR rs r n) := by
      have := HE.out
      rw [if_neg (fun e => h1 e.1)] at this
      exact this
    generalize hRR : repA rs r n = R at c1 h1
    have HRR : Hid (R = repA rs r n) := hRR.symm
    have hR1 : (R == 1) = false := by simpa using h1
    clear HE h1 hRR
    by_cases hRn : R = 3
    · have E2 : Hid (E = true) := by rw [HE2.out, if_pos (Or.inl (by rw [← HRR.out]; exact hRn))]; rfl
      have hR3 : (R == 3) = true := by simp [hRn]
      clear HE2 HRR hRn
      generalize brdC has vb rs dec = cs at *
      go_enter Tryz.func59, Tryz.ntmps59
      go_wp2
      go_ret
      exact ⟨by rw [E2.out]; rfl, hb0⟩
    · have hR3 : (R == 3) = false := by simpa using hRn
      by_cases hr0 : r = 0
      · have E2 : Hid (E = true) := by rw [HE2.out, if_pos (Or.inr hr0)]; rfl
        subst hr0
        simp only [Nat.zero_mul, Nat.add_zero, Nat.zero_add] at c1
        clear HE2 HRR
        generalize brdC has vb rs dec = cs at *
        go_enter Tryz.func59, Tryz.ntmps59
        go_wp2
        go_ret
        exact ⟨by rw [E2.out]; rfl, hb0⟩
      · obtain ⟨s, rfl⟩ : ∃ s, r = s + 1 := ⟨r - 1, by omega⟩
        have HS : Hid (E = ((proA rs s n != 3) && mayR (rs.getD s rnd0).pro R)) := by rw [HE2.out, if_neg (by rw [← HRR.out]; omega), HRR.out]; exact (rfl : _ = _)
        have hs : s < rs.length := by omega
        have hpr := fun w => hasProp_any rs s n w h h4 hs hn
        have hrg := brd_rounds h h4 hB
        have hsz1 : (Tryz.prog.info? 74).map (·.size) = some (rndC rs).length := by rw [rndC_length h h4]; exact sz_rounds
        have hwl := wel_at h s hs
        have hls := list_any (rs.getD s rnd0).pro
        have hlt := hB.lt
        have hr0' : ¬ ((s : Int) + 1 = 0) := by omega
        have hrg2 := brd_prow h h4 s hs hB
        have hsz2 : (Tryz.prog.info? 69).map (·.size) = some ((rs.getD s rnd0).pro.map iv).length := by rw [List.length_map, hwl.2]; exact sz_row
        have hq3 := hwl.2
        clear HE2 HRR
        generalize (rs.getD s rnd0).pro = qp at *
        generalize proA rs s n = A at *
        generalize rndC rs = ds at *
        go_enter Tryz.func59, Tryz.ntmps59
        generalize brdC has vb rs dec = cs at *
        go_wp2_with (refine ld_g (by kernel_rfl) 74 _ rfl _ _ rfl ds _ hrg Tryz.underlying74 rfl hsz1 ?_)
        clear hrg hsz1
        generalize w.alloc (.cells cs.toArray 76) = W at *
        refine (hpr W).mono ?_
        rintro e w1 ⟨rfl, hb1⟩
        have hB1 := hb0.trans (hb1.mono hb0.size)
        clear hpr
        by_cases hA : A = 3
        · have E2 : Hid (E = false) := by rw [HS.out, hA]; rfl
          have hA' : (A != 3) = false := by simp [hA]
          rw [hA']
          clear HS hls hrg2 hsz2 hA
          go_wp2
          go_ret
          exact ⟨by rw [E2.out]; rfl, hB1⟩
        · have hA' : (A != 3) = true := by simpa using hA
          rw [hA'] at HS
          rw [hA']
          have hlt1 := hlt
          have hrg3 : w1.rangeAt w.heap.size (1 + s * 6 + 3) (qp.map iv) := fun j v hv => by rw [hb1.cell (p := ⟨w.heap.size, 1 + s * 6 + 3 + j, none⟩) hlt]; exact hrg2 j v hv
          clear hrg2 hA
          go_wp2_with (refine ld_g (by kernel_rfl) 69 _ rfl _ _ rfl (qp.map iv) _ hrg3 Tryz.underlying69 rfl hsz2 ?_)
          clear hrg3 hsz2
          refine (hls w1 hq3).mono ?_
          rintro e w2 ⟨la, lc, rfl, lO, lG, lR, hb2⟩
          have hB2 := hB1.trans (hb2.mono hB1.size)
          have hmr := implMayR_any la lc qp R w2 (hG.below hB2) lR (by omega)
          rw [hq3] at hmr
          generalize mayR qp R = Y at *
          clear hls lO lG hb2
          go_wp2_with fail
          refine hmr.mono ?_
          rintro e w3 ⟨rfl, hb3⟩
          have hB3 := hB2.trans (hb3.mono hB2.size)
          clear hmr hb3
          have E2 : Hid (E = Y) := by rw [HS.out]; exact (rfl : _ = _)
          clear HS
          go_wp2
          go_ret
          exact ⟨by rw [E2.out]; rfl, hB3⟩

end Go.Proofs.YtmlkfmjenkcflaaGreatDoor

/- Whether what a node proposed may be proposed. -/
namespace Go.Proofs.YtmlkfmjenkcflaaGreatDoor
open Go.RowKit
open Go.BigFrame
set_option linter.unusedVariables false
set_option maxRecDepth 100000
set_option linter.unusedSimpArgs false

set_option maxHeartbeats 4000000 in
theorem isPropRight_any (rs : List RoundE) (r n : Nat) (w : World) (hG : Rul w) (h : Wel rs) (h4 : rs.length ≤ 4) (hr : r < rs.length) (hn : n < 3) :
    Calls Tryz.prog 60 #[.agg (rndC rs).toArray, .int .i64 (r : Int), .int .i64 (n : Int)] w fun e w' => e = .returned (.bool (proR rs r n)) ∧ Below w.heap.size w w' := by
  have B := Blk.new w 74 (rndC rs).toArray
  have hb0 : Below w.heap.size w (w.alloc (.cells (rndC rs).toArray 74)) := by go_grown
  have hwl := wel_at h r hr
  have hq3 := hwl.1
  have hpr := fun w => hasProp_any rs r n w h h4 hr hn
  have hrp := fun w => hasReport_any rs r n w h h4 hn
  rw [decide_eq_true hr] at hrp
  simp only [Bool.true_and] at hrp
  have hls := list_any (rs.getD r rnd0).rep
  have hMP := fun la lc w hG hR => implMayP_any la lc (rs.getD r rnd0).rep (proA rs r n) w hG hR (by omega)
  rw [hq3] at hMP
  have hlt := B.lt
  have ld1 := ld_at (rndC rs) 74 _ (rng B (rndC rs) (o := 0) (fun j v hv => by rw [Nat.zero_add, List.getElem?_toArray]; exact hv)) hlt Tryz.underlying74 rfl (by rw [rndC_length h h4]; exact sz_rounds)
  have ld2 := ld_at ((rs.getD r rnd0).rep.map iv) 69 _ (rng B _ (o := 1 + r * 6) (fun j v hv => by rw [List.getElem?_toArray]; exact rnd_rrow h r hr j v hv)) hlt Tryz.underlying69 rfl (by rw [List.length_map, hq3]; exact sz_row)
  have cp := lat_cell (B.cell (1 + r * 6 + 3 + n) (iv (proA rs r n)) (by rw [List.getElem?_toArray]; exact rnd_pro h r hr n hn))
  have HE : Hid (proR rs r n = ((proA rs r n == 3) || ((repA rs r n != 3) && mayP (rs.getD r rnd0).rep (proA rs r n)))) := (rfl : _ = _)
  generalize proR rs r n = E at HE ⊢
  generalize (rs.getD r rnd0).rep = qr at *
  generalize proA rs r n = P at *
  generalize repA rs r n = R at *
  generalize rndC rs = ds at *
  have hr4 : (r : Int) < 4 := by omega
  have hn3 : (n : Int) < 3 := by omega
  go_enter Tryz.func60, Tryz.ntmps60
  go_wp2_with fail
  generalize w.alloc (.cells ds.toArray 74) = W at *
  have hW : Below W.heap.size W W.drew := (Below.refl _ _).drew
  have hne : Nonempty (Lat W) := ⟨⟨W, Below.refl _ _⟩⟩
  by_cases hP : P = 3
  · have E2 : Hid (E = true) := by rw [HE.out, hP]; rfl
    have hP' : (P != 3) = false := by simp [hP]
    rw [hP'] at hpr
    clear HE hP
    refine text_begin (S := fun w' => ∃ u : Lat W, w' = u.val) (by kernel_rfl) ?_
    refine sgr [(1, 2)] 26 (by kernel_rfl) ⟨⟨_, hW⟩, rfl⟩ ?_
    simp only [pkE]
    repeat go_big_quiet_step (fail)
    refine wpQuiet_nil ?_
    refine qta 0 (some 7) (.agg ds.toArray) 25 (by kernel_rfl) (fun u hu => ?_) ⟨⟨_, hW⟩, rfl⟩ ?_
    · obtain ⟨u, rfl⟩ := hu
      show some (((Instr.loadAt 74 (.pointer (some ⟨w.heap.size, 0, none⟩))) >>= fun x => pure (Next.value x) : Sem Next).run Tryz.prog u.val) = _
      rw [Sem.run_bind, ld1 u]
      rfl
    simp only [Act.put, pjE]
    refine cla 3 (some 10) 71 #[.agg ds.toArray, .int .i64 (r : Int), .int .i64 (n : Int)] 24 (by kernel_rfl) ?_
    refine (hpr _).mono ?_
    rintro e w9 ⟨rfl, hb9⟩
    replace hW := hW.trans (hb9.mono hW.size)
    clear hb9
    refine ⟨_, rfl, ⟨⟨_, hW⟩, rfl⟩, ?_⟩
    simp only [Act.put, pjE]
    refine sgr [(4, 2), (7, 2)] 20 (by kernel_rfl) ⟨⟨_, hW⟩, rfl⟩ ?_
    simp only [pkE]
    repeat go_big_quiet_step (fail)
    refine wpQuiet_nil ?_
    refine ska 6 (some 13) 19 (by kernel_rfl) ⟨⟨_, hW⟩, rfl⟩ ?_
    simp only [Act.put, pjE]
    refine ska 9 (some 16) 18 (by kernel_rfl) ⟨⟨_, hW⟩, rfl⟩ ?_
    simp only [Act.put, pjE]
    refine sgr [(10, 5), (17, 7)] 6 (by kernel_rfl) ⟨⟨_, hW⟩, rfl⟩ ?_
    simp only [pkE]
    repeat go_big_quiet_step (fail)
    refine wpQuiet_nil ?_
    refine ska 15 (some 22) 5 (by kernel_rfl) ⟨⟨_, hW⟩, rfl⟩ ?_
    simp only [Act.put, pjE]
    refine ska 16 (some 23) 4 (by kernel_rfl) ⟨⟨_, hW⟩, rfl⟩ ?_
    simp only [Act.put, pjE]
    refine ska 24 (some 31) 3 (by kernel_rfl) ⟨⟨_, hW⟩, rfl⟩ ?_
    simp only [Act.put, pjE]
    refine sgr [(25, 3)] 0 (by kernel_rfl) ⟨⟨_, hW⟩, rfl⟩ ?_
    simp only [pkE]
    repeat go_big_quiet_step (fail)
    refine wpQuiet_nil ?_
    refine text_end (by kernel_rfl) ?_
    replace hb0 := hb0.trans (hW.mono hb0.size)
    clear ld1 ld2 cp hW hne hpr hrp hls hMP
    go_wp2
    go_ret
    exact ⟨by rw [E2.out]; rfl, hb0⟩
  · have hP' : (P != 3) = true := by simpa using hP
    have hP2 : (P == 3) = false := by simpa using hP
    rw [hP'] at hpr
    rw [hP2] at HE
    clear hP hP'
    by_cases hR : R = 3
    · have E2 : Hid (E = false) := by rw [HE.out, hR]; rfl
      have hR' : (R != 3) = false := by simp [hR]
      rw [hR'] at hrp
      clear HE hR
      refine text_begin (S := fun w' => ∃ u : Lat W, w' = u.val) (by kernel_rfl) ?_
      refine sgr [(1, 2)] 26 (by kernel_rfl) ⟨⟨_, hW⟩, rfl⟩ ?_
      simp only [pkE]
      repeat go_big_quiet_step (fail)
      refine wpQuiet_nil ?_
      refine qta 0 (some 7) (.agg ds.toArray) 25 (by kernel_rfl) (fun u hu => ?_) ⟨⟨_, hW⟩, rfl⟩ ?_
      · obtain ⟨u, rfl⟩ := hu
        show some (((Instr.loadAt 74 (.pointer (some ⟨w.heap.size, 0, none⟩))) >>= fun x => pure (Next.value x) : Sem Next).run Tryz.prog u.val) = _
        rw [Sem.run_bind, ld1 u]
        rfl
      simp only [Act.put, pjE]
      refine cla 3 (some 10) 71 #[.agg ds.toArray, .int .i64 (r : Int), .int .i64 (n : Int)] 24 (by kernel_rfl) ?_
      refine (hpr _).mono ?_
      rintro e w9 ⟨rfl, hb9⟩
      replace hW := hW.trans (hb9.mono hW.size)
      clear hb9
      refine ⟨_, rfl, ⟨⟨_, hW⟩, rfl⟩, ?_⟩
      simp only [Act.put, pjE]
      refine sgr [(4, 2), (7, 2)] 20 (by kernel_rfl) ⟨⟨_, hW⟩, rfl⟩ ?_
      simp only [pkE]
      repeat go_big_quiet_step (fail)
      refine wpQuiet_nil ?_
      refine qta 6 (some 13) (.agg ds.toArray) 19 (by kernel_rfl) (fun u hu => ?_) ⟨⟨_, hW⟩, rfl⟩ ?_
      · obtain ⟨u, rfl⟩ := hu
        show some (((Instr.loadAt 74 (.pointer (some ⟨w.heap.size, 0, none⟩))) >>= fun x => pure (Next.value x) : Sem Next).run Tryz.prog u.val) = _
        rw [Sem.run_bind, ld1 u]
        rfl
      simp only [Act.put, pjE]
      refine cla 9 (some 16) 74 #[.agg ds.toArray, .int .i64 (r : Int), .int .i64 (n : Int)] 18 (by kernel_rfl) ?_
      refine (hrp _).mono ?_
      rintro e w9 ⟨rfl, hb9⟩
      replace hW := hW.trans (hb9.mono hW.size)
      clear hb9
      refine ⟨_, rfl, ⟨⟨_, hW⟩, rfl⟩, ?_⟩
      simp only [Act.put, pjE]
      refine sgr [(10, 5), (17, 7)] 6 (by kernel_rfl) ⟨⟨_, hW⟩, rfl⟩ ?_
      simp only [pkE]
      repeat go_big_quiet_step (fail)
      refine wpQuiet_nil ?_
      refine ska 15 (some 22) 5 (by kernel_rfl) ⟨⟨_, hW⟩, rfl⟩ ?_
      simp only [Act.put, pjE]
      refine ska 16 (some 23) 4 (by kernel_rfl) ⟨⟨_, hW⟩, rfl⟩ ?_
      simp only [Act.put, pjE]
      refine ska 24 (some 31) 3 (by kernel_rfl) ⟨⟨_, hW⟩, rfl⟩ ?_
      simp only [Act.put, pjE]
      refine sgr [(25, 3)] 0 (by kernel_rfl) ⟨⟨_, hW⟩, rfl⟩ ?_
      simp only [pkE]
      repeat go_big_quiet_step (fail)
      refine wpQuiet_nil ?_
      refine text_end (by kernel_rfl) ?_
      replace hb0 := hb0.trans (hW.mono hb0.size)
      clear ld1 ld2 cp hW hne hpr hrp hls hMP
      go_wp2
      go_ret
      exact ⟨by rw [E2.out]; rfl, hb0⟩
    · have hR' : (R != 3) = true := by simpa using hR
      rw [hR'] at hrp HE
      clear hR
      have E2 : Hid (E = mayP qr P) := by rw [HE.out]; exact (rfl : _ = _)
      generalize mayP qr P = X at *
      clear HE
      refine text_begin (S := fun w' => ∃ u : Lat W, w' = u.val) (by kernel_rfl) ?_
      refine sgr [(1, 2)] 26 (by kernel_rfl) ⟨⟨_, hW⟩, rfl⟩ ?_
      simp only [pkE]
      repeat go_big_quiet_step (fail)
      refine wpQuiet_nil ?_
      refine qta 0 (some 7) (.agg ds.toArray) 25 (by kernel_rfl) (fun u hu => ?_) ⟨⟨_, hW⟩, rfl⟩ ?_
      · obtain ⟨u, rfl⟩ := hu
        show some (((Instr.loadAt 74 (.pointer (some ⟨w.heap.size, 0, none⟩))) >>= fun x => pure (Next.value x) : Sem Next).run Tryz.prog u.val) = _
        rw [Sem.run_bind, ld1 u]
        rfl
      simp only [Act.put, pjE]
      refine cla 3 (some 10) 71 #[.agg ds.toArray, .int .i64 (r : Int), .int .i64 (n : Int)] 24 (by kernel_rfl) ?_
      refine (hpr _).mono ?_
      rintro e w9 ⟨rfl, hb9⟩
      replace hW := hW.trans (hb9.mono hW.size)
      clear hb9
      refine ⟨_, rfl, ⟨⟨_, hW⟩, rfl⟩, ?_⟩
      simp only [Act.put, pjE]
      refine sgr [(4, 2), (7, 2)] 20 (by kernel_rfl) ⟨⟨_, hW⟩, rfl⟩ ?_
      simp only [pkE]
      repeat go_big_quiet_step (fail)
      refine wpQuiet_nil ?_
      refine qta 6 (some 13) (.agg ds.toArray) 19 (by kernel_rfl) (fun u hu => ?_) ⟨⟨_, hW⟩, rfl⟩ ?_
      · obtain ⟨u, rfl⟩ := hu
        show some (((Instr.loadAt 74 (.pointer (some ⟨w.heap.size, 0, none⟩))) >>= fun x => pure (Next.value x) : Sem Next).run Tryz.prog u.val) = _
        rw [Sem.run_bind, ld1 u]
        rfl
      simp only [Act.put, pjE]
      refine cla 9 (some 16) 74 #[.agg ds.toArray, .int .i64 (r : Int), .int .i64 (n : Int)] 18 (by kernel_rfl) ?_
      refine (hrp _).mono ?_
      rintro e w9 ⟨rfl, hb9⟩
      replace hW := hW.trans (hb9.mono hW.size)
      clear hb9
      refine ⟨_, rfl, ⟨⟨_, hW⟩, rfl⟩, ?_⟩
      simp only [Act.put, pjE]
      refine sgr [(10, 5), (17, 7)] 6 (by kernel_rfl) ⟨⟨_, hW⟩, rfl⟩ ?_
      simp only [pkE]
      repeat go_big_quiet_step (fail)
      refine wpQuiet_nil ?_
      refine qta 15 (some 22) (.agg (qr.map iv).toArray) 5 (by kernel_rfl) (fun u hu => ?_) ⟨⟨_, hW⟩, rfl⟩ ?_
      · obtain ⟨u, rfl⟩ := hu
        show some (((Instr.loadAt 69 (.pointer (some ⟨w.heap.size, 1 + r * 6, none⟩))) >>= fun x => pure (Next.value x) : Sem Next).run Tryz.prog u.val) = _
        rw [Sem.run_bind, ld2 u]
        rfl
      simp only [Act.put, pjE]
      refine cla 16 (some 23) 73 #[.agg (qr.map iv).toArray] 4 (by kernel_rfl) ?_
      refine (hls _ hq3).mono ?_
      rintro e w9 ⟨la, lc, rfl, lO, lG, lR, hb9⟩
      replace hW := hW.trans (hb9.mono hW.size)
      have hmp := hMP la lc _ (hG.below (hb0.trans (hW.mono hb0.size))) lR
      clear lO lG lR
      clear hb9
      refine ⟨_, rfl, ⟨⟨_, hW⟩, rfl⟩, ?_⟩
      simp only [Act.put, pjE]
      refine cla 24 (some 31) 75 #[.slice la 3 lc, .int .i64 P] 3 (by kernel_rfl) ?_
      refine (hmp).mono ?_
      rintro e w9 ⟨rfl, hb9⟩
      replace hW := hW.trans (hb9.mono hW.size)
      clear hb9
      refine ⟨_, rfl, ⟨⟨_, hW⟩, rfl⟩, ?_⟩
      simp only [Act.put, pjE]
      refine sgr [(25, 3)] 0 (by kernel_rfl) ⟨⟨_, hW⟩, rfl⟩ ?_
      simp only [pkE]
      repeat go_big_quiet_step (fail)
      refine wpQuiet_nil ?_
      refine text_end (by kernel_rfl) ?_
      replace hb0 := hb0.trans (hW.mono hb0.size)
      clear ld1 ld2 cp hW hne hpr hrp hls hMP hmp
      go_wp2
      go_ret
      exact ⟨by rw [E2.out]; rfl, hb0⟩

end Go.Proofs.YtmlkfmjenkcflaaGreatDoor
