/- The small methods of a board. -/
import Derived.Test.YtkklhbofeghnbaaDoorBd
import Derived.Test.YtkklhbofeghnbaaDoorQuiet1
import Derived.Test.YtkklhbofeghnbaaDoorTxnFind
namespace Go.Proofs.YtkklhbofeghnbaaDoor
open Go.RowKit
open Go.BigFrame
set_option linter.unusedVariables false
set_option linter.unusedSimpArgs false
set_option maxRecDepth 100000

theorem sz_rounds : (Tryd.prog.info? 52).map (·.size) = some 25 := by kernel_rfl
theorem sz_board : (Tryd.prog.info? 54).map (·.size) = some 30 := by kernel_rfl
theorem sz_row : (Tryd.prog.info? 47).map (·.size) = some 3 := by kernel_rfl
theorem sz_rows : (Tryd.prog.info? 49).map (·.size) = some 6 := by kernel_rfl

/-- Cells that lie in a block from o on. -/
theorem rng {w : World} {b o : Nat} {t : TypeId} {cs : Array Value} (hB : Blk w b t cs) (L : List Value) (h : ∀ j v, L[j]? = some v → cs[o + j]? = some v) : w.rangeAt b o L := fun j v hv => hB.cell (o + j) v (h j v hv)
theorem ld_at {w : World} {b o : Nat} (L : List Value) (ty : TypeId) (d : TypeDesc) (hr : w.rangeAt b o L) (hlt : b < w.heap.size) (hu : Tryd.prog.underlying ty = some d) (hd : d.isRow = true) (hi : (Tryd.prog.info? ty).map (·.size) = some L.length) :
    ∀ u : Lat w, (Instr.loadAt ty (.pointer (some ⟨b, o, none⟩))).run Tryd.prog u.val = .ok (.agg L.toArray) u.val := fun u => by
  refine run_loadAt_mid u.val b o ty L d (fun j v hv => ?_) hu hd hi
  rw [u.isBelow.cell (p := ⟨b, o + j, none⟩) hlt]
  exact hr j v hv

section
variable {ops : Array Oper} {rest : List Oper} {op : Oper} {a : Act} {w : World} {Q : Exit → Act → World → Prop}
/-- A load of many cells, its guard holds. -/
theorem ld_g (hw : Region.wanted op (yielded ops a.tmps) = true) (ty : TypeId) (x : Operand) (ho : op.op = .load ty x)
    (b o : Nat) (hx : a.eval x = .pointer (some ⟨b, o, none⟩)) (cs : List Value) (d : TypeDesc) (hc : w.rangeAt b o cs)
    (hu : Tryd.prog.underlying ty = some d) (hd : d.isRow = true) (hi : (Tryd.prog.info? ty).map (·.size) = some cs.length)
    (h : wpList Tryd.prog ops Q rest (a.put op.dst (.agg cs.toArray)) w) : wpList Tryd.prog ops Q (op :: rest) a w := by
  simp only [wpList]
  rw [if_pos hw]
  exact Or.inl (wp_load_mid ty x ho b o hx cs d hc hu hd hi h)
/-- A store of many cells, its guard holds. -/
theorem st_g (hw : Region.wanted op (yielded ops a.tmps) = true) (ty : TypeId) (x y : Operand) (ho : op.op = .store ty x y)
    (b o : Nat) (cells : Array Value) (hx : a.eval x = .pointer (some ⟨b, o, none⟩)) (hy : a.eval y = .agg cells)
    (ht : w.there b o cells.size) (hi : (Tryd.prog.info? ty).map (·.size) = some cells.size) (h1 : cells.all (·.oneCell') = true)
    (h : wpList Tryd.prog ops Q rest (a.put op.dst undef) (w.setCells b o cells.toList)) : wpList Tryd.prog ops Q (op :: rest) a w := by
  simp only [wpList]
  rw [if_pos hw]
  exact Or.inl (wp_store_mid ty x y ho b o cells hx hy ht hi h1 h)
end

theorem infoI6 : (Tryd.prog.info? 2).map (fun i => (i.zero, i.size, i.bytes)) = some (some (.int .i64 0), 1, 8) := by kernel_rfl

set_option maxHeartbeats 1000000 in
theorem cloneI_any (b off cap : Nat) (zs : List Int) (w : World) (h : Row .i64 w (some ⟨b, off, none⟩) zs) (h0 : 0 < zs.length) (hl : zs.length ≤ 1048576) :
    Calls Tryd.prog 41 #[.slice (some ⟨b, off, none⟩) zs.length cap] w fun e w' => ∃ a c, e = .returned (.slice a zs.length c) ∧
      w'.ownsRow w.heap.size 2 1 (.slice a zs.length c) zs.length (zs.map iv) ∧ Below w.heap.size w w' := by
  obtain ⟨i0, hi, hz0, hz1, hz2⟩ := info_parts infoI6
  have hs := lies_src (Lies.below (lies_of_row h) (w' := w.alloc (.cells #[] 2)) (by go_grown))
  have hcl : (zs.map iv).length = zs.length * 1 := by simp
  have ho := World.ownsRow_lit (e := 2) (size := 1) w #[] 0 (Nat.le_refl _) (by decide) rfl
  have HS : Hid (∀ j u, (zs.map iv)[j]? = some u → _) := hs
  clear hs
  have hnil : ∀ w, (binOp .eql 37 (.slice (some ⟨b, off, none⟩) zs.length cap) (.slice none 0 0)).run Tryd.prog w = .ok (.bool false) w := fun w => by first | rfl | kernel_rfl | (simp only [binOp]; simp [Op.equal, Op.maxDepth, Op.equalIn, run_underlying Tryd.underlying37])
  go_enter Tryd.func41, Tryd.ntmps41
  go_wp2_with (at_builtin; refine wpList_append_own _ rfl _ _ 37 rfl w.heap.size 2 i0 (.int .i64 0) 1 8 Tryd.underlying37 hi hz0 hz1 hz2 rfl (by decide) _ 0 [] rfl ho ⟨b, off, none⟩ zs.length cap (zs.map iv) rfl hcl HS.out ?c2 ?c3 ?c4 ?c5 ?_)
  all_goals try (case c2 => first | (intro u hu; obtain ⟨z, _, rfl⟩ := List.mem_map.1 hu; rfl) | (intro u hu; rfl))
  all_goals try (case c3 => unfold maxLen; omega)
  all_goals try (case c4 => omega)
  all_goals try (case c5 => simp)
  intro v' w2 hown hgrow _
  obtain ⟨a2, c2, rfl⟩ := own_shape hown
  have hb2 : Below w.heap.size w w2 := ((Below.refl _ _).alloc (Nat.le_refl _) _).grown hgrow (by simp) (fun k hk => by simp [Value.ownBlock] at hk; omega)
  try simp only [Nat.zero_add] at hown
  clear hgrow HS ho
  go_wp2
  go_ret
  exact ⟨a2, c2, rfl, by simpa using hown, hb2⟩

/-- A row of votes as a list of its own. -/
theorem list_own {w' : World} {base n c : Nat} {a : Option Addr} {zs : List Int} (hn : n = zs.length) (h : w'.ownsRow base 2 1 (.slice a n c) n (zs.map iv)) : intK.Own w' (.slice a n c) zs ∧ (∀ k ∈ intK.fp (.slice a n c) zs, base ≤ k) := by
  subst hn
  obtain ⟨o, hk⟩ := own_zero h
  refine ⟨⟨by rw [intK_row]; exact o, fun _ _ => trivial⟩, ?_⟩
  rw [intK_fp]
  exact hk

set_option maxHeartbeats 1000000 in
theorem list_any (zs : List Int) (w : World) (h3 : zs.length = 3) :
    Calls Tryd.prog 27 #[.agg (zs.map iv).toArray] w fun e w' => ∃ a c, e = .returned (.slice a 3 c) ∧ intK.Own w' (.slice a 3 c) zs ∧ (∀ k ∈ intK.fp (.slice a 3 c) zs, w.heap.size ≤ k) ∧ Row .i64 w' a zs ∧ Below w.heap.size w w' := by
  have hB : Below w.heap.size w (w.alloc (.cells (zs.map iv).toArray 47)) := by go_grown
  have hR : Row .i64 (w.alloc (.cells (zs.map iv).toArray 47)) (some ⟨w.heap.size, 0, none⟩) zs := by
    intro i hi
    refine ⟨_, _, rfl, by simp, ?_⟩
    have := (Blk.new w 47 (zs.map iv).toArray).cell i (iv (zs.getD i 0)) (by simp [List.getD, hi])
    rw [Nat.zero_add]
    exact this
  have hcl := cloneI_any w.heap.size 0 3 zs _ hR (by omega) (by omega)
  rw [h3] at hcl
  go_enter Tryd.func27, Tryd.ntmps27
  go_wp2_with fail
  refine hcl.mono ?_
  rintro e w2 ⟨a, c, rfl, ho, hb⟩
  obtain ⟨O, G⟩ := list_own h3.symm ho
  have hRR := Row.own ho
  have G2 : Hid (∀ k ∈ intK.fp (.slice a 3 c) zs, w.heap.size ≤ k) := fun k hk => Nat.le_trans (by simp) (G k hk)
  replace hB := hB.trans (hb.mono hB.size)
  clear hcl ho hb G
  go_wp2
  go_ret
  exact ⟨a, c, rfl, O, G2.out, hRR, hB⟩

end Go.Proofs.YtkklhbofeghnbaaDoor
