/- A transaction copied by slices.Clone and by the model, its acts none or some. No condition. -/
import Derived.Test.YtkkdjgiencilbaaTxnFindI
import Derived.Laws.AppendOwnNone
import Derived.Test.YtkkdjgiencilbaaKT
namespace Go.Proofs.Ytkkdjgiencilbaa
open Go.RowKit
open Go.BigFrame
set_option linter.unusedVariables false
set_option linter.unusedSimpArgs false
set_option maxRecDepth 100000

set_option maxRecDepth 100000 in
set_option maxHeartbeats 1000000 in
theorem cloneZ_any (b off cap : Nat) (zs : List ActD) (w : World) (h : ActRow w (some ⟨b, off, none⟩) zs) (hl : zs.length ≤ 1048576) :
    Calls Try.prog 73 #[.slice (some ⟨b, off, none⟩) zs.length cap] w fun e w' => ∃ a c, e = .returned (.slice a zs.length c) ∧
      w'.ownsRow w.heap.size 131 3 (.slice a zs.length c) zs.length (actCells zs) ∧ Below w.heap.size w w' := by
  obtain ⟨i0, hi, hz0, hz1, hz2⟩ := info_parts infoAct
  have hs := lies_src (Lies.below h (w' := w.alloc (.cells #[] 131)) (by go_grown))
  have hcl := actCells_length zs
  have ho := World.ownsRow_lit (e := 131) (size := 3) w #[] 0 (Nat.le_refl _) (by decide) rfl
  have HS : Hid (∀ j u, (actCells zs)[j]? = some u → _) := hs
  clear hs
  have hnil : ∀ w, (binOp .eql 43 (.slice (some ⟨b, off, none⟩) zs.length cap) (.slice none 0 0)).run Try.prog w = .ok (.bool false) w := fun w => by first | rfl | kernel_rfl | (simp only [binOp]; simp [Op.equal, Op.maxDepth, Op.equalIn, run_underlying Try.underlying43])
  go_enter Try.func73, Try.ntmps73
  go_wp2_with (at_builtin; refine wpList_append_own _ rfl _ _ 43 rfl w.heap.size 131 i0 (.agg #[.int .i64 0, .int .i64 0, .int .i64 0]) 3 24 Try.underlying43 hi hz0 hz1 hz2 rfl (by decide) _ 0 [] rfl ho ⟨b, off, none⟩ zs.length cap (actCells zs) rfl hcl HS.out ?c2 ?c3 ?c4 ?c5 ?_)
  all_goals try (case c2 => exact acts_oneCell zs)
  all_goals try (case c3 => unfold maxLen; omega)
  all_goals try (case c4 => omega)
  all_goals try (case c5 => simp)
  intro v' w2 hown hgrow _
  obtain ⟨a2, c2, rfl⟩ := own_shape hown
  have hb2 : Below w.heap.size w w2 := ((Below.refl _ _).alloc (Nat.le_refl _) _).grown hgrow (by simp) (fun k hk => by simp [Value.ownBlock] at hk; omega)
  try simp only [Nat.zero_add] at hown
  clear hgrow HS ho
  go_wp2
  go_ret
  exact ⟨a2, c2, rfl, by simpa using hown, hb2⟩

set_option maxRecDepth 100000 in
set_option maxHeartbeats 1000000 in
theorem cloneTxnZ_any (i s q : Int) (b off cap : Nat) (zs : List ActD) (w : World) (h : ActRow w (some ⟨b, off, none⟩) zs) (hl : zs.length ≤ 1048576) :
    Calls Try.prog 48 #[.agg #[.int .i64 i, .int .i64 s, .int .i64 q, .slice (some ⟨b, off, none⟩) zs.length cap]] w fun e w' => ∃ a c, e = .returned (.agg #[.int .i64 i, .int .i64 s, .int .i64 q, .slice a zs.length c]) ∧
      w'.ownsRow w.heap.size 131 3 (.slice a zs.length c) zs.length (actCells zs) ∧ Below w.heap.size w w' := by
  have hb1 : Below w.heap.size w ((w.alloc (.cells #[.int .i64 i, .int .i64 s, .int .i64 q, .slice (some ⟨b, off, none⟩) zs.length cap] 45)).alloc (.cells #[.int .i64 0, .int .i64 0, .int .i64 0, .slice none 0 0] 45)) := by go_grown
  have B1 := (Blk.new w 45 #[.int .i64 i, .int .i64 s, .int .i64 q, .slice (some ⟨b, off, none⟩) zs.length cap]).below (w' := (w.alloc (.cells #[.int .i64 i, .int .i64 s, .int .i64 q, .slice (some ⟨b, off, none⟩) zs.length cap] 45)).alloc (.cells #[.int .i64 0, .int .i64 0, .int .i64 0, .slice none 0 0] 45)) (by go_grown)
  have B2 := Blk.new (w.alloc (.cells #[.int .i64 i, .int .i64 s, .int .i64 q, .slice (some ⟨b, off, none⟩) zs.length cap] 45)) 45 #[.int .i64 0, .int .i64 0, .int .i64 0, .slice none 0 0]
  simp only [World.size_alloc] at B2
  go_enter Try.func48, Try.ntmps48
  go_wp2_with fail
  generalize (w.alloc (.cells #[.int .i64 i, .int .i64 s, .int .i64 q, .slice (some ⟨b, off, none⟩) zs.length cap] 45)).alloc (.cells #[.int .i64 0, .int .i64 0, .int .i64 0, .slice none 0 0] 45) = W at hb1 B1 B2
  have hltW := B2.lt
  refine (cloneZ_any b off cap zs W (h.below hb1) hl).mono ?_
  rintro e w2 ⟨a2, c2, rfl, hown, hb⟩
  replace B1 := B1.below hb
  replace B2 := B2.below hb
  obtain ⟨p0, p1, p2, p3⟩ := B1.cel4
  have pf := B1.frozen 3
  obtain ⟨q0, q1, q2, q3⟩ := B2.cel4
  obtain ⟨f0, f1, f2, f3⟩ := B2.frz4
  clear B1 B2
  go_wp2
  refine bodyPost_ret (v := .agg #[.int .i64 i, .int .i64 s, .int .i64 q, .slice a2 zs.length c2]) (by simp [results, Try.results48, go_sem, q0, q1, q2, q3]) rfl ⟨_, _, rfl, ?_, ?_⟩
  · refine own_base (base := W.heap.size) ?_ (by omega)
    repeat' (refine ownsRow_setCell_below ?_ (by dsimp only; omega) _)
    exact hown
  · repeat' (refine Below.setCell ?_ (by dsimp only; omega) _)
    exact below_from hb1 hb

set_option maxHeartbeats 1000000 in
theorem cloneN_any (w : World) :
    Calls Try.prog 73 #[.slice none 0 0] w fun e w' => e = .returned (.slice none 0 0) ∧ w' = w := by
  have hnil : ∀ w, (binOp .eql 43 (.slice none 0 0) (.slice none 0 0)).run Try.prog w = .ok (.bool true) w := fun w => by first | rfl | kernel_rfl | (simp only [binOp]; simp [Op.equal, Op.maxDepth, Op.equalIn, run_underlying Try.underlying43])
  go_enter Try.func73, Try.ntmps73
  go_wp2
  go_ret
  exact ⟨rfl, rfl⟩

set_option maxRecDepth 100000 in
set_option maxHeartbeats 1000000 in
theorem cloneTxnN_any (i s q : Int) (w : World) :
    Calls Try.prog 48 #[.agg #[.int .i64 i, .int .i64 s, .int .i64 q, .slice none 0 0]] w fun e w' => e = .returned (.agg #[.int .i64 i, .int .i64 s, .int .i64 q, .slice none 0 0]) ∧ Below w.heap.size w w' := by
  have hb1 : Below w.heap.size w ((w.alloc (.cells #[.int .i64 i, .int .i64 s, .int .i64 q, .slice none 0 0] 45)).alloc (.cells #[.int .i64 0, .int .i64 0, .int .i64 0, .slice none 0 0] 45)) := by go_grown
  have B1 := (Blk.new w 45 #[.int .i64 i, .int .i64 s, .int .i64 q, .slice none 0 0]).below (w' := (w.alloc (.cells #[.int .i64 i, .int .i64 s, .int .i64 q, .slice none 0 0] 45)).alloc (.cells #[.int .i64 0, .int .i64 0, .int .i64 0, .slice none 0 0] 45)) (by go_grown)
  have B2 := Blk.new (w.alloc (.cells #[.int .i64 i, .int .i64 s, .int .i64 q, .slice none 0 0] 45)) 45 #[.int .i64 0, .int .i64 0, .int .i64 0, .slice none 0 0]
  simp only [World.size_alloc] at B2
  go_enter Try.func48, Try.ntmps48
  go_wp2_with fail
  generalize (w.alloc (.cells #[.int .i64 i, .int .i64 s, .int .i64 q, .slice none 0 0] 45)).alloc (.cells #[.int .i64 0, .int .i64 0, .int .i64 0, .slice none 0 0] 45) = W at hb1 B1 B2
  have hltW := B2.lt
  refine (cloneN_any W).mono ?_
  rintro e w2 ⟨rfl, hww⟩
  replace hww := hww.symm
  subst hww
  obtain ⟨p0, p1, p2, p3⟩ := B1.cel4
  have pf := B1.frozen 3
  obtain ⟨q0, q1, q2, q3⟩ := B2.cel4
  obtain ⟨f0, f1, f2, f3⟩ := B2.frz4
  clear B1 B2
  go_wp2
  refine bodyPost_ret (v := .agg #[.int .i64 i, .int .i64 s, .int .i64 q, .slice none 0 0]) (by simp [results, Try.results48, go_sem, q0, q1, q2, q3]) rfl ⟨rfl, ?_⟩
  repeat' (refine Below.setCell ?_ (by dsimp only; omega) _)
  exact hb1

set_option maxRecDepth 100000 in
set_option maxHeartbeats 1000000 in
theorem l2CopySZ_any (i s q : Int) (b off cap : Nat) (zs : List ActD) (w : World) (h : ActRow w (some ⟨b, off, none⟩) zs) (hl : zs.length ≤ 1048576) :
    Calls Try.prog 47 #[.agg #[.int .i64 i, .int .i64 s, .int .i64 q, .slice (some ⟨b, off, none⟩) zs.length cap]] w fun e w' => ∃ a c, e = .returned (.agg #[.int .i64 i, .int .i64 s, .int .i64 q, .slice a zs.length c]) ∧
      w'.ownsRow w.heap.size 131 3 (.slice a zs.length c) zs.length (actCells zs) ∧ Below w.heap.size w w' := by
  obtain ⟨i0, hi, hz0, hz1, hz2⟩ := info_parts infoAct
  have hs := lies_src (Lies.below h (w' := ((w.alloc (.cells #[.int .i64 i, .int .i64 s, .int .i64 q, .slice (some ⟨b, off, none⟩) zs.length cap] 45)).alloc (.cells #[.int .i64 0, .int .i64 0, .int .i64 0, .slice none 0 0] 45)).alloc (.cells #[] 131)) (by go_grown))
  have hcl := actCells_length zs
  have ho := World.ownsRow_lit (e := 131) (size := 3) ((w.alloc (.cells #[.int .i64 i, .int .i64 s, .int .i64 q, .slice (some ⟨b, off, none⟩) zs.length cap] 45)).alloc (.cells #[.int .i64 0, .int .i64 0, .int .i64 0, .slice none 0 0] 45)) #[] 0 (Nat.le_refl _) (by decide) rfl
  have hb1 : Below w.heap.size w (((w.alloc (.cells #[.int .i64 i, .int .i64 s, .int .i64 q, .slice (some ⟨b, off, none⟩) zs.length cap] 45)).alloc (.cells #[.int .i64 0, .int .i64 0, .int .i64 0, .slice none 0 0] 45)).alloc (.cells #[] 131)) := by go_grown
  have B1 := (Blk.new w 45 #[.int .i64 i, .int .i64 s, .int .i64 q, .slice (some ⟨b, off, none⟩) zs.length cap]).below (w' := ((w.alloc (.cells #[.int .i64 i, .int .i64 s, .int .i64 q, .slice (some ⟨b, off, none⟩) zs.length cap] 45)).alloc (.cells #[.int .i64 0, .int .i64 0, .int .i64 0, .slice none 0 0] 45)).alloc (.cells #[] 131)) (by go_grown)
  have B2 := (Blk.new (w.alloc (.cells #[.int .i64 i, .int .i64 s, .int .i64 q, .slice (some ⟨b, off, none⟩) zs.length cap] 45)) 45 #[.int .i64 0, .int .i64 0, .int .i64 0, .slice none 0 0]).below (w' := ((w.alloc (.cells #[.int .i64 i, .int .i64 s, .int .i64 q, .slice (some ⟨b, off, none⟩) zs.length cap] 45)).alloc (.cells #[.int .i64 0, .int .i64 0, .int .i64 0, .slice none 0 0] 45)).alloc (.cells #[] 131)) (by go_grown)
  have HS : Hid (∀ j u, (actCells zs)[j]? = some u → _) := hs
  clear hs
  simp only [World.size_alloc] at B2 ho
  go_enter Try.func47, Try.ntmps47
  go_wp2_with (at_builtin; refine wpList_append_own _ rfl _ _ 43 rfl (w.heap.size + 1 + 1) 131 i0 (.agg #[.int .i64 0, .int .i64 0, .int .i64 0]) 3 24 Try.underlying43 hi hz0 hz1 hz2 rfl (by decide) _ 0 [] rfl ho ⟨b, off, none⟩ zs.length cap (actCells zs) rfl hcl HS.out ?c2 ?c3 ?c4 ?c5 ?_)
  all_goals try (case c2 => exact acts_oneCell zs)
  all_goals try (case c3 => unfold maxLen; omega)
  all_goals try (case c4 => omega)
  all_goals try (case c5 => simp)
  intro v' w2 hown hgrow _
  obtain ⟨a2, c2, rfl⟩ := own_shape hown
  replace B1 := B1.grown hgrow (by simp [Value.ownBlock] <;> omega)
  replace B2 := B2.grown hgrow (by simp [Value.ownBlock] <;> omega)
  have hb2 : Below w.heap.size w w2 := hb1.grown hgrow (by simp; omega) (fun k hk => by simp [Value.ownBlock] at hk; omega)
  have hlt2 := B2.lt
  obtain ⟨p0, p1, p2, p3⟩ := B1.cel4
  have pf := B1.frozen 3
  obtain ⟨q0, q1, q2, q3⟩ := B2.cel4
  obtain ⟨f0, f1, f2, f3⟩ := B2.frz4
  try simp only [Nat.zero_add] at hown
  clear B1 B2 hgrow HS ho hb1
  go_wp2
  refine bodyPost_ret (v := .agg #[.int .i64 i, .int .i64 s, .int .i64 q, .slice a2 zs.length c2]) (by simp [results, Try.results47, go_sem, q0, q1, q2, q3]) rfl ⟨_, _, rfl, ?_, ?_⟩
  · refine own_base (base := w.heap.size + 1 + 1) ?_ (by omega)
    repeat' (refine ownsRow_setCell_below ?_ (by dsimp only; omega) _)
    simpa using hown
  · repeat' (refine Below.setCell ?_ (by dsimp only; omega) _)
    exact hb2

set_option maxRecDepth 100000 in
set_option maxHeartbeats 1000000 in
theorem l2CopyNZ_any (i s q : Int) (w : World) :
    Calls Try.prog 47 #[.agg #[.int .i64 i, .int .i64 s, .int .i64 q, .slice none 0 0]] w fun e w' => ∃ a c, e = .returned (.agg #[.int .i64 i, .int .i64 s, .int .i64 q, .slice a 0 c]) ∧
      w'.ownsRow w.heap.size 131 3 (.slice a 0 c) 0 (actCells []) ∧ Below w.heap.size w w' := by
  obtain ⟨i0, hi, hz0, hz1, hz2⟩ := info_parts infoAct
  have ho := World.ownsRow_lit (e := 131) (size := 3) ((w.alloc (.cells #[.int .i64 i, .int .i64 s, .int .i64 q, .slice none 0 0] 45)).alloc (.cells #[.int .i64 0, .int .i64 0, .int .i64 0, .slice none 0 0] 45)) #[] 0 (Nat.le_refl _) (by decide) rfl
  have hb1 : Below w.heap.size w (((w.alloc (.cells #[.int .i64 i, .int .i64 s, .int .i64 q, .slice none 0 0] 45)).alloc (.cells #[.int .i64 0, .int .i64 0, .int .i64 0, .slice none 0 0] 45)).alloc (.cells #[] 131)) := by go_grown
  have B1 := (Blk.new w 45 #[.int .i64 i, .int .i64 s, .int .i64 q, .slice none 0 0]).below (w' := ((w.alloc (.cells #[.int .i64 i, .int .i64 s, .int .i64 q, .slice none 0 0] 45)).alloc (.cells #[.int .i64 0, .int .i64 0, .int .i64 0, .slice none 0 0] 45)).alloc (.cells #[] 131)) (by go_grown)
  have B2 := (Blk.new (w.alloc (.cells #[.int .i64 i, .int .i64 s, .int .i64 q, .slice none 0 0] 45)) 45 #[.int .i64 0, .int .i64 0, .int .i64 0, .slice none 0 0]).below (w' := ((w.alloc (.cells #[.int .i64 i, .int .i64 s, .int .i64 q, .slice none 0 0] 45)).alloc (.cells #[.int .i64 0, .int .i64 0, .int .i64 0, .slice none 0 0] 45)).alloc (.cells #[] 131)) (by go_grown)
  simp only [World.size_alloc] at B2 ho
  go_enter Try.func47, Try.ntmps47
  go_wp2_with (at_builtin; refine wpList_append_own_none rfl _ _ 43 rfl (w.heap.size + 1 + 1) 131 i0 3 Try.underlying43 hi _ 0 [] rfl ho rfl ?_)
  have hlt2 := B2.lt
  obtain ⟨p0, p1, p2, p3⟩ := B1.cel4
  have pf := B1.frozen 3
  obtain ⟨q0, q1, q2, q3⟩ := B2.cel4
  obtain ⟨f0, f1, f2, f3⟩ := B2.frz4
  clear B1 B2
  go_wp2
  refine bodyPost_ret (v := .agg #[.int .i64 i, .int .i64 s, .int .i64 q, .slice (some ⟨w.heap.size + 1 + 1, 0, none⟩) 0 0]) (by simp [results, Try.results47, go_sem]) rfl ⟨_, _, rfl, ?_, ?_⟩
  · have h9 := World.ownsRow_lit (e := 131) (size := 3) ((w.alloc (.cells #[.int .i64 i, .int .i64 s, .int .i64 q, .slice (some ⟨w.heap.size + 1 + 1, 0, none⟩) 0 0] 45)).alloc (.cells #[.int .i64 i, .int .i64 s, .int .i64 q, .slice (some ⟨w.heap.size + 1 + 1, 0, none⟩) 0 0] 45)) #[] 0 (Nat.le_refl _) (by decide) rfl
    simp only [World.size_alloc] at h9
    exact own_base h9 (by omega)
  · go_grown

/-- The acts begin somewhere, or are none. -/
def NiceZ (p : TxnQ) : Prop := (p.va = .slice none 0 0 ∧ p.acts = []) ∨ ∃ b off c, p.va = .slice (some ⟨b, off, none⟩) p.acts.length c
theorem niceZ_own {w : World} {p : TxnQ} (h : txnK.own w p) : NiceZ p := by
  obtain ⟨i, s, q, va, acts⟩ := p
  have h : actK.Own w va acts := h
  rcases h.1.2 with ⟨he, h0⟩ | ⟨g, cap, cur, he, r⟩
  · exact Or.inl ⟨he, List.eq_nil_of_length_eq_zero h0⟩
  · exact Or.inr ⟨g, 0, cap, he⟩
theorem l2CopyZ_any (p : TxnQ) (w : World) (h : txnK.rd w p) (hN : NiceZ p) (hl : p.acts.length ≤ 1048576) :
    Calls Try.prog 47 #[.agg #[.int .i64 p.i, .int .i64 p.s, .int .i64 p.q, p.va]] w fun e w' => ∃ a c, e = .returned (.agg #[.int .i64 p.i, .int .i64 p.s, .int .i64 p.q, .slice a p.acts.length c]) ∧
      w'.ownsRow w.heap.size 131 3 (.slice a p.acts.length c) p.acts.length (actCells p.acts) ∧ Below w.heap.size w w' := by
  obtain ⟨i, s, q, va, acts⟩ := p
  dsimp only
  rcases hN with ⟨e1, e2⟩ | ⟨b, off, c, e1⟩
  · dsimp only at e1 e2
    subst e1 e2
    exact l2CopyNZ_any i s q w
  · dsimp only at e1
    subst e1
    have hT : actK.At w (.slice (some ⟨b, off, none⟩) acts.length c) acts := h
    exact l2CopySZ_any i s q b off c acts w (actK_at hT).2 hl

theorem cloneTxnQ_any (p : TxnQ) (w : World) (h : txnK.rd w p) (hN : NiceZ p) (hl : p.acts.length ≤ 1048576) :
    Calls Try.prog 48 #[.agg #[.int .i64 p.i, .int .i64 p.s, .int .i64 p.q, p.va]] w fun e w' => ∃ a c, e = .returned (.agg #[.int .i64 p.i, .int .i64 p.s, .int .i64 p.q, .slice a p.acts.length c]) ∧
      w'.ownsRow w.heap.size 131 3 (.slice a p.acts.length c) p.acts.length (actCells p.acts) ∧ Below w.heap.size w w' := by
  obtain ⟨i, s, q, va, acts⟩ := p
  dsimp only
  rcases hN with ⟨e1, e2⟩ | ⟨b, off, c, e1⟩
  · dsimp only at e1 e2
    subst e1 e2
    refine (cloneTxnN_any i s q w).mono ?_
    rintro e w' ⟨rfl, hb⟩
    exact ⟨none, 0, rfl, World.ownsRow_nil _ _ _ _, hb⟩
  · dsimp only at e1
    subst e1
    have hT : actK.At w (.slice (some ⟨b, off, none⟩) acts.length c) acts := h
    exact cloneTxnZ_any i s q b off c acts w (actK_at hT).2 hl

end Go.Proofs.Ytkkdjgiencilbaa
