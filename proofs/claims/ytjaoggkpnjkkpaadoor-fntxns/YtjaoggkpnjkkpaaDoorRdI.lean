/- ReadTxn of the program: what cannot be read panics and is recovered. -/
import Derived.Test.YtjaoggkpnjkkpaaDoorRdM
import Derived.Defers
import Derived.Recover
namespace Go.Proofs.YtjaoggkpnjkkpaaDoor
open Go.RowKit
set_option linter.unusedVariables false
set_option linter.unusedSimpArgs false

/-- Five cells of a block are written. -/
def set5 (w : World) (p : Nat) (c i s q v : Value) : World := ((((w.setCell ⟨p, 0, none⟩ c).setCell ⟨p, 1, none⟩ i).setCell ⟨p, 2, none⟩ s).setCell ⟨p, 3, none⟩ q).setCell ⟨p, 4, none⟩ v

set_option maxRecDepth 100000 in
set_option maxHeartbeats 1000000 in
theorem catch_panicking (p : Nat) (u : TypeId) (pv : Value) (older : List PanicEntry) (w : World) (hB : Blk w p 29 #[.int .i64 0, .int .i64 0, .int .i64 0, .int .i64 0, .slice none 0 0]) :
    CallsD Tryd.prog 24 #[.pointer (some ⟨p, 0, none⟩)] (.panicking ({ v := .iface u pv, recovered := false } :: older)) w fun e u' w' =>
      e = .returned (.tuple #[]) ∧ u' = .panicking ({ v := .iface u pv, recovered := true } :: older) ∧ w' = set5 w p (.int .i64 5) (.int .i64 0) (.int .i64 0) (.int .i64 0) (.slice none 0 0) := by
  have q0 := hB.cell 0 _ rfl
  have q1 := hB.cell 1 _ rfl
  have q2 := hB.cell 2 _ rfl
  have q3 := hB.cell 3 _ rfl
  have q4 := hB.cell 4 _ rfl
  have f0 := hB.frozen 0
  have f1 := hB.frozen 1
  have f2 := hB.frozen 2
  have f3 := hB.frozen 3
  have f4 := hB.frozen 4
  refine callsD_of_wpS Tryd.func24 rfl fun c₀ cs hu => ?_
  apply wpS_seq
  apply wpS_region
  simp [wpOpsS, go_sem, recoverD, hu, Tryd.ntmps24, Exit.thenS]
  refine wpS_cond (t := true) (by simp [Act.eval, Array.replicate]) ?_
  simp only [if_true]
  simp only [List.getElem_toArray, List.getElem_cons_zero, List.getElem_cons_succ] at q0 q1 q2 q3 q4
  apply wpS_region
  simp [wpOpsS, go_sem, q0, q1, q2, q3, q4, f0, f1, f2, f3, f4, bodyPostS, results, Tryd.results24, set5]

set_option maxRecDepth 100000 in
set_option maxHeartbeats 1000000 in
theorem catch_idle (p : Nat) (w : World) :
    CallsD Tryd.prog 24 #[.pointer (some ⟨p, 0, none⟩)] .returning w fun e u' w' => e = .returned (.tuple #[]) ∧ u' = .returning ∧ w' = w := by
  refine callsD_of_wpS Tryd.func24 rfl fun c₀ cs hu => ?_
  apply wpS_seq
  apply wpS_region
  simp [wpOpsS, go_sem, recoverD, hu, Tryd.ntmps24, Exit.thenS]
  refine wpS_cond (t := false) (by simp [Act.eval, Array.replicate]) ?_
  simp only [Bool.false_eq_true, if_false]
  refine wpS_of_wp (wp_skip ?_)
  cases c₀
  simp_all [bodyPostS, results, Tryd.results24]

/-- What ReadTxn tells. -/
def rdO (ds : List Int) : Option (Int × Int × Int × List ActD) := if readC ds = 0 then txnOf (readR ds) else none
def rdC (ds : List Int) : Int := if (rdO ds).isSome then 0 else 5
def rdT (ds : List Int) : Int × Int × Int × List ActD := (rdO ds).getD (0, 0, 0, [])

theorem blk5 {w : World} {p : Nat} {t : TypeId} {a0 a1 a2 a3 a4 c i s q v : Value} (h : Blk w p t #[a0, a1, a2, a3, a4]) : Blk (set5 w p c i s q v) p t #[c, i, s, q, v] := by
  have h0 := Go.Joins.block_setCell (i := 0) (v := c) h
  have h1 := Go.Joins.block_setCell (i := 1) (v := i) h0
  have h2 := Go.Joins.block_setCell (i := 2) (v := s) h1
  have h3 := Go.Joins.block_setCell (i := 3) (v := q) h2
  have h4 := Go.Joins.block_setCell (i := 4) (v := v) h3
  unfold Blk set5
  simpa using h4

theorem below5 {B : Nat} {a w : World} {p : Nat} {c i s q v : Value} (h : Below B a w) (hp : B ≤ p) : Below B a (set5 w p c i s q v) := ((((h.setCell hp _).setCell hp _).setCell hp _).setCell hp _).setCell hp _
theorem own5 {w : World} {base e n sz p : Nat} {vv c i s q v : Value} {xs : List Value} (h : w.ownsRow base e sz vv n xs) (hp : p < base) : (set5 w p c i s q v).ownsRow base e sz vv n xs := by
  unfold set5
  repeat' (refine ownsRow_setCell_below ?_ hp _)
  exact h

set_option maxRecDepth 100000 in
set_option maxHeartbeats 2000000 in
theorem implReadTxn_any (a : Option Addr) (cap : Nat) (ds : List Int) (t : TypeId) (x : Value) (w : World) (hG : ErrVar w t x) (h : Row .u8 w a ds) (hu : ∀ i, 0 ≤ ds.getD i 0 ∧ ds.getD i 0 ≤ 255) (hl : ds.length ≤ 1048576) :
    Calls Tryd.prog 6 #[.slice a ds.length cap] w fun e w' => ∃ b c, e = .returned (.agg #[.int .i64 (rdC ds), .int .i64 (rdT ds).1, .int .i64 (rdT ds).2.1, .int .i64 (rdT ds).2.2.1, .slice b (rdT ds).2.2.2.length c]) ∧
      w'.ownsRow w.heap.size 54 3 (.slice b (rdT ds).2.2.2.length c) (rdT ds).2.2.2.length (actCells (rdT ds).2.2.2) ∧ Below w.heap.size w w' := by
  have hmf : ∀ (fn : Fn) (first cap : Array Value) (w : World), (Instr.makeFunc fn first cap).run Tryd.prog w = .ok (.func fn first cap) w := fun _ _ _ _ => rfl
  have hm := fun w hG h => mustRead_any a cap ds t x w hG h hu hl
  have hb0 : Below w.heap.size w (w.alloc (.cells #[.int .i64 0, .int .i64 0, .int .i64 0, .int .i64 0, .slice none 0 0] 29)) := by go_grown
  have B0 := Blk.new w 29 #[.int .i64 0, .int .i64 0, .int .i64 0, .int .i64 0, .slice none 0 0]
  change ∀ w hG h, Calls _ _ _ _ fun e w' => MustPost w t x (rdO ds) e w' at hm
  unfold rdC rdT
  generalize rdO ds = o at hm
  go_enter_defers Tryd.func6, Tryd.ntmps6
  go_wp2_with fail
  generalize w.alloc (.cells #[.int .i64 0, .int .i64 0, .int .i64 0, .int .i64 0, .slice none 0 0] 29) = W at B0 hb0
  have hlt := B0.lt
  refine (hm _ (hG.below hb0) (h.below hb0)).mono ?_
  rintro e w2 hp
  rcases o with _ | ⟨z0, z1, z2, zs⟩
  · obtain ⟨rfl, hb⟩ := hp
    replace B0 := B0.below hb
    go_wp2
    refine leaves_cons (f := 24) (args := #[.pointer (some ⟨w.heap.size, 0, none⟩)]) (by simp) (by simp [go_sem]) ?_
    refine (catch_panicking w.heap.size t x [] _ B0).mono ?_
    rintro e u' w3 ⟨rfl, rfl, rfl⟩
    have B9 := blk5 (c := .int .i64 5) (i := .int .i64 0) (s := .int .i64 0) (q := .int .i64 0) (v := .slice none 0 0) B0
    have q0 := B9.cell 0 _ rfl
    have q1 := B9.cell 1 _ rfl
    have q2 := B9.cell 2 _ rfl
    have q3 := B9.cell 3 _ rfl
    have q4 := B9.cell 4 _ rfl
    simp only [List.getElem_toArray, List.getElem_cons_zero, List.getElem_cons_succ] at q0 q1 q2 q3 q4
    refine ⟨.agg #[.int .i64 5, .int .i64 0, .int .i64 0, .int .i64 0, .slice none 0 0], by simp [results, Tryd.results6, go_sem, q0, q1, q2, q3, q4], ?_⟩
    exact ⟨_, _, rfl, World.ownsRow_nil _ _ _ _, below5 (below_from hb0 hb) (Nat.le_refl _)⟩
  · obtain ⟨b, c, rfl, ho, hb⟩ := hp
    replace B0 := B0.below hb
    have q0 := B0.cell 0 _ rfl
    have q1 := B0.cell 1 _ rfl
    have q2 := B0.cell 2 _ rfl
    have q3 := B0.cell 3 _ rfl
    have q4 := B0.cell 4 _ rfl
    have f0 := B0.frozen 0
    have f1 := B0.frozen 1
    have f2 := B0.frozen 2
    have f3 := B0.frozen 3
    have f4 := B0.frozen 4
    go_wp2
    refine leaves_cons (f := 24) (args := #[.pointer (some ⟨w.heap.size, 0, none⟩)]) (by simp) (by simp [go_sem]) ?_
    refine (catch_idle w.heap.size _).mono ?_
    rintro e u' w3 ⟨rfl, rfl, rfl⟩
    clear q0 q1 q2 q3 q4 f0 f1 f2 f3 f4
    have B9 := blk5 (c := .int .i64 0) (i := .int .i64 z0) (s := .int .i64 z1) (q := .int .i64 z2) (v := .slice b zs.length c) B0
    have hb9 := below5 (c := .int .i64 0) (i := .int .i64 z0) (s := .int .i64 z1) (q := .int .i64 z2) (v := .slice b zs.length c) (below_from hb0 hb) (Nat.le_refl _)
    have ho9 := own5 (c := .int .i64 0) (i := .int .i64 z0) (s := .int .i64 z1) (q := .int .i64 z2) (v := .slice b zs.length c) ho hlt
    have q0 := B9.cell 0 _ rfl
    have q1 := B9.cell 1 _ rfl
    have q2 := B9.cell 2 _ rfl
    have q3 := B9.cell 3 _ rfl
    have q4 := B9.cell 4 _ rfl
    simp only [List.getElem_toArray, List.getElem_cons_zero, List.getElem_cons_succ] at q0 q1 q2 q3 q4
    change Leaves _ _ _ _ _ _ (set5 w2 w.heap.size (.int .i64 0) (.int .i64 z0) (.int .i64 z1) (.int .i64 z2) (.slice b zs.length c))
    refine ⟨.agg #[.int .i64 0, .int .i64 z0, .int .i64 z1, .int .i64 z2, .slice b zs.length c], by simp [results, Tryd.results6, go_sem, q0, q1, q2, q3, q4], ?_⟩
    exact ⟨_, _, rfl, own_base ho9 (by omega), hb9⟩

end Go.Proofs.YtjaoggkpnjkkpaaDoor
