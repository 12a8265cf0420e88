/- The program's undoing: deferred calls, run from the last one on. No condition. -/
import Derived.Test.YtjaoggkpnjkkpaaS4
import Derived.Defers
namespace Go.Proofs.Ytjaoggkpnjkkpaa
open Go.RowKit Go.Maps Go.Sort Go.Shelf
set_option linter.unusedVariables false
set_option linter.unusedSimpArgs false

theorem bkA_foldl (xs : List ItemD) : ∀ us : List UndoD, bkA xs us = us.reverse.foldl bk1 xs
  | [] => rfl
  | u :: r => by simp [bkA, bkA_foldl xs r]

set_option maxRecDepth 100000 in
set_option maxHeartbeats 1000000 in
theorem undo_d (b : Nat) (xs : List ItemD) (k : Int) (t : Bool) (v : Int) (u : FrameMode) (w : World) (h : ShelfAt w b xs) (hl : xs.length ≤ 100) (hu : unF1 ⟨k, t, v⟩ = 0) :
    CallsD Try.prog 82 #[.map (some b), .agg #[.int .i64 k, .bool t, .int .i64 v]] u w fun e u' w' => u' = u ∧ (e = .returned (.tuple #[]) ∧ ShelfAt w' b (bk1 xs ⟨k, t, v⟩) ∧ Only b (b + 1) w w') := by
  obtain ⟨hk, hv⟩ := unF1_zero hu
  dsimp only at hk hv
  have h0 : ShelfAt (w.alloc (.cells #[.int .i64 k, .bool t, .int .i64 v] 96)) b xs := h.below (by go_grown)
  have hkey := keyI64 (k := k) (by omega)
  have hval := plainElem_int (H := Unit) Try.underlying2 (wf64 (v := v) (by omega))
  cases t
  · have e2 : bk1 xs ⟨k, false, v⟩ = delI xs k := by simp [bk1]
    rw [e2]
    go_enter_d Try.func82, Try.ntmps82
    go_wp2_with (at_delete; refine wpList_delete_own _ rfl _ _ 76 2 rfl 2 lawI64 Try.underlying76 _ b xs.length _ rfl h0 _ _ rfl hkey ?_; intro w1 hown1 hturn1)
    go_end0
    rw [shelf_del] at hown1
    exact ⟨rfl, tighten hown1, only_of_alloc hturn1.grown⟩
  · have e2 : bk1 xs ⟨k, true, v⟩ = setI xs ⟨k, v⟩ := by simp [bk1]
    rw [e2]
    go_enter_d Try.func82, Try.ntmps82
    go_wp2_with (at_mapUpdate; refine wpList_mapUpdate_own _ rfl _ _ _ 76 rfl 2 2 lawI64 Try.underlying76 _ b xs.length _ rfl h0 (by unfold maxLen; omega) _ _ _ rfl rfl hkey _ [] hval ?_; intro w1 hown1 hgrow1)
    go_end0
    rw [shelf_put] at hown1
    exact ⟨rfl, tighten hown1, only_of_alloc hgrow1⟩

def unDef (b : Nat) (u : UndoD) : Deferred := { target := .fn (.func 82) #[], args := #[.map (some b), .agg #[.int .i64 u.key, .bool u.was, .int .i64 u.val]] }

theorem leaves_undo {fn : Func} {tmps : Array Value} {R : Ending → World → Prop} (b : Nat) (hR : ∀ w, (results fn tmps).run Try.prog w = .ok (.tuple #[]) w) :
    ∀ (ds : List UndoD) (xs : List ItemD) (w : World), ShelfAt w b xs → Good xs → xs.length + ds.length ≤ 100 → (∀ u ∈ ds, unF1 u = 0) →
      (∀ w', ShelfAt w' b (ds.foldl bk1 xs) → Only b (b + 1) w w' → R (.returned (.tuple #[])) w') → Leaves Try.prog fn tmps R (ds.map (unDef b)) .returning w
  | [], xs, w, h, g, hl, hu, hK => ⟨_, hR w, hK w h (Only.refl _ _ _)⟩
  | ⟨k, t, v⟩ :: ds, xs, w, h, g, hl, hu, hK => by
    have hu1 := hu ⟨k, t, v⟩ (by simp)
    obtain ⟨g1, l1⟩ := bk1_good g hu1
    rw [List.length_cons] at hl
    rw [List.map_cons]
    refine leaves_cons (f := 82) (args := #[.map (some b), .agg #[.int .i64 k, .bool t, .int .i64 v]]) (by simp) (by simp [go_sem]) ?_
    refine (undo_d b xs k t v .returning w h (by omega) hu1).mono ?_
    rintro e u' w' ⟨rfl, rfl, h1, ho1⟩
    refine leaves_undo b hR ds _ w' h1 g1 (by omega) (fun u hm => hu u (by simp [hm])) ?_
    intro w2 h2 ho2
    exact hK w2 h2 (ho1.trans ho2)

set_option maxRecDepth 100000 in
set_option maxHeartbeats 2000000 in
theorem undoAll_any (b : Nat) (xs : List ItemD) (a : Option Addr) (cap : Nat) (us : List UndoD) (w : World) (h : ShelfAt w b xs) (g : Good xs) (hl : xs.length ≤ 8) (ha : UndoRow w a us) (hu : undoF us = 0) :
    Calls Try.prog 52 #[.map (some b), .slice a us.length cap] w fun e w' => e = .returned (.tuple #[]) ∧ ShelfAt w' b (bkA xs us) ∧ Only b (b + 1) w w' := by
  obtain ⟨hu4, hu1⟩ := undoF_parts hu
  go_enter_defers Try.func52, Try.ntmps52
  go_wp2
  refine wp_loop (fun a' w' => ∃ (k : Nat) (u5 u9 u10 u11 u12 u13 u14 : Value), k ≤ us.length ∧ Below w.heap.size w w' ∧
      a' = { tmps := #[Value.map (some b), Value.slice a us.length cap, undef, undef, undef, u5, Value.slice a us.length cap, Value.int IntKind.i64 us.length, Value.int IntKind.i64 k, u9, u10, u11, u12, u13, u14], defers := (us.take k).reverse.map (unDef b) })
    (fun a' _ => us.length - (intOf (a'.tmps.getD 8 undef)).toNat) ⟨0, undef, undef, undef, undef, undef, undef, undef, Nat.zero_le _, Below.refl _ _, by simp⟩ ?_
  rintro a' wr ⟨k, u5, u9, u10, u11, u12, u13, u14, hk, hb, rfl⟩
  by_cases hlt : k < us.length
  · obtain ⟨bb, off, rfl, hbs, hc0, hc1, hc2⟩ := (ha.below hb).at k hlt
    have hsz := hb.size
    have HS : Hid ((us.take (k + 1)).reverse.map (unDef b) = unDef b (us.getD k undoNo) :: (us.take k).reverse.map (unDef b)) := by
      have e : us.getD k undoNo = us[k] := by simp [List.getD, hlt]
      show _ = _
      rw [List.take_succ_eq_append_getElem hlt, e, List.reverse_append, List.map_append]
      rfl
    generalize us.getD k undoNo = z at hc0 hc1 hc2 HS
    obtain ⟨z0, z1, z2⟩ := z
    dsimp only at hc0 hc1 hc2
    generalize (us.take k).reverse.map (unDef b) = DS at HS
    go_wp2
    refine ⟨⟨k + 1, .pointer (some ⟨wr.heap.size, 0, none⟩), .bool true, .pointer (some ⟨bb, off + k * 3, none⟩), .agg #[.int .i64 z0, .bool z1, .int .i64 z2], .map (some b), .agg #[.int .i64 z0, .bool z1, .int .i64 z2], .int .i64 ((k : Int) + 1), by omega, by go_grown, ?_⟩, ?_⟩
    · rw [HS.out, show ((k + 1 : Nat) : Int) = (k : Int) + 1 by omega]
      rfl
    · simp [intOf]
      omega
  · have hkl : k = us.length := by omega
    subst hkl
    rw [List.take_length]
    go_wp2
    refine leaves_undo b (fun w => results_none rfl _ _ _) us.reverse xs wr (h.below hb) g (by rw [List.length_reverse]; omega) (fun u hm => hu1 u (List.mem_reverse.1 hm)) ?_
    intro w' h1 ho
    exact ⟨rfl, by rw [bkA_foldl]; exact h1, (Only.of_below hb).trans ho⟩

end Go.Proofs.Ytjaoggkpnjkkpaa
