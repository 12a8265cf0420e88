/- The program's shelf: made of items, laid upon, asked, and told as items again; by the plain store. No condition. -/
import Derived.Test.YtjaoggkpnjkkpaaS3
import Derived.Test.YtjaoggkpnjkkpaaU3
import Derived.Test.YtjaoggkpnjkkpaaLay3
namespace Go.Proofs.Ytjaoggkpnjkkpaa
open Go.RowKit Go.Maps Go.Sort Go.Shelf
set_option linter.unusedVariables false
set_option linter.unusedSimpArgs false

/-- Block b is a map that reads as these items. -/
def ShelfAt (w : World) (b : Nat) (xs : List ItemD) : Prop := w.ownsMap (H := Unit) Try.prog 2 (plainElem Try.prog 2) b xs.length (shelfD xs)

theorem lawI64 : Keyed Try.prog 2 := int_keyed Try.underlying2
theorem zeroI64 (w : World) : (zeroValue 2).run Try.prog w = .ok (.int .i64 0) w := by kernel_rfl

theorem tighten {w : World} {b n : Nat} {xs : List ItemD} (h : w.ownsMap (H := Unit) Try.prog 2 (plainElem Try.prog 2) b n (shelfD xs)) : ShelfAt w b xs := by
  obtain ⟨es, clock, hb, F, _, hD⟩ := h
  refine ⟨es, clock, hb, F, ?_, hD⟩
  have e := congrArg Maps.size hD
  rw [shelf_size, Maps.size_eq, length_sorted] at e
  simp at e
  omega

theorem ShelfAt.below {w w' : World} {b : Nat} {xs : List ItemD} (h : ShelfAt w b xs) (hb : Below w.heap.size w w') : ShelfAt w' b xs := by
  have hlt := h.lt
  obtain ⟨es, clock, hh, r⟩ := h
  exact ⟨es, clock, (hb.block b hlt).trans hh, r⟩

theorem wf64 {v : Int} (h : -9000000 ≤ v ∧ v ≤ 9000000) : (Lit.int .i64 v).wf = true := WalkArith.wf_i64 (by omega)
theorem keyI64 {k : Int} (h : -9000000 ≤ k ∧ k ≤ 9000000) : keyOf Try.prog 2 (.int .i64 k) = some (.int .i64 k) := keyOf_int_mk Try.underlying2 (wf64 h)

theorem delI_none {l : List ItemD} {k : Int} (h : ∀ y ∈ l, y.key ≠ k) : delI l k = l := by
  unfold delI
  rw [List.filter_eq_self]
  intro y hy
  simpa using h y hy

theorem insI_high {x : ItemD} : ∀ {l : List ItemD}, (∀ y ∈ l, y.key < x.key) → insI x l = l ++ [x]
  | [], _ => rfl
  | y :: r, h => by
    have h1 := h y (by simp)
    have ih := insI_high (l := r) (fun z hz => h z (by simp [hz]))
    simp [insI, show ¬ x.key < y.key by omega, ih]

theorem setI_take {zs : List ItemD} (g : Good zs) {k : Nat} (hk : k < zs.length) : setI (zs.take k) (zs.getD k itemNo) = zs.take (k + 1) := by
  have hlow : ∀ y ∈ zs.take k, y.key < (zs.getD k itemNo).key := by
    intro y hy
    obtain ⟨j, hj, rfl⟩ := List.mem_iff_getElem.1 hy
    have hj' : j < k := by simp at hj; omega
    have := (List.pairwise_iff_getElem.1 g.rise) j k (by omega) hk hj'
    simpa [List.getD, hk] using this
  have e : zs.getD k itemNo = zs[k] := by simp [List.getD, hk]
  unfold setI
  rw [delI_none (fun y hy => by have := hlow y hy; omega), insI_high hlow, List.take_succ_eq_append_getElem hk, e]

set_option maxHeartbeats 1000000 in
theorem shelfOf_any (a : Option Addr) (cap : Nat) (zs : List ItemD) (w : World) (h : ItemRow w a zs) (hl : zs.length ≤ 8) (g : Good zs) :
    Calls Try.prog 46 #[.slice a zs.length cap] w fun e w' => e = .returned (.map (some w.heap.size)) ∧ ShelfAt w' w.heap.size zs ∧ Below w.heap.size w w' := by
  have hmm := @run_makeMap Try.prog
  have hm0 : (w.alloc (.map #[] 0)).ownsMap (H := Unit) Try.prog 2 (plainElem Try.prog 2) w.heap.size 0 (shelfD (zs.take 0)) := by
    rw [List.take_zero]
    exact World.ownsMap_made _ _ _ _
  go_enter Try.func46, Try.ntmps46
  go_wp2
  go_loopw [9] (fun i wr => ∃ k : Nat, k ≤ zs.length ∧ i = .int .i64 k ∧ wr.ownsMap (H := Unit) Try.prog 2 (plainElem Try.prog 2) w.heap.size k (shelfD (zs.take k)) ∧ Below w.heap.size w wr) (fun i _ => zs.length - (intOf i).toNat)
  case atStart => exact ⟨0, Nat.zero_le _, rfl, hm0, (Below.refl _ _).alloc (Nat.le_refl _) _⟩
  case round =>
    obtain ⟨k, hk, rfl, hown, hb⟩ := hrel
    by_cases hlt : k < zs.length
    · obtain ⟨b, off, rfl, hbs, hc0, hc1⟩ := (h.below hb).at k hlt
      have hsz := hb.size
      have HS : Hid (setI (zs.take k) (zs.getD k itemNo) = zs.take (k + 1)) := setI_take g hlt
      have hgk := g.key _ (getD_mem hlt)
      have hgv := g.val _ (getD_mem hlt)
      generalize zs.getD k itemNo = z at hc0 hc1 HS hgk hgv
      obtain ⟨z0, z1⟩ := z
      dsimp only at hc0 hc1 hgk hgv
      have hkey := keyI64 (k := z0) (by omega)
      have hval := plainElem_int (H := Unit) Try.underlying2 (wf64 (v := z1) (by omega))
      go_wp2_with (at_mapUpdate; refine wpList_mapUpdate_own _ rfl _ _ _ 76 rfl 2 2 lawI64 Try.underlying76 _ w.heap.size k _ rfl (hown.alloc _) (by unfold maxLen; omega) _ _ _ rfl rfl hkey _ [] hval ?_; intro w1 hown1 hgrow1)
      rw [shelf_put] at hown1
      have hb1 : Below w.heap.size w w1 := (hb.alloc hsz _).grown hgrow1 (by simp; omega) (fun j hj => by cases hj; exact Nat.le_refl _)
      clear hown hgrow1 hkey hval
      go_wp2
      go_roundw
      case rel => exact ⟨k + 1, by omega, by go_num, by rw [← HS.out]; exact hown1, hb1⟩
      case measure => simp [intOf]; omega
    · have hkl : k = zs.length := by omega
      subst hkl
      rw [List.take_length] at hown
      go_wp2
      go_ret
      exact ⟨rfl, hown, hb⟩

section
variable (w : World) {ops : Array Oper} {rest : List Oper} {o : Oper} {a : Act} {Q : Exit → Act → World → Prop}

/-- A key is asked for, and whether it is there. -/
theorem wpList_shelf_ok (hg : o.guard = none) (m x : Operand) (hop : o.op = Op.lookup 76 m x true) (b : Nat) (xs : List ItemD) (hm : a.eval m = .map (some b)) (h : ShelfAt w b xs) (k : Int) (hx : a.eval x = .int .i64 k) (hk : -9000000 ≤ k ∧ k ≤ 9000000)
    (hK : wpList Try.prog ops Q rest (a.put o.dst (.tuple #[.int .i64 (valI xs k), .bool (hasI xs k)])) w) : wpList Try.prog ops Q (o :: rest) a w := by
  refine wpList_lookup_own_ok_int w hg m x 76 hop 2 2 .i64 lawI64 Try.underlying76 Try.underlying2 (zeroI64 _) b xs.length _ hm h _ _ hx (keyI64 hk) ?_
  intro c hat _
  rw [shelf_at] at hat
  simp only [DataW.lit.injEq, Lit.int.injEq, true_and] at hat
  rw [shelf_has, ← hat]
  exact hK

theorem wpList_shelf_at (hg : o.guard = none) (m x : Operand) (hop : o.op = Op.lookup 76 m x false) (b : Nat) (xs : List ItemD) (hm : a.eval m = .map (some b)) (h : ShelfAt w b xs) (k : Int) (hx : a.eval x = .int .i64 k) (hk : -9000000 ≤ k ∧ k ≤ 9000000)
    (hK : wpList Try.prog ops Q rest (a.put o.dst (.int .i64 (valI xs k))) w) : wpList Try.prog ops Q (o :: rest) a w := by
  refine wpList_lookup_own_int w hg m x 76 hop 2 2 .i64 lawI64 Try.underlying76 Try.underlying2 (zeroI64 _) b xs.length _ hm h _ _ hx (keyI64 hk) ?_
  intro c hat _
  rw [shelf_at] at hat
  simp only [DataW.lit.injEq, Lit.int.injEq, true_and] at hat
  rw [← hat]
  exact hK
end

theorem layC_ways (xs : List ItemD) (k v : Int) :
    (inW v (-20000) 20000 = false ∧ layC xs k v = 3) ∨ (inW v (-20000) 20000 = true ∧ hasI xs k = true ∧ layC xs k v = 0) ∨
    (inW v (-20000) 20000 = true ∧ hasI xs k = false ∧ 8 ≤ xs.length ∧ layC xs k v = 7) ∨ (inW v (-20000) 20000 = true ∧ hasI xs k = false ∧ ¬ 8 ≤ xs.length ∧ layC xs k v = 0) := by
  unfold layC
  cases h1 : inW v (-20000) 20000 <;> cases h2 : hasI xs k <;> by_cases h3 : 8 ≤ xs.length <;> simp [h3]

set_option maxRecDepth 100000 in
set_option maxHeartbeats 1000000 in
theorem lay_any (b : Nat) (xs : List ItemD) (k v : Int) (w : World) (h : ShelfAt w b xs) (hl : xs.length ≤ 8) (hk : 1 ≤ k ∧ k ≤ 20) :
    Calls Try.prog 94 #[.map (some b), .int .i64 k, .int .i64 v] w fun e w' => e = .returned (.int .i64 (layC xs k v)) ∧ (layC xs k v = 0 → ShelfAt w' b (setI xs ⟨k, v⟩)) ∧ w.grownBy w' (some b) := by
  have hkey := keyI64 (k := k) (by omega)
  have hlen : ∀ ty, (Builtin.len_ #[76] ty #[.map (some b)]).run Try.prog w = .ok (.int .i64 xs.length) w := fun ty => by
    have := World.ownsMap.len h Try.underlying76 ty
    rw [shelf_size] at this
    exact this
  have hhas := shelf_has xs k
  have hvc := fun w => isItemValue_any v w
  rcases layC_ways xs k v with ⟨h1, e⟩ | ⟨h1, h2, e⟩ | ⟨h1, h2, h3, e⟩ | ⟨h1, h2, h3, e⟩ <;> rw [e] <;> rw [h1] at hvc
  · go_enter Try.func94, Try.ntmps94
    go_wp2_with (go_at_call 63; refine (hvc _).mono ?_; rintro e w' ⟨rfl, hw⟩; replace hw := hw.symm; subst hw)
    go_ret
    exact ⟨rfl, fun h => by simp at h, World.grownBy.refl _ _⟩
  · have hval := plainElem_int (H := Unit) Try.underlying2 (wf64 (v := v) (by simp [inW] at h1; omega))
    rw [h2] at hhas
    go_enter Try.func94, Try.ntmps94
    go_wp2_with (first | (go_at_call 63; refine (hvc _).mono ?_; rintro e w' ⟨rfl, hw⟩; replace hw := hw.symm; subst hw) | (at_lookup; refine wpList_lookup_own_ok_int _ rfl _ _ 76 rfl 2 2 .i64 lawI64 Try.underlying76 Try.underlying2 (zeroI64 _) b xs.length _ rfl h _ _ rfl hkey ?_; rw [hhas]; intro c hat hwc) | (at_mapUpdate; refine wpList_mapUpdate_own _ rfl _ _ _ 76 rfl 2 2 lawI64 Try.underlying76 _ b xs.length _ rfl h (by unfold maxLen; omega) _ _ _ rfl rfl hkey _ [] hval ?_; intro w1 hown1 hgrow1))
    go_ret
    rw [shelf_put] at hown1
    exact ⟨rfl, fun _ => tighten hown1, hgrow1⟩
  · rw [h2] at hhas
    go_enter Try.func94, Try.ntmps94
    go_wp2_with (first | (go_at_call 63; refine (hvc _).mono ?_; rintro e w' ⟨rfl, hw⟩; replace hw := hw.symm; subst hw) | (at_lookup; refine wpList_lookup_own_ok_int _ rfl _ _ 76 rfl 2 2 .i64 lawI64 Try.underlying76 Try.underlying2 (zeroI64 _) b xs.length _ rfl h _ _ rfl hkey ?_; rw [hhas]; intro c hat hwc))
    go_ret
    exact ⟨rfl, fun h => by simp at h, World.grownBy.refl _ _⟩
  · have hval := plainElem_int (H := Unit) Try.underlying2 (wf64 (v := v) (by simp [inW] at h1; omega))
    rw [h2] at hhas
    go_enter Try.func94, Try.ntmps94
    go_wp2_with (first | (go_at_call 63; refine (hvc _).mono ?_; rintro e w' ⟨rfl, hw⟩; replace hw := hw.symm; subst hw) | (at_lookup; refine wpList_lookup_own_ok_int _ rfl _ _ 76 rfl 2 2 .i64 lawI64 Try.underlying76 Try.underlying2 (zeroI64 _) b xs.length _ rfl h _ _ rfl hkey ?_; rw [hhas]; intro c hat hwc) | (at_mapUpdate; refine wpList_mapUpdate_own _ rfl _ _ _ 76 rfl 2 2 lawI64 Try.underlying76 _ b xs.length _ rfl h (by unfold maxLen; omega) _ _ _ rfl rfl hkey _ [] hval ?_; intro w1 hown1 hgrow1))
    go_ret
    rw [shelf_put] at hown1
    exact ⟨rfl, fun _ => tighten hown1, hgrow1⟩

theorem only_of_alloc {w w' : World} {b : Nat} {o : Obj} (h : (w.alloc o).grownBy w' (some b)) : Only b (b + 1) w w' :=
  (Only.of_below ((Below.refl _ _).alloc (Nat.le_refl _) o)).trans (only_of_grown h (fun g hg => by cases hg; omega))

set_option maxRecDepth 100000 in
set_option maxHeartbeats 1000000 in
theorem do_any (b : Nat) (xs : List ItemD) (k y v : Int) (w : World) (h : ShelfAt w b xs) (hl : xs.length ≤ 8) (g : Good xs) (ha : actF ⟨k, y, v⟩ = 0) :
    Calls Try.prog 67 #[.map (some b), .agg #[.int .i64 k, .int .i64 y, .int .i64 v]] w fun e w' => e = .returned (.int .i64 (actC xs ⟨k, y, v⟩)) ∧ (actC xs ⟨k, y, v⟩ = 0 → ShelfAt w' b (actN xs ⟨k, y, v⟩)) ∧ Only b (b + 1) w w' := by
  obtain ⟨hk, hy, hv⟩ := actF_zero ha
  dsimp only at hk hy hv
  have hgv := g.valI y
  have h0 : ShelfAt (w.alloc (.cells #[.int .i64 k, .int .i64 y, .int .i64 v] 104)) b xs := h.below (by go_grown)
  have hO : Only b (b + 1) w (w.alloc (.cells #[.int .i64 k, .int .i64 y, .int .i64 v] 104)) := Only.of_below (by go_grown)
  have hlay := fun v w h => lay_any b xs y v w h hl hy
  have hlook : ∀ (w : World) (_ : ShelfAt w b xs) (ops : Array Oper) (rest : List Oper) (o : Oper) (a : Act) (Q : Exit → Act → World → Prop) (hg : o.guard = none) (m x : Operand) (hop : o.op = Op.lookup 76 m x true) (hm : a.eval m = .map (some b)) (hx : a.eval x = .int .i64 y) (hK : wpList Try.prog ops Q rest (a.put o.dst (.tuple #[.int .i64 (valI xs y), .bool (hasI xs y)])) w), wpList Try.prog ops Q (o :: rest) a w :=
    fun w h ops rest o a Q hg m x hop hm hx hK => wpList_shelf_ok w hg m x hop b xs hm h y hx (by omega) hK
  rcases (show k = 1 ∨ k = 2 ∨ k = 3 ∨ k = 4 by omega) with rfl | rfl | rfl | rfl
  · have e1 : actC xs ⟨1, y, v⟩ = layC xs y v := by simp [actC]
    have e2 : actN xs ⟨1, y, v⟩ = setI xs ⟨y, v⟩ := by simp [actN]
    rw [e1, e2]
    clear e1 e2
    generalize layC xs y = LC at hlay
    generalize setI xs = SI at hlay
    generalize valI xs y = c at hlook hgv
    generalize hasI xs y = t at hlook
    go_enter Try.func67, Try.ntmps67
    go_wp2_with (first | (at_lookup; refine hlook _ h0 _ _ _ _ _ rfl _ _ rfl rfl rfl ?_) | (go_at_call 94; refine (hlay _ _ h0).mono ?_; rintro e w' ⟨rfl, hS, hG⟩))
    go_ret
    exact ⟨rfl, hS, only_of_alloc hG⟩
  · have e1 : actC xs ⟨2, y, v⟩ = layC xs y (valI xs y + v) := by simp [actC]
    have e2 : actN xs ⟨2, y, v⟩ = setI xs ⟨y, valI xs y + v⟩ := by simp [actN]
    rw [e1, e2]
    clear e1 e2
    generalize layC xs y = LC at hlay
    generalize setI xs = SI at hlay
    generalize valI xs y = c at hlook hgv
    generalize hasI xs y = t at hlook
    go_enter Try.func67, Try.ntmps67
    go_wp2_with (first | (at_lookup; refine hlook _ h0 _ _ _ _ _ rfl _ _ rfl rfl rfl ?_) | (go_at_call 94; refine (hlay _ _ h0).mono ?_; rintro e w' ⟨rfl, hS, hG⟩))
    go_ret
    exact ⟨rfl, hS, only_of_alloc hG⟩
  · cases hh : hasI xs y
    · have e1 : actC xs ⟨3, y, v⟩ = 4 := by simp [actC, hh]
      rw [e1]
      rw [hh] at hlook
      clear e1
      generalize valI xs y = c at hlook hgv
      go_enter Try.func67, Try.ntmps67
      go_wp2_with (at_lookup; refine hlook _ h0 _ _ _ _ _ rfl _ _ rfl rfl rfl ?_)
      go_ret
      exact ⟨rfl, fun h => by simp at h, hO⟩
    · have e1 : actC xs ⟨3, y, v⟩ = 0 := by simp [actC, hh]
      have e2 : actN xs ⟨3, y, v⟩ = delI xs y := by simp [actN]
      have hkey := keyI64 (k := y) (by omega)
      rw [e1, e2]
      rw [hh] at hlook
      clear e1 e2
      generalize valI xs y = c at hlook hgv
      go_enter Try.func67, Try.ntmps67
      go_wp2_with (first | (at_lookup; refine hlook _ h0 _ _ _ _ _ rfl _ _ rfl rfl rfl ?_) | (at_delete; refine wpList_delete_own _ rfl _ _ 76 2 rfl 2 lawI64 Try.underlying76 _ b xs.length _ rfl h0 _ _ rfl hkey ?_; intro w1 hown1 hturn1))
      go_ret
      rw [shelf_del] at hown1
      exact ⟨rfl, fun _ => tighten hown1, only_of_alloc hturn1.grown⟩
  · cases hh : hasI xs y
    · have e1 : actC xs ⟨4, y, v⟩ = 9 := by simp [actC, hh]
      rw [e1]
      rw [hh] at hlook
      clear e1
      generalize valI xs y = c at hlook hgv
      go_enter Try.func67, Try.ntmps67
      go_wp2_with (at_lookup; refine hlook _ h0 _ _ _ _ _ rfl _ _ rfl rfl rfl ?_)
      go_ret
      exact ⟨rfl, fun h => by simp at h, hO⟩
    · by_cases hc : valI xs y = v
      · have e1 : actC xs ⟨4, y, v⟩ = 0 := by simp [actC, hh, hc]
        have e2 : actN xs ⟨4, y, v⟩ = xs := by simp [actN]
        have hne : (v != v) = false := by simp
        rw [e1, e2]
        rw [hh, hc] at hlook
        clear e1 e2 hc hgv
        go_enter Try.func67, Try.ntmps67
        go_wp2_with (at_lookup; refine hlook _ h0 _ _ _ _ _ rfl _ _ rfl rfl rfl ?_)
        go_ret
        exact ⟨rfl, fun _ => h0, hO⟩
      · have e1 : actC xs ⟨4, y, v⟩ = 9 := by simp [actC, hh, hc]
        have hne : (valI xs y != v) = true := by simpa using hc
        rw [e1]
        rw [hh] at hlook
        clear e1 hc
        generalize valI xs y = c at hlook hgv hne
        go_enter Try.func67, Try.ntmps67
        go_wp2_with (at_lookup; refine hlook _ h0 _ _ _ _ _ rfl _ _ rfl rfl rfl ?_)
        go_ret
        exact ⟨rfl, fun h => by simp at h, hO⟩

end Go.Proofs.Ytjaoggkpnjkkpaa
