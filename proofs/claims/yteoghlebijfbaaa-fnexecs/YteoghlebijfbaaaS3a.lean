/- The model's look-ups in items, and its ValueAt. No condition. -/
import Derived.Test.YteoghlebijfbaaaS3x
namespace Go.Proofs.Yteoghlebijfbaaa
open Go.RowKit Go.Maps
open Go.BigFrame
set_option linter.unusedVariables false
set_option linter.unusedSimpArgs false

/-- A slice that is nil, or lies somewhere. -/
def Nice (a : Option Addr) (n cap : Nat) : Prop := (∃ ad, a = some ad) ∨ (a = none ∧ n = 0 ∧ cap = 0)
theorem nice_own {w : World} {base e size n c : Nat} {a : Option Addr} {xs : List Value} (h : w.ownsRow base e size (.slice a n c) n xs) : Nice a n c := by
  rcases h.2 with ⟨he, hn⟩ | ⟨g, cap, cur, he, _⟩
  · simp only [Value.slice.injEq] at he
    obtain ⟨rfl, rfl, rfl⟩ := he
    exact Or.inr ⟨rfl, rfl, rfl⟩
  · simp only [Value.slice.injEq] at he
    obtain ⟨rfl, _⟩ := he
    exact Or.inl ⟨_, rfl⟩

theorem hasI_none {xs : List ItemD} {k : Int} (h : ∀ j, j < xs.length → ((xs.getD j itemNo).key == k) = false) : hasI xs k = false ∧ valI xs k = 0 := by
  have hn : ∀ x ∈ xs, (x.key == k) = false := by
    intro x hx
    obtain ⟨j, hj, rfl⟩ := List.mem_iff_getElem.1 hx
    simpa [List.getD, hj] using h j hj
  constructor
  · unfold hasI
    rw [List.any_eq_false]
    intro x hx
    simp [hn x hx]
  · unfold valI
    have : xs.find? (fun x => x.key == k) = none := by
      rw [List.find?_eq_none]
      intro x hx
      simp [hn x hx]
    rw [this]

theorem hasI_first {xs : List ItemD} {k : Int} {j : Nat} (hj : j < xs.length) (h0 : ∀ i, i < j → ((xs.getD i itemNo).key == k) = false) (h1 : ((xs.getD j itemNo).key == k) = true) : hasI xs k = true ∧ valI xs k = (xs.getD j itemNo).val := by
  have e : xs.getD j itemNo = xs[j] := by simp [List.getD, hj]
  constructor
  · unfold hasI
    rw [List.any_eq_true]
    exact ⟨_, getD_mem hj, h1⟩
  · unfold valI
    have : xs.find? (fun x => x.key == k) = some (xs.getD j itemNo) := by
      rw [List.find?_eq_some_iff_getElem]
      refine ⟨h1, j, hj, e.symm, ?_⟩
      intro i hi
      have := h0 i hi
      simp [List.getD, show i < xs.length by omega] at this
      simpa using this
    rw [this]

set_option maxHeartbeats 1000000 in
theorem l3At_any (a : Option Addr) (cap : Nat) (xs : List ItemD) (k : Int) (w : World) (h : ItemRow w a xs) (hl : xs.length ≤ 1048576) :
    Calls Try.prog 62 #[.slice a xs.length cap, .int .i64 k] w fun e w' => ∃ r : Int, e = .returned (.int .i64 r) ∧ ((r = -1 ∧ hasI xs k = false ∧ valI xs k = 0) ∨ ∃ j : Nat, r = j ∧ j < xs.length ∧ hasI xs k = true ∧ valI xs k = (xs.getD j itemNo).val) ∧ w' = w := by
  go_enter Try.func62, Try.ntmps62
  go_wp2
  go_loop [5] (fun i => ∃ j : Nat, j ≤ xs.length ∧ i = .int .i64 j ∧ Hid (∀ i, i < j → ((xs.getD i itemNo).key == k) = false)) (fun i => xs.length - (intOf i).toNat)
  case atStart => exact ⟨0, Nat.zero_le _, rfl, fun j hj => absurd hj (Nat.not_lt_zero _)⟩
  case round =>
    obtain ⟨j, hj, rfl, HA⟩ := hrel
    by_cases hlt : j < xs.length
    · obtain ⟨b, off, rfl, hbs, hc0, hc1⟩ := h.at j hlt
      clear hc1
      cases he : ((xs.getD j itemNo).key == k)
      · have HB : Hid (∀ i, i < j + 1 → ((xs.getD i itemNo).key == k) = false) := by
          intro i hi
          by_cases hij : i = j
          · subst hij; exact he
          · exact HA.out i (by omega)
        clear HA
        generalize (xs.getD j itemNo).key = z at hc0 he
        go_wp2
        go_round
        case rel => exact ⟨j + 1, by omega, by go_num, HB⟩
        case measure => simp [intOf]; omega
      · have E : Hid (hasI xs k = true ∧ valI xs k = (xs.getD j itemNo).val) := hasI_first hlt HA.out he
        clear HA
        generalize (xs.getD j itemNo).key = z at hc0 he
        go_wp2
        go_ret
        exact ⟨_, rfl, Or.inr ⟨j, rfl, hlt, E.out.1, E.out.2⟩, rfl⟩
    · have hjl : j = xs.length := by omega
      subst hjl
      have E : Hid (hasI xs k = false ∧ valI xs k = 0) := hasI_none HA.out
      clear HA
      go_wp2
      go_ret
      exact ⟨_, rfl, Or.inl ⟨rfl, E.out.1, E.out.2⟩, rfl⟩

set_option maxHeartbeats 1000000 in
theorem l3Value_any (a : Option Addr) (cap : Nat) (xs : List ItemD) (k : Int) (w : World) (h : ItemRow w a xs) (hl : xs.length ≤ 1048576) :
    Calls Try.prog 63 #[.slice a xs.length cap, .int .i64 k] w fun e w' => e = .returned (.int .i64 (valI xs k)) ∧ w' = w := by
  have hc := fun w h => l3At_any a cap xs k w h hl
  go_enter Try.func63, Try.ntmps63
  go_wp2_with fail
  refine (hc _ h).mono ?_
  rintro e w' ⟨r, rfl, ⟨rfl, _, ev⟩ | ⟨j, rfl, hj, _, ev⟩, hw⟩
  · replace hw := hw.symm
    subst hw
    go_wp2
    go_ret
    rw [ev]
    exact ⟨rfl, rfl⟩
  · replace hw := hw.symm
    subst hw
    obtain ⟨b, off, rfl, hbs, hc0, hc1⟩ := h.at j hj
    have E : Hid (valI xs k = (xs.getD j itemNo).val) := ev
    clear hc0 ev hc
    generalize (xs.getD j itemNo).val = z at hc1 E
    go_wp2
    go_ret
    rw [E.out]
    exact ⟨rfl, rfl⟩

set_option maxRecDepth 100000 in
set_option maxHeartbeats 2000000 in
theorem specValueAt_any (a : Option Addr) (cap : Nat) (zs : List ItemD) (k : Int) (w : World) (h : ItemRow w a zs) (hl : zs.length ≤ 1048576) :
    Calls Try.prog 18 #[.slice a zs.length cap, .int .i64 k] w fun e w' => e = .returned (.agg #[.int .i64 (vaC zs k), .int .i64 (vaV zs k)]) ∧ Below w.heap.size w w' := by
  have hF := fun w h => l3Fault_any a cap zs w h hl
  have hat := fun w h => l3At_any a cap zs k w h hl
  have hvl := fun w h => l3Value_any a cap zs k w h hl
  have hb0 : Below w.heap.size w (w.alloc (.cells #[.int .i64 0, .int .i64 0] 43)) := by go_grown
  have B0 := Blk.new w 43 #[.int .i64 0, .int .i64 0]
  rcases va_ways zs k with ⟨h0, e1, e2⟩ | ⟨h0, h1, e1, e2⟩ | ⟨h0, h1, hk, h2, e1, e2⟩ | ⟨h0, h1, hk, h2, e1, e2⟩ <;> rw [e1, e2] <;> clear e1 e2
  case inl =>
    have hne : (itemsF zs != 0) = true := by simpa using h0
    clear h0
    generalize itemsF zs = r at hF hne
    go_enter Try.func18, Try.ntmps18
    go_wp2_with fail
    generalize w.alloc (.cells #[.int .i64 0, .int .i64 0] 43) = W0 at hb0 B0
    refine (hF _ (h.below hb0)).mono ?_
    rintro e w1 ⟨rfl, hb⟩
    replace B0 := B0.below hb
    replace hb0 := hb0.trans (hb.mono hb0.size)
    have p0 := B0.cell 0 _ rfl
    have p1 := B0.cell 1 _ rfl
    have f0 := B0.frozen 0
    have f1 := B0.frozen 1
    have hlt := B0.lt
    clear hb B0
    go_wp2
    refine bodyPost_ret (v := .agg #[.int .i64 r, .int .i64 0]) (by simp [results, Try.results18, go_sem, p0, p1]) rfl ⟨rfl, ?_⟩
    repeat' (refine Below.setCell ?_ (by dsimp only; omega) _)
    exact hb0
  all_goals
    rw [h0] at hF
    clear h0
    go_enter Try.func18, Try.ntmps18
    go_wp2_with fail
    generalize w.alloc (.cells #[.int .i64 0, .int .i64 0] 43) = W0 at hb0 B0
    refine (hF _ (h.below hb0)).mono ?_
    rintro e w1 ⟨rfl, hb⟩
    replace B0 := B0.below hb
    replace hb0 := hb0.trans (hb.mono hb0.size)
    have p0 := B0.cell 0 _ rfl
    have p1 := B0.cell 1 _ rfl
    have f0 := B0.frozen 0
    have f1 := B0.frozen 1
    have hlt := B0.lt
    clear hb B0
    go_wp2_with (go_at_call 61; refine (l1InW_any _ _ _ _).mono ?_; rintro e w' ⟨rfl, hw⟩; replace hw := hw.symm; subst hw)
  · refine bodyPost_ret (v := .agg #[.int .i64 3, .int .i64 0]) (by simp [results, Try.results18, go_sem, p0, p1]) rfl ⟨rfl, ?_⟩
    repeat' (refine Below.setCell ?_ (by dsimp only; omega) _)
    exact hb0
  · refine (hat _ (h.below hb0)).mono ?_
    rintro e w' ⟨r, rfl, ⟨rfl, _, _⟩ | ⟨j, _, _, hh, _⟩, hw⟩
    · replace hw := hw.symm
      subst hw
      go_wp2
      refine bodyPost_ret (v := .agg #[.int .i64 4, .int .i64 0]) (by simp [results, Try.results18, go_sem, p0, p1]) rfl ⟨rfl, ?_⟩
      repeat' (refine Below.setCell ?_ (by dsimp only; omega) _)
      exact hb0
    · rw [h2] at hh; simp at hh
  · refine (hat _ (h.below hb0)).mono ?_
    rintro e w' ⟨r, rfl, ⟨_, hh, _⟩ | ⟨j, rfl, _, _, _⟩, hw⟩
    · rw [h2] at hh; simp at hh
    · replace hw := hw.symm
      subst hw
      clear hat
      generalize hce : valI zs k = c at hvl
      have HC : Hid (valI zs k = c) := hce
      clear hce
      go_wp2_with fail
      refine (hvl _ (h.below hb0)).mono ?_
      rintro e w' ⟨rfl, hw⟩
      replace hw := hw.symm
      subst hw
      go_wp2
      refine bodyPost_ret (v := .agg #[.int .i64 0, .int .i64 c]) (by simp [results, Try.results18, go_sem, p0, p1]) rfl ?_
      rw [HC.out]
      refine ⟨rfl, ?_⟩
      repeat' (refine Below.setCell ?_ (by dsimp only; omega) _)
      exact hb0

end Go.Proofs.Yteoghlebijfbaaa
