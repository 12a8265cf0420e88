/- The model's look-ups in items, and its ValueAt. No condition. -/
import Derived.Test.YtjaoggkpnjkkpaaS3x
namespace Go.Proofs.Ytjaoggkpnjkkpaa
open Go.RowKit Go.Maps
open Go.BigFrame
set_option linter.unusedVariables false
set_option linter.unusedSimpArgs false

/-- A slice that is nil, or lies somewhere. -/
def Nice (a : Option Addr) (n cap : Nat) : Prop := (∃ ad, a = some ad) ∨ (a = none ∧ n = 0 ∧ cap = 0)
theorem nice_own {w : World} {base e size n c : Nat} {a : Option Addr} {xs : List Value} (h : w.ownsRow base e size (.slice a n c) n xs) : Nice a n c := by
  rcases h.2 with ⟨he, hn⟩ | ⟨g, cap, cur, he, _⟩
  · simp only [Value.slice.injEq] at he
    obtain ⟨rfl, rfl, rfl⟩ := he
    exact Or.inr ⟨rfl, rfl, rfl⟩
  · simp only [Value.slice.injEq] at he
    obtain ⟨rfl, _⟩ := he
    exact Or.inl ⟨_, rfl⟩

theorem hasI_none {xs : List ItemD} {k : Int} (h : ∀ j, j < xs.length → ((xs.getD j itemNo).key == k) = false) : hasI xs k = false ∧ valI xs k = 0 := by
  have hn : ∀ x ∈ xs, (x.key == k) = false := by
    intro x hx
    obtain ⟨j, hj, rfl⟩ := List.mem_iff_getElem.1 hx
    simpa [List.getD, hj] using h j hj
  constructor
  · unfold hasI
    rw [List.any_eq_false]
    intro x hx
    simp [hn x hx]
  · unfold valI
    have : xs.find? (fun x => x.key == k) = none := by
      rw [List.find?_eq_none]
      intro x hx
      simp [hn x hx]
    rw [this]

theorem hasI_first {xs : List ItemD} {k : Int} {j : Nat} (hj : j < xs.length) (h0 : ∀ i, i < j → ((xs.getD i itemNo).key == k) = false) (h1 : ((xs.getD j itemNo).key == k) = true) : hasI xs k = true ∧ valI xs k = (xs.getD j itemNo).val := by
  have e : xs.getD j itemNo = xs[j] := by simp [List.getD, hj]
  constructor
  · unfold hasI
    rw [List.any_eq_true]
    exact ⟨_, getD_mem hj, h1⟩
  · unfold valI
    have : xs.find? (fun x => x.key == k) = some (xs.getD j itemNo) := by
      rw [List.find?_eq_some_iff_getElem]
      refine ⟨h1, j, hj, e.symm, ?_⟩
      intro i hi
      have := h0 i hi
      simp [List.getD, show i < xs.length by omega] at this
      simpa using this
    rw [this]

set_option maxHeartbeats 1000000 in
theorem l3At_any (a : Option Addr) (cap : Nat) (xs : List ItemD) (k : Int) (w : World) (h : ItemRow w a xs) (hl : xs.length ≤ 1048576) :
    Calls Try.prog 90 #[.slice a xs.length cap, .int .i64 k] w fun e w' => ∃ r : Int, e = .returned (.int .i64 r) ∧ ((r = -1 ∧ hasI xs k = false ∧ valI xs k = 0) ∨ ∃ j : Nat, r = j ∧ j < xs.length ∧ hasI xs k = true ∧ valI xs k = (xs.getD j itemNo).val) ∧ w' = w := by
  go_enter Try.func90, Try.ntmps90
  go_wp2
  go_loop [5] (fun i => ∃ j : Nat, j ≤ xs.length ∧ i = .int .i64 j ∧ Hid (∀ i, i < j → ((xs.getD i itemNo).key == k) = false)) (fun i => xs.length - (intOf i).toNat)
  case atStart => exact ⟨0, Nat.zero_le _, rfl, fun j hj => absurd hj (Nat.not_lt_zero _)⟩
  case round =>
    obtain ⟨j, hj, rfl, HA⟩ := hrel
    by_cases hlt : j < xs.length
    · obtain ⟨b, off, rfl, hbs, hc0, hc1⟩ := h.at j hlt
      clear hc1
      cases he : ((xs.getD j itemNo).key == k)
      · have HB : Hid (∀ i, i < j + 1 → ((xs.getD i itemNo).key == k) = false) := by
          intro i hi
          by_cases hij : i = j
          · subst hij; exact he
          · exact HA.out i (by omega)
        clear HA
        generalize (xs.getD j itemNo).key = z at hc0 he
        go_wp2
        go_round
        case rel => exact ⟨j + 1, by omega, by go_num, HB⟩
        case measure => simp [intOf]; omega
      · have E : Hid (hasI xs k = true ∧ valI xs k = (xs.getD j itemNo).val) := hasI_first hlt HA.out he
        clear HA
        generalize (xs.getD j itemNo).key = z at hc0 he
        go_wp2
        go_ret
        exact ⟨_, rfl, Or.inr ⟨j, rfl, hlt, E.out.1, E.out.2⟩, rfl⟩
    · have hjl : j = xs.length := by omega
      subst hjl
      have E : Hid (hasI xs k = false ∧ valI xs k = 0) := hasI_none HA.out
      clear HA
      go_wp2
      go_ret
      exact ⟨_, rfl, Or.inl ⟨rfl, E.out.1, E.out.2⟩, rfl⟩

set_option maxHeartbeats 1000000 in
theorem l3Value_any (a : Option Addr) (cap : Nat) (xs : List ItemD) (k : Int) (w : World) (h : ItemRow w a xs) (hl : xs.length ≤ 1048576) :
    Calls Try.prog 91 #[.slice a xs.length cap, .int .i64 k] w fun e w' => e = .returned (.int .i64 (valI xs k)) ∧ w' = w := by
  have hc := fun w h => l3At_any a cap xs k w h hl
  go_enter Try.func91, Try.ntmps91
  go_wp2_with fail
  refine (hc _ h).mono ?_
  rintro e w' ⟨r, rfl, ⟨rfl, _, ev⟩ | ⟨j, rfl, hj, _, ev⟩, hw⟩
  · replace hw := hw.symm
    subst hw
    go_wp2
    go_ret
    rw [ev]
    exact ⟨rfl, rfl⟩
  · replace hw := hw.symm
    subst hw
    obtain ⟨b, off, rfl, hbs, hc0, hc1⟩ := h.at j hj
    have E : Hid (valI xs k = (xs.getD j itemNo).val) := ev
    clear hc0 ev hc
    generalize (xs.getD j itemNo).val = z at hc1 E
    go_wp2
    go_ret
    rw [E.out]
    exact ⟨rfl, rfl⟩

end Go.Proofs.Ytjaoggkpnjkkpaa
