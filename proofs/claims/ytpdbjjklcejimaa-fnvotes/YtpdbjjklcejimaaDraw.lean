/- What the drawing helpers of the laws do: a source of numbers over whatever bytes; each call tells some number in its bounds, and writes into the source's own memory alone. -/
import Derived.Test.YtpdbjjklcejimaaHelpR
namespace Go.Proofs.Ytpdbjjklcejimaa
open Go.RowKit
set_option linter.unusedVariables false
set_option linter.unusedSimpArgs false

/-- A source of draws at block b: bytes that lie below block B, and a count of at most T. -/
def Src (B : Nat) (w : World) (b : Nat) (T : Nat) : Prop :=
  ∃ (a : Option Addr) (zs : List Int) (cap t : Nat), B ≤ b ∧ b < w.heap.size ∧ w.cell? ⟨b, 0, none⟩ = some (.slice a zs.length cap) ∧ w.cell? ⟨b, 1, none⟩ = some (.int .i64 (t : Int)) ∧ w.frozen? ⟨b, 1, none⟩ = false ∧
    t ≤ T ∧ zs.length ≤ 1048576 ∧ (∀ i, 0 ≤ zs.getD i 0 ∧ zs.getD i 0 ≤ 255) ∧ (∀ i, i < zs.length → ∃ b' off, a = some ⟨b', off, none⟩ ∧ b' < B ∧ w.cell? ⟨b', off + i, none⟩ = some (.int .u8 (zs.getD i 0)))

theorem Src.lt {B b T : Nat} {w : World} (h : Src B w b T) : B ≤ b ∧ b < w.heap.size := by
  obtain ⟨a, zs, cap, t, h1, h2, _⟩ := h
  exact ⟨h1, h2⟩

/-- A source lasts while its block, and all below B, read as before. -/
theorem Src.kept {B b T : Nat} {w w' : World} (h : Src B w b T) (hs : w.heap.size ≤ w'.heap.size) (hb : w'.heap[b]? = w.heap[b]?) (hB : ∀ k, k < B → w'.heap[k]? = w.heap[k]?) : Src B w' b T := by
  obtain ⟨a, zs, cap, t, h1, h2, h3, h4, h5, h6, h7, h8, h9⟩ := h
  refine ⟨a, zs, cap, t, h1, Nat.lt_of_lt_of_le h2 hs, ?_, ?_, ?_, h6, h7, h8, ?_⟩
  · rw [World.cell?_of_block (w := w) (a := ⟨b, 0, none⟩) hb]; exact h3
  · rw [World.cell?_of_block (w := w) (a := ⟨b, 1, none⟩) hb]; exact h4
  · rw [World.frozen?_of_block (w := w) (a := ⟨b, 1, none⟩) hb]; exact h5
  · intro i hi
    obtain ⟨b', off, e1, e2, e3⟩ := h9 i hi
    exact ⟨b', off, e1, e2, by rw [World.cell?_of_block (w := w) (a := ⟨b', off + i, none⟩) (hB b' e2)]; exact e3⟩

theorem Src.below {B b T : Nat} {w w' : World} (h : Src B w b T) (hb : Below w.heap.size w w') : Src B w' b T :=
  h.kept hb.size (hb.block b h.lt.2) (fun k hk => hb.block k (by have := h.lt; omega))

theorem Src.mono {B b T T' : Nat} {w : World} (h : Src B w b T) (hT : T ≤ T') : Src B w b T' := by
  obtain ⟨a, zs, cap, t, h1, h2, h3, h4, h5, h6, r⟩ := h
  exact ⟨a, zs, cap, t, h1, h2, h3, h4, h5, Nat.le_trans h6 hT, r⟩

/-- The count goes one up. -/
theorem Src.step {B b T : Nat} {w : World} {a : Option Addr} {zs : List Int} {cap t : Nat} (h1 : B ≤ b) (h2 : b < w.heap.size) (h3 : w.cell? ⟨b, 0, none⟩ = some (.slice a zs.length cap)) (h4 : w.cell? ⟨b, 1, none⟩ = some (.int .i64 (t : Int))) (h5 : w.frozen? ⟨b, 1, none⟩ = false)
    (h6 : t ≤ T) (h7 : zs.length ≤ 1048576) (h8 : ∀ i, 0 ≤ zs.getD i 0 ∧ zs.getD i 0 ≤ 255) (h9 : ∀ i, i < zs.length → ∃ b' off, a = some ⟨b', off, none⟩ ∧ b' < B ∧ w.cell? ⟨b', off + i, none⟩ = some (.int .u8 (zs.getD i 0))) :
    Src B (w.setCell ⟨b, 1, none⟩ (.int .i64 ((t : Int) + 1))) b (T + 1) ∧ w.grownBy (w.setCell ⟨b, 1, none⟩ (.int .i64 ((t : Int) + 1))) (some b) := by
  refine ⟨⟨a, zs, cap, t + 1, h1, by simpa using h2, ?_, ?_, ?_, by omega, h7, h8, ?_⟩, ⟨rfl, rfl, rfl, by simp, fun k _ hk => Below.heap_setCell w _ _ k (fun e => hk (by simp [e]))⟩⟩
  · go_cell
  · rw [World.cell?_setCell_same _ _ _ h4]; simp
  · rw [World.frozen?_setCell]; exact h5
  · intro i hi
    obtain ⟨b', off, e1, e2, e3⟩ := h9 i hi
    refine ⟨b', off, e1, e2, ?_⟩
    rw [World.cell?_of_block (w := w) (a := ⟨b', off + i, none⟩) (Below.heap_setCell w _ _ b' (by simp; omega))]
    exact e3

/-- A draw out of n: from 0 to n - 1, and 0 where n is below 1. -/
def InR (n r : Int) : Prop := 0 ≤ r ∧ (1 ≤ n → r < n) ∧ (n < 1 → r = 0)
theorem InR.mod (x n : Int) (h : 1 ≤ n) : InR n (x % n) := ⟨Int.emod_nonneg _ (by omega), fun _ => Int.emod_lt_of_pos _ (by omega), fun k => by omega⟩

set_option maxHeartbeats 2000000 in
theorem next_any (B b T : Nat) (n : Int) (w : World) (hS : Src B w b T) (hT : T ≤ 1099511627776) (hn : n ≤ 1099511627776) :
    Calls Try.prog 34 #[.pointer (some ⟨b, 0, none⟩), .int .i64 n] w fun e w' => ∃ r : Int, e = .returned (.int .i64 r) ∧ InR n r ∧ Src B w' b (T + 1) ∧ w.grownBy w' (some b) := by
  obtain ⟨a, zs, cap, t, h1, h2, h3, h4, h5, h6, h7, h8, h9⟩ := hS
  obtain ⟨r1, r2⟩ := Src.step h1 h2 h3 h4 h5 h6 h7 h8 h9
  have R1 : Hid (Src B (w.setCell ⟨b, 1, none⟩ (.int .i64 ((t : Int) + 1))) b (T + 1)) := r1
  have R2 : Hid (w.grownBy (w.setCell ⟨b, 1, none⟩ (.int .i64 ((t : Int) + 1))) (some b)) := r2
  clear r1 r2
  by_cases hn1 : n < 1
  · go_enter Try.func34, Try.ntmps34
    go_wp2
    go_ret
    exact ⟨0, rfl, ⟨by omega, by omega, fun _ => rfl⟩, R1.out, R2.out⟩
  · by_cases hz : zs.length = 0
    · have hz' : ((zs.length : Int) == 0) = true := by simp [hz]
      clear h9 hz h7
      go_enter Try.func34, Try.ntmps34
      go_wp2
      go_ret
      exact ⟨_, rfl, InR.mod _ _ (by omega), R1.out, R2.out⟩
    · have hz' : ((zs.length : Int) == 0) = false := by rw [beq_eq_false_iff_ne]; omega
      have hpos : 0 < zs.length := by omega
      have hm1 : t % zs.length < zs.length := Nat.mod_lt _ hpos
      have hm2 : (t + 1) % zs.length < zs.length := Nat.mod_lt _ hpos
      have c1 : ∃ b' off, a = some ⟨b', off, none⟩ ∧ (w.setCell ⟨b, 1, none⟩ (.int .i64 ((t : Int) + 1))).cell? ⟨b', off + t % zs.length, none⟩ = some (.int .u8 (zs.getD (t % zs.length) 0)) ∧ (w.setCell ⟨b, 1, none⟩ (.int .i64 ((t : Int) + 1))).cell? ⟨b', off + (t + 1) % zs.length, none⟩ = some (.int .u8 (zs.getD ((t + 1) % zs.length) 0)) := by
        obtain ⟨b', off, rfl, e2, e3⟩ := h9 _ hm1
        obtain ⟨b2, off2, e4, e5, e6⟩ := h9 _ hm2
        simp only [Option.some.injEq, Addr.mk.injEq, and_true] at e4
        obtain ⟨rfl, rfl⟩ := e4
        refine ⟨b', off, rfl, ?_, ?_⟩
        · rw [World.cell?_of_block (w := w) (a := ⟨b', _, none⟩) (Below.heap_setCell w _ _ b' (by simp; omega))]; exact e3
        · rw [World.cell?_of_block (w := w) (a := ⟨b', _, none⟩) (Below.heap_setCell w _ _ b' (by simp; omega))]; exact e6
      obtain ⟨b', off, rfl, c1, c2⟩ := c1
      have u1 := h8 (t % zs.length)
      have u2 := h8 ((t + 1) % zs.length)
      have hq : (t : Int) / (zs.length : Int) ≤ 1099511627776 := Int.le_trans (Int.ediv_le_self _ (by omega)) (by omega)
      have hq0 : 0 ≤ (t : Int) / (zs.length : Int) := Int.ediv_nonneg (by omega) (by omega)
      generalize zs.getD (t % zs.length) 0 = x at c1 u1
      generalize zs.getD ((t + 1) % zs.length) 0 = y at c2 u2
      have m0 : 0 ≤ ((t : Int) + 1) % (zs.length : Int) := Int.emod_nonneg _ (by omega)
      have m1 : ((t : Int) + 1) % (zs.length : Int) < (zs.length : Int) := Int.emod_lt_of_pos _ (by omega)
      clear h8 h9 hz
      by_cases h200 : 200 < n
      · go_enter Try.func34, Try.ntmps34
        go_wp2
        go_quiet (fail)
        go_wp2
        go_quiet (fail)
        go_wp2
        go_ret
        exact ⟨_, rfl, InR.mod _ _ (by omega), R1.out.below (below_drewN (Below.refl _ _) _), R2.out.trans ⟨rfl, rfl, rfl, Nat.le_refl _, fun _ _ _ => rfl⟩⟩
      · go_enter Try.func34, Try.ntmps34
        go_wp2
        go_quiet (fail)
        go_wp2
        go_ret
        exact ⟨_, rfl, InR.mod _ _ (by omega), R1.out.below (below_drewN (Below.refl _ _) _), R2.out.trans ⟨rfl, rfl, rfl, Nat.le_refl _, fun _ _ _ => rfl⟩⟩

set_option maxHeartbeats 1000000 in
theorem source_any (B : Nat) (a : Option Addr) (cap : Nat) (zs : List Int) (w : World) (hB : B ≤ w.heap.size) (hl : zs.length ≤ 1048576) (hu : ∀ i, 0 ≤ zs.getD i 0 ∧ zs.getD i 0 ≤ 255)
    (h : ∀ i, i < zs.length → ∃ b' off, a = some ⟨b', off, none⟩ ∧ b' < B ∧ w.cell? ⟨b', off + i, none⟩ = some (.int .u8 (zs.getD i 0))) :
    Calls Try.prog 31 #[.slice a zs.length cap] w fun e w' => e = .returned (.pointer (some ⟨w.heap.size, 0, none⟩)) ∧ Src B w' w.heap.size 0 ∧ Below w.heap.size w w' := by
  go_enter Try.func31, Try.ntmps31
  go_wp2
  go_ret
  refine ⟨rfl, ⟨a, zs, cap, 0, hB, by simp, by simp, by simp, by simp, Nat.le_refl _, hl, hu, ?_⟩, by go_grown⟩
  intro i hi
  obtain ⟨b', off, e1, e2, e3⟩ := h i hi
  refine ⟨b', off, e1, e2, ?_⟩
  rw [World.cell?_of_block (w := w) (a := ⟨b', off + i, none⟩) (Below.heap_alloc w _ b' (by omega))]
  exact e3

set_option maxHeartbeats 1000000 in
theorem pick_any (B b T base : Nat) (v : Value) (xs : List Int) (w : World) (hS : Src B w b T) (hT : T ≤ 1099511627776) (ho : w.ownsRow base 2 1 v xs.length (xs.map (Value.int .i64))) (hx : xs ≠ []) (hlen : xs.length ≤ 100) (hne : some b ≠ v.ownBlock) :
    Calls Try.prog 35 #[.pointer (some ⟨b, 0, none⟩), v] w fun e w' => ∃ r : Int, e = .returned (.int .i64 r) ∧ r ∈ xs ∧ Src B w' b (T + 1) ∧ w.grownBy w' (some b) := by
  obtain ⟨a, k, rfl⟩ := own_shape ho
  have hpos : 0 < xs.length := List.length_pos_iff.2 hx
  have hn := next_any B b T (xs.length : Int) w hS hT (by omega)
  go_enter Try.func35, Try.ntmps35
  go_wp2_with fail
  refine hn.mono ?_
  rintro e w' ⟨r, rfl, hr, hS', hg⟩
  obtain ⟨j, rfl⟩ := Int.eq_ofNat_of_zero_le hr.1
  have hj : j < xs.length := by have := hr.2.1 (by omega); omega
  have ho' := ho.kept hg (Or.inr (fun e => hne e.symm))
  obtain ⟨b2, off2, rfl, hb2, hc2⟩ := Row.own ho' j hj
  have hmem : xs.getD j 0 ∈ xs := by simp [List.getD, hj]
  generalize xs.getD j 0 = x at hc2 hmem
  clear hr ho ho' hn
  go_wp2
  go_ret
  exact ⟨x, rfl, hmem, hS', hg⟩

end Go.Proofs.Ytpdbjjklcejimaa
