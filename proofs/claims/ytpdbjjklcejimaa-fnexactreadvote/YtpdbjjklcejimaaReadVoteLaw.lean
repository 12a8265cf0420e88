/- FnExactReadVote walked: it comes out true, and only new memory is made. No condition. -/
import Derived.Test.YtpdbjjklcejimaaVm10
namespace Go.Proofs.Ytpdbjjklcejimaa
open Go.RowKit
set_option linter.unusedVariables false
set_option linter.unusedSimpArgs false

theorem own_cap10 {w : World} {base e s n c : Nat} {a : Option Addr} {xs : List Value} (h : w.ownsRow base e s (.slice a n c) n xs) : n ≤ c := by
  rcases h.2 with ⟨he, hn⟩ | ⟨g, cap, cur, he, _, _, hc, _⟩
  · omega
  · simp only [Value.slice.injEq, true_and] at he
    omega

set_option maxHeartbeats 1000000 in
theorem eqVR_true (c k r n v : Int) (w : World) :
    Calls Try.prog 24 #[.agg #[.int .i64 c, .int .i64 k, .int .i64 r, .int .i64 n, .int .i64 v], .agg #[.int .i64 c, .int .i64 k, .int .i64 r, .int .i64 n, .int .i64 v]] w fun e w' => e = .returned (.bool true) ∧ Below w.heap.size w w' := by
  have h0 : (c != c) = false := by simp
  have he := fun w => eqVote_true k r n v w
  go_enter Try.func24, Try.ntmps24
  go_wp2_with fail
  refine (he _).mono ?_
  rintro e w1 ⟨rfl, hb⟩
  go_wp2
  go_ret
  exact ⟨rfl, below_from (by go_grown) hb⟩

set_option maxHeartbeats 2000000 in
theorem readVoteLaw (a : Option Addr) (cap : Nat) (ds : List Int) (w : World) (h : Row .u8 w a ds) (hu : ∀ i, 0 ≤ ds.getD i 0 ∧ ds.getD i 0 ≤ 255) (hn : ds.length ≤ 9223372036854775807) :
    Calls Try.prog 6 #[.slice a ds.length cap] w fun e w' => e = .returned (.bool true) ∧ Below w.heap.size w w' := by
  by_cases hl : ds.length ≤ 1048576
  · have hto := fun w h => toB_any a cap ds w h hl
    have hsp := fun a c w p h hc => specReadVote_any a c ds w p h hu hl hc
    have him := fun a c w p h hc => implReadVote_any a c ds w p h hu hl hc
    have heq := fun a a' c c' w h h' => eqB_true a a' c c' ds w h h' (by omega)
    generalize hX : (rvV ds).val (rvC ds) = X at hsp him
    obtain ⟨d, k, r, n, v, rfl⟩ : ∃ d k r n v, X = .agg #[.int .i64 d, .int .i64 k, .int .i64 r, .int .i64 n, .int .i64 v] := ⟨_, _, _, _, _, hX.symm⟩
    clear hX
    have b0 : Below w.heap.size w w := Below.refl _ _
    go_enter Try.func6, Try.ntmps6
    go_wp2_with fail
    refine (hto _ h).mono ?_
    rintro e w1 ⟨g1, c1, rfl, o1, hb⟩
    replace b0 := below_from b0 hb
    clear hb
    go_wp2_with fail
    refine (hsp _ _ _ (own_pla o1) (Row.own o1) (own_cap10 o1)).mono ?_
    rintro e w2 ⟨rfl, hb⟩
    replace b0 := below_from b0 hb
    clear hb o1
    have hbx : Below w2.heap.size w2 (w2.alloc (.cells #[.int .i64 d, .int .i64 k, .int .i64 r, .int .i64 n, .int .i64 v] 28)) := by go_grown
    have B1 := Blk.new w2 28 #[.int .i64 d, .int .i64 k, .int .i64 r, .int .i64 n, .int .i64 v]
    replace b0 := below_from b0 hbx
    clear hbx
    go_wp2_with fail
    generalize w2.alloc (.cells #[.int .i64 d, .int .i64 k, .int .i64 r, .int .i64 n, .int .i64 v] 28) = W2 at b0 B1
    generalize w2.heap.size = g2 at B1 ⊢
    refine (hto _ (h.below b0)).mono ?_
    rintro e w3 ⟨g3, c3, rfl, o3, hb⟩
    replace b0 := below_from b0 hb
    replace B1 := B1.below hb
    clear hb
    go_wp2_with fail
    refine (him _ _ _ (own_pla o3) (Row.own o3) (own_cap10 o3)).mono ?_
    rintro e w4 ⟨rfl, hb⟩
    replace b0 := below_from b0 hb
    replace B1 := B1.below hb
    replace o3 := own_below o3 hb
    clear hb
    have hbx : Below w4.heap.size w4 (w4.alloc (.cells #[.int .i64 d, .int .i64 k, .int .i64 r, .int .i64 n, .int .i64 v] 28)) := by go_grown
    replace b0 := below_from b0 hbx
    replace B1 := B1.below hbx
    replace o3 := own_below o3 hbx
    clear hbx
    have p0 := B1.cell 0 _ rfl
    have p1 := B1.cell 1 _ rfl
    have p2 := B1.cell 2 _ rfl
    have p3 := B1.cell 3 _ rfl
    have p4 := B1.cell 4 _ rfl
    go_wp2_with fail
    clear p0 p1 p2 p3 p4 B1
    generalize w4.alloc (.cells #[.int .i64 d, .int .i64 k, .int .i64 r, .int .i64 n, .int .i64 v] 28) = W4 at b0 o3
    refine (eqVR_true d k r n v _).mono ?_
    rintro e w5 ⟨rfl, hb⟩
    replace b0 := below_from b0 hb
    replace o3 := own_below o3 hb
    clear hb
    go_wp2_with fail
    refine (hto _ (h.below b0)).mono ?_
    rintro e w6 ⟨g6, c6, rfl, o6, hb⟩
    replace b0 := below_from b0 hb
    replace o3 := own_below o3 hb
    clear hb
    go_wp2_with fail
    refine (heq _ _ _ _ _ (Row.own o3) (Row.own o6)).mono ?_
    rintro e w7 ⟨rfl, m7, rfl⟩
    go_wp2
    go_ret
    exact ⟨rfl, below_dN b0 _⟩
  · have hd : (decide ((ds.length : Int) > 1048576)) = true := decide_eq_true (by omega)
    go_enter Try.func6, Try.ntmps6
    go_wp2
    go_ret
    exact ⟨rfl, Below.refl _ _⟩

end Go.Proofs.Ytpdbjjklcejimaa
