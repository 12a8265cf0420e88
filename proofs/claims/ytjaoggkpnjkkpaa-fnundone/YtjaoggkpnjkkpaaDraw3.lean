/- What the draws of chapter 3 tell at whatever bytes: some list of items of at most nine, some numbers; nothing that was there is written into, the source's own memory aside. -/
import Derived.Test.YtjaoggkpnjkkpaaMA
import Derived.Test.YtjaoggkpnjkkpaaS3s
namespace Go.Proofs.Ytjaoggkpnjkkpaa
open Go.RowKit Go.Maps
set_option linter.unusedVariables false
set_option linter.unusedSimpArgs false

theorem setR_len (x : ItemD) : ∀ (l : List ItemD) (d : Bool), (setR x d l).length ≤ l.length + 1
  | [], d => by unfold setR; cases d <;> simp
  | y :: r, d => by
    rw [setR_step]
    have ih := setR_len x r
    cases d
    · by_cases h : x.key ≤ y.key
      · have e : setR x true r = delI r x.key := setR_true x r
        have hd := delI_length r x.key
        simp only [Bool.not_false, Bool.true_and, Bool.false_or, h, decide_true, if_true, List.length_append, List.length_cons, List.length_nil, e]
        split <;> simp <;> omega
      · have ih := ih false
        simp only [Bool.not_false, Bool.true_and, Bool.false_or, h, decide_false, if_false, Bool.false_eq_true, List.length_append, List.length_cons, List.length_nil]
        split <;> simp <;> omega
    · have e : setR x true r = delI r x.key := setR_true x r
      have hd := delI_length r x.key
      simp only [Bool.not_true, Bool.false_and, Bool.true_or, if_false, Bool.false_eq_true, List.length_append, List.length_cons, List.length_nil, e]
      split <;> simp <;> omega

theorem grown_step {w wr w' : World} {b : Nat} (hg : w.grownBy wr (some b)) (hb : Below w.heap.size wr w') : w.grownBy w' (some b) :=
  ⟨hb.os.trans hg.os, hb.tape.trans hg.tape, hb.output.trans hg.output, by have := hg.size; have := hb.size; omega, fun k hk hne => (hb.block k hk).trans (hg.block k hk hne)⟩

set_option maxRecDepth 100000 in
set_option maxHeartbeats 2000000 in
theorem l3Draw_any (B b T : Nat) (w : World) (hS : Src B w b T) (hT : T ≤ 1000000) :
    Calls Try.prog 80 #[.pointer (some ⟨b, 0, none⟩)] w fun e w' => ∃ (a : Option Addr) (k : Nat) (xs : List ItemD), e = .returned (.slice a xs.length k) ∧ xs.length ≤ 4 ∧
      w'.ownsRow w.heap.size 94 2 (.slice a xs.length k) xs.length (itemCells xs) ∧ Src B w' b (T + 9) ∧ w.grownBy w' (some b) := by
  have hlt := hS.lt
  have ho0 : (w.alloc (.cells #[] 94)).ownsRow w.heap.size 94 2 (.slice (some ⟨w.heap.size, 0, none⟩) 0 0) 0 [] := World.ownsRow_lit w #[] 0 (Nat.le_refl _) (by decide) rfl
  have hS0 : Src B (w.alloc (.cells #[] 94)) b T := hS.below (by go_grown)
  have hg0 : w.grownBy (w.alloc (.cells #[] 94)) (some b) := World.grownBy_alloc w _ _
  go_enter Try.func80, Try.ntmps80
  go_wp2_with fail
  refine (next_any B b T 5 _ hS0 (by omega) (by omega)).mono ?_
  rintro e w1 ⟨r, rfl, hr, hS1, hg1⟩
  obtain ⟨j0, rfl⟩ := Int.eq_ofNat_of_zero_le hr.1
  have hj0 : j0 ≤ 4 := by have := hr.2.1 (by omega); omega
  have ho1 := ho0.kept hg1 (Or.inr (by simp [Value.ownBlock]; omega))
  have hgw := hg0.trans hg1
  clear hr hg1 hg0 hS0 ho0
  go_wp2
  go_loopw [3, 4] (fun v c wr => ∃ (j q : Nat) (xs : List ItemD), c = .int .i64 j ∧ j + q ≤ 4 ∧ xs.length ≤ q ∧ wr.ownsRow w.heap.size 94 2 v xs.length (itemCells xs) ∧ Src B wr b (T + 1 + 2 * q) ∧ w.grownBy wr (some b)) (fun _ c _ => (intOf c).toNat)
  case atStart => exact ⟨j0, 0, [], rfl, by omega, by simp, ho1, hS1, hgw⟩
  case round =>
    clear ho1 hS1 hgw
    obtain ⟨j, q, xs, rfl, hjq, hxl, ho, hSr, hg⟩ := hrel
    have hsz := hg.size
    obtain ⟨a1, c1, rfl⟩ := own_shape ho
    by_cases hpos : 0 < j
    · have hnb : some b ≠ Value.ownBlock _ := own_not3 ho (Or.inl hlt.2)
      go_wp2_with fail
      refine (next_any B b (T + 1 + 2 * q) 5 wr hSr (by omega) (by omega)).mono ?_
      rintro e w1 ⟨r, rfl, hr, hS1, hg1⟩
      have hr1 := hr.1
      have hr2 := hr.2.1 (by omega)
      replace ho := ho.kept hg1 (Or.inr (fun e => hnb e.symm))
      replace hg := hg.trans hg1
      have hsz1 := hg.size
      have hlt1 := hS1.lt
      clear hr hg1 hSr
      replace ho := ho.alloc (.cells #[.int .i64 0, .int .i64 1, .int .i64 5, .int .i64 19999, .int .i64 (-3)] 2)
      replace hg := hg.trans (World.grownBy_alloc w1 (.cells #[.int .i64 0, .int .i64 1, .int .i64 5, .int .i64 19999, .int .i64 (-3)] 2) (some b))
      go_wp2_with fail
      refine (pick_any B b (T + 1 + 2 * q + 1) w1.heap.size _ [0, 1, 5, 19999, -3] _ (hS1.below (by go_grown)) (by omega) (World.ownsRow_lit w1 _ 5 (Nat.le_refl _) (by decide) rfl) (by simp) (by simp) (by simp [Value.ownBlock]; omega)).mono ?_
      rintro e w2 ⟨r2, rfl, hmem, hS2, hg2⟩
      replace ho := ho.kept hg2 (Or.inr (fun e => hnb e.symm))
      replace hg := hg.trans hg2
      have hsz2 := hg.size
      clear hmem hg2
      go_wp2_with fail
      refine (l3Set_any a1 c1 xs _ _ w2 (Lies.own ho) (by omega)).mono ?_
      rintro e w3 ⟨a3, c3, rfl, ho3, hb3⟩
      have hsl := setR_len ⟨1 + r, r2⟩ xs false
      replace hg := grown_step hg (hb3.mono hsz2)
      have hS3 := hS2.below hb3
      replace ho3 := own_base ho3 hsz2
      generalize setR _ false xs = ys at ho3 hsl
      clear ho hb3 hS2 hS1
      go_wp2
      go_roundw
      case rel => exact ⟨j - 1, q + 1, ys, by go_num, by omega, by omega, ho3, hS3.mono (by omega), hg⟩
      case measure => simp [intOf]; omega
    · go_wp2
      go_ret
      exact ⟨a1, c1, xs, rfl, by omega, ho, hSr.mono (by omega), hg⟩

end Go.Proofs.Ytjaoggkpnjkkpaa
