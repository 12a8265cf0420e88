/- The model's VotesOf: l10Row, l10Votes. No condition. -/
import Derived.Test.YtpjmlidbligcbaaGreatDoorPl10
import Derived.Test.YtpjmlidbligcbaaGreatDoorGJ
import Derived.Test.YtpjmlidbligcbaaGreatDoorN7s
import Derived.RangeFuncBox
namespace Go.Proofs.YtpjmlidbligcbaaGreatDoor
open Go.RowKit
open Go.BigFrame
set_option linter.unusedVariables false
set_option maxRecDepth 100000
set_option linter.unusedSimpArgs false

theorem voteCells_one' (xs : List VoteD) : ∀ u ∈ voteCells xs, u.oneCell' = true := by
  intro u hu
  obtain ⟨x, _, hx⟩ := List.mem_flatMap.1 hu
  simp only [VoteD.cells, List.mem_cons, List.not_mem_nil, or_false] at hx
  rcases hx with rfl | rfl | rfl | rfl <;> rfl

set_option maxHeartbeats 4000000 in
theorem l10Row_any (kind round : Int) (v : Value) (vs : List Int) (w : World) (h : intK.At w v vs) (hl : vs.length ≤ 1000) :
    Calls Tryz.prog 168 #[.int .i64 kind, .int .i64 round, v] w fun e w' => ∃ v', e = .returned v' ∧ w'.ownsRow w.heap.size 79 4 v' (rvF kind round 0 vs).length (voteCells (rvF kind round 0 vs)) ∧ (∃ a c, v' = .slice (some a) (rvF kind round 0 vs).length c) ∧ Below w.heap.size w w' := by
  obtain ⟨i0, hi, hz0, hz1, hz2⟩ := info_parts infoVote
  obtain ⟨va, vc, rfl⟩ := h.shape
  have hb0 : Below w.heap.size w (w.alloc (.cells #[] 79)) := by go_grown
  have ho0 := World.ownsRow_lit (e := 79) (size := 4) w #[] 0 (Nat.le_refl _) (by decide) rfl
  go_enter Tryz.func168, Tryz.ntmps168
  go_wp2
  generalize w.alloc (.cells #[] 79) = W0 at *
  go_loopw [7, 8] (fun o j wr => ∃ (k : Nat) (a : Addr) (c : Nat), k ≤ vs.length ∧ j = .int .i64 k ∧ o = .slice (some a) (rvF kind round 0 (vs.take k)).length c ∧ wr.ownsRow w.heap.size 79 4 o (rvF kind round 0 (vs.take k)).length (voteCells (rvF kind round 0 (vs.take k))) ∧ Below w.heap.size w wr) (fun _ j _ => vs.length - (intOf j).toNat)
  case atStart => exact ⟨0, _, _, Nat.zero_le _, rfl, rfl, ho0, hb0⟩
  case round =>
    obtain ⟨k, a, c, hk, rfl, rfl, ho, hb⟩ := hrel
    clear ho0 hb0
    by_cases hlt : k < vs.length
    · obtain ⟨bb, off, rfl, hbs, hc, _⟩ := (h.below hb).cell (by decide) k hlt
      have c0 : wr.cell? ⟨bb, off + k * 1 + 0, none⟩ = some (.int .i64 vs[k]) := hc 0 _ rfl
      rw [Nat.mul_one, Nat.add_zero] at c0
      have HT := rvF_take kind round vs k hlt
      have eg : vs.getD k 0 = vs[k] := by simp [List.getD, hlt]
      rw [eg] at HT
      have hlen := rvF_len kind round (vs.take k) 0
      rw [List.length_take] at hlen
      generalize vs[k] = z at *
      generalize hG2 : rvF kind round 0 (vs.take (k + 1)) = R2 at *
      have HG2 : Hid (rvF kind round 0 (vs.take (k + 1)) = R2) := hG2
      clear hG2
      generalize rvF kind round 0 (vs.take k) = R1 at *
      have hki : (k : Int) < (vs.length : Int) := by omega
      have hR1 : R1.length ≤ 1000 := by omega
      clear hc eg
      by_cases h3 : z = 3
      · have e3 : (z != 3) = false := by rw [h3]; rfl
        rw [if_pos h3, List.append_nil] at HT
        subst HT
        clear h3
        go_wp2
        go_roundw
        case rel => exact ⟨k + 1, a, c, by omega, by go_num, by rw [HG2.out], by rw [HG2.out]; exact ho, hb⟩
        case measure => simp [intOf]; omega
      · have e3 : (z != 3) = true := by simpa using h3
        rw [if_neg h3] at HT
        have HR : Hid (R2 = R1 ++ [⟨kind, round, (k : Int), z⟩]) := HT
        clear HT h3
        have hba : Below wr.heap.size wr (wr.alloc (.cells #[.int .i64 kind, .int .i64 round, .int .i64 (k : Int), .int .i64 z] 79)) := by go_grown
        go_wp2_with (at_builtin; refine wpList_append_own_at _ rfl _ _ 71 rfl w.heap.size 79 i0 (.agg #[.int .i64 0, .int .i64 0, .int .i64 0, .int .i64 0]) 4 32 Tryz.underlying71 hi hz0 hz1 hz2 rfl (by decide) _ R1.length (voteCells R1) rfl (own_below ho hba) ⟨wr.heap.size, 0, none⟩ 1 1 [.int .i64 kind, .int .i64 round, .int .i64 (k : Int), .int .i64 z] rfl rfl ?c1 ?c2 ?c3 ?c4 ?c5 ?_)
        case c1 => intro j u hj; match j, hj with | 0, hj => simp at hj; subst hj; simp [Addr.add] | 1, hj => simp at hj; subst hj; simp [Addr.add] | 2, hj => simp at hj; subst hj; simp [Addr.add] | 3, hj => simp at hj; subst hj; simp [Addr.add]
        case c2 => intro u hu; simp at hu; rcases hu with rfl | rfl | rfl | rfl <;> rfl
        case c3 => unfold maxLen; omega
        case c4 => omega
        case c5 => have := hb.size; simp; omega
        intro v' w5 hown hgrow hnil hat
        obtain ⟨g', cap', rfl⟩ := ownsRow_succ hown
        have hrow : w5.ownsRow w.heap.size 79 4 (.slice (some ⟨g', 0, none⟩) (R1.length + 1) cap') R2.length (voteCells R2) := by
          rw [HR.out, List.length_append, voteCells_append, voteCells_one]
          exact hown
        have hR2 : R2.length = R1.length + 1 := by rw [HR.out]; simp
        have hb5 : Below w.heap.size w w5 := (hb.trans (hba.mono hb.size)).grown hgrow (by have := hb.size; simp; omega) (fun j hj => by
          have := (own_below ho hba).lt j hj
          omega)
        have HF : Hid (_ ∧ _) := And.intro hrow hR2
        clear hown hgrow hnil hat hrow hR2 ho hb hba
        go_wp2
        go_roundw
        case rel => exact ⟨k + 1, ⟨g', 0, none⟩, cap', by omega, by go_num, by rw [HG2.out, HF.out.2], by rw [HG2.out]; exact HF.out.1, hb5⟩
        case measure => simp [intOf]; omega
    · have hkl : k = vs.length := by omega
      subst hkl
      rw [List.take_length] at *
      have hki : ¬ (vs.length : Int) < (vs.length : Int) := by omega
      go_wp2
      go_ret
      exact ⟨_, rfl, ho, ⟨a, c, rfl⟩, hb⟩

end Go.Proofs.YtpjmlidbligcbaaGreatDoor
