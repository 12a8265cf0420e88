/- PackVote: the program's function and its model tell the same code and the same bytes, by plain functions. No condition. -/
import Derived.Test.YtpdbjjklcejimaaVf10
import Derived.Test.YtpdbjjklcejimaaPack
import Derived.Test.YtpdbjjklcejimaaSum
import Derived.Test.YtpdbjjklcejimaaBlk5
namespace Go.Proofs.Ytpdbjjklcejimaa
open Go.RowKit
open Go.BigFrame
set_option linter.unusedVariables false
set_option linter.unusedSimpArgs false

/-- The four numbers of a vote as bytes, and the sum behind them. -/
def vpL (x : VoteD) : List Int := packL [x.kind, x.round, x.node, x.value] 4
def vpB (x : VoteD) : List Int := vpL x ++ put2 (sumL (vpL x))
def vpR (x : VoteD) : List Int := if voteF x = 0 then vpB x else []

theorem vpL_eq (k r n v : Int) : vpL ⟨k, r, n, v⟩ = [4, k % 65536 / 256, k % 256, r % 65536 / 256, r % 256, n % 65536 / 256, n % 256, v % 65536 / 256, v % 256] := rfl
theorem vpL_len (x : VoteD) : (vpL x).length = 9 := rfl
theorem vpB_len (x : VoteD) : (vpB x).length = 11 := rfl
theorem vpR_le (x : VoteD) : (vpR x).length ≤ 11 := by unfold vpR; split <;> simp [vpB_len]

theorem fieldVB1 (c : Int) (a : Option Addr) (l k : Nat) (w : World) : (Instr.field 32 (.agg #[.int .i64 c, .slice a l k]) 1).run Try.prog w = .ok (.slice a l k) w := by kernel_rfl

theorem fieldVN1 (c v : Int) (w : World) : (Instr.field 63 (.agg #[.int .i64 c, .int .i64 v]) 1).run Try.prog w = .ok (.int .i64 v) w := by kernel_rfl

theorem getD_all {p : Int → Prop} (h0 : p 0) : ∀ (l : List Int), (∀ x ∈ l, p x) → ∀ i, p (l.getD i 0)
  | [], _, i => by simpa [List.getD] using h0
  | x :: l, h, 0 => by simpa [List.getD] using h x (by simp)
  | x :: l, h, i + 1 => by simpa [List.getD] using getD_all h0 l (fun y hy => h y (by simp [hy])) i

theorem vpL_u8 (x : VoteD) : ∀ i, 0 ≤ (vpL x).getD i 0 ∧ (vpL x).getD i 0 ≤ 255 := by
  refine getD_all (p := fun y => 0 ≤ y ∧ y ≤ 255) (by omega) _ ?_
  obtain ⟨k, r, n, v⟩ := x
  rw [vpL_eq]
  intro y hy
  simp only [List.mem_cons, List.not_mem_nil, or_false] at hy
  rcases hy with rfl | rfl | rfl | rfl | rfl | rfl | rfl | rfl | rfl <;> omega

theorem inW_true {n lo hi : Int} (h : inW n lo hi = true) : lo ≤ n ∧ n ≤ hi := by
  simpa [inW] using h

theorem voteF_zero {k r n v : Int} (h : voteF ⟨k, r, n, v⟩ = 0) : (1 ≤ k ∧ k ≤ 3) ∧ (k = 3 → r = 0) ∧ (0 ≤ r ∧ r ≤ 3) ∧ (0 ≤ n ∧ n ≤ 2) ∧ (0 ≤ v ∧ v ≤ vtM k) := by
  rcases voteF_ways k r n v with ⟨_, h'⟩ | ⟨_, _, _, h'⟩ | ⟨h1, h2, ⟨_, h'⟩ | ⟨_, _, h'⟩ | ⟨_, _, _, h'⟩ | ⟨h4, h5, h6, _⟩⟩
  · rw [h'] at h; exact absurd h (by decide)
  · rw [h'] at h; exact absurd h (by decide)
  · rw [h'] at h; exact absurd h (by decide)
  · rw [h'] at h; exact absurd h (by decide)
  · rw [h'] at h; exact absurd h (by decide)
  · refine ⟨inW_true h1, ?_, inW_true h4, inW_true h5, inW_true h6⟩
    intro hk
    rcases h2 with ⟨_, hr⟩ | hk'
    · simpa using hr
    · simp [hk] at hk'

theorem vtM_le (k : Int) : vtM k = 2 ∨ vtM k = 1 := by unfold vtM; split <;> simp

theorem vote_short {k r n v : Int} (h : voteF ⟨k, r, n, v⟩ = 0) : ∀ j, j < [k, r, n, v].length → shortB ([k, r, n, v].getD j 0) = true := by
  obtain ⟨hk, _, hr, hn, hv⟩ := voteF_zero h
  have := vtM_le k
  intro j hj
  match j, hj with
  | 0, _ => exact short_mk (by simp [List.getD]; omega)
  | 1, _ => exact short_mk (by simp [List.getD]; omega)
  | 2, _ => exact short_mk (by simp [List.getD]; omega)
  | 3, _ => exact short_mk (by simp [List.getD]; omega)

set_option maxHeartbeats 2000000 in
theorem implPackVote_any (k r n v : Int) (w : World) :
    Calls Try.prog 12 #[.agg #[.int .i64 k, .int .i64 r, .int .i64 n, .int .i64 v]] w fun e w' => ∃ b c, e = .returned (.agg #[.int .i64 (voteF ⟨k, r, n, v⟩), .slice b (vpR ⟨k, r, n, v⟩).length c]) ∧
      w'.ownsRow w.heap.size 5 1 (.slice b (vpR ⟨k, r, n, v⟩).length c) (vpR ⟨k, r, n, v⟩).length ((vpR ⟨k, r, n, v⟩).map (Value.int .u8)) ∧ Below w.heap.size w w' := by
  have hV0 := (Blk.new w 26 #[.int .i64 k, .int .i64 r, .int .i64 n, .int .i64 v]).below (w' := (w.alloc (.cells #[.int .i64 k, .int .i64 r, .int .i64 n, .int .i64 v] 26)).alloc (.cells #[.int .i64 0, .slice none 0 0] 32)) (by go_grown)
  have hR0 := Blk.new (w.alloc (.cells #[.int .i64 k, .int .i64 r, .int .i64 n, .int .i64 v] 26)) 32 #[.int .i64 0, .slice none 0 0]
  simp only [World.size_alloc] at hR0
  have hb0 : Below w.heap.size w ((w.alloc (.cells #[.int .i64 k, .int .i64 r, .int .i64 n, .int .i64 v] 26)).alloc (.cells #[.int .i64 0, .slice none 0 0] 32)) := by go_grown
  have hf := fun w => voteFault_any k r n v w
  by_cases h0 : voteF ⟨k, r, n, v⟩ = 0
  · have hpp : ∀ a c w, Row .i64 w a [k, r, n, v] → Calls Try.prog 39 #[.slice a 4 c] w fun e w' => ∃ b c, e = .returned (.agg #[.int .i64 0, .slice b (vpL ⟨k, r, n, v⟩).length c]) ∧
        w'.ownsRow w.heap.size 5 1 (.slice b (vpL ⟨k, r, n, v⟩).length c) (vpL ⟨k, r, n, v⟩).length ((vpL ⟨k, r, n, v⟩).map (Value.int .u8)) ∧ Below w.heap.size w w' := by
      intro a c w h
      have := implPack_any a c [k, r, n, v] w h (by simp)
      rw [(pack_ok (by simp) (vote_short h0)).1, (pack_ok (by simp) (vote_short h0)).2] at this
      exact this
    have e2 : vpR ⟨k, r, n, v⟩ = vpB ⟨k, r, n, v⟩ := if_pos h0
    have hsum : ∀ a c w, Row .u8 w a (vpL ⟨k, r, n, v⟩) → Calls Try.prog 41 #[.slice a (vpL ⟨k, r, n, v⟩).length c] w fun e w' => e = .returned (.agg #[.int .i64 0, .int .i64 (sumL (vpL ⟨k, r, n, v⟩))]) ∧ Below w.heap.size w w' := by
      intro a c w h
      have := implSum_any a c (vpL ⟨k, r, n, v⟩) w h (vpL_u8 _) (by simp [vpL_len])
      rw [show sumC (vpL ⟨k, r, n, v⟩) = 0 from rfl, show sumV (vpL ⟨k, r, n, v⟩) = sumL (vpL ⟨k, r, n, v⟩) from rfl] at this
      exact this
    have hL : (vpL ⟨k, r, n, v⟩).length ≤ 100 := by simp [vpL_len]
    have happ := fun base v' w ho hb => appendShort_any base v' (vpL ⟨k, r, n, v⟩).length ((vpL ⟨k, r, n, v⟩).map (Value.int .u8)) (sumL (vpL ⟨k, r, n, v⟩)) w ho (by simp [vpL_len]) hb
    have hE : Hid (vpR ⟨k, r, n, v⟩ = vpL ⟨k, r, n, v⟩ ++ put2 (sumL (vpL ⟨k, r, n, v⟩))) := e2
    clear e2
    rw [h0] at hf ⊢
    generalize vpR ⟨k, r, n, v⟩ = Z at hE
    generalize vpL ⟨k, r, n, v⟩ = L at hpp hsum happ hE hL
    generalize sumL L = S at hsum happ hE
    clear h0
    go_enter Try.func12, Try.ntmps12
    go_wp2_with fail
    generalize (w.alloc (.cells #[.int .i64 k, .int .i64 r, .int .i64 n, .int .i64 v] 26)).alloc (.cells #[.int .i64 0, .slice none 0 0] 32) = W at hV0 hR0 hb0
    refine (hf _).mono ?_
    rintro e w1 ⟨rfl, hb⟩
    replace hV0 := hV0.below hb
    replace hR0 := hR0.below hb
    replace hb0 := hb0.trans (hb.mono hb0.size)
    clear hb hf
    have p0 := hV0.cell 0 _ rfl
    have p1 := hV0.cell 1 _ rfl
    have p2 := hV0.cell 2 _ rfl
    have p3 := hV0.cell 3 _ rfl
    go_wp2_with fail
    clear p0 p1 p2 p3
    have o1 : (w1.alloc (.cells #[.int .i64 k, .int .i64 r, .int .i64 n, .int .i64 v] 2)).ownsRow w1.heap.size 2 1 (.slice (some ⟨w1.heap.size, 0, none⟩) 4 4) 4 [.int .i64 k, .int .i64 r, .int .i64 n, .int .i64 v] := World.ownsRow_lit w1 #[_, _, _, _] 4 (Nat.le_refl _) (by decide) rfl
    have hbx : Below w1.heap.size w1 (w1.alloc (.cells #[.int .i64 k, .int .i64 r, .int .i64 n, .int .i64 v] 2)) := by go_grown
    have hr1 : Row .i64 (w1.alloc (.cells #[.int .i64 k, .int .i64 r, .int .i64 n, .int .i64 v] 2)) (some ⟨w1.heap.size, 0, none⟩) [k, r, n, v] := Row.own (zs := [k, r, n, v]) o1
    clear o1
    generalize w1.heap.size = g1 at hr1 ⊢
    generalize hW1 : w1.alloc (.cells #[.int .i64 k, .int .i64 r, .int .i64 n, .int .i64 v] 2) = W1 at hbx hr1
    clear hW1
    replace hR0 := hR0.below hbx
    replace hb0 := below_from hb0 hbx
    clear hbx hV0
    refine (hpp _ _ _ hr1).mono ?_
    rintro e w2 ⟨b2, c2, rfl, o2, hb2⟩
    have hsz2 := hb0.size
    have hlt2 := hR0.lt
    replace hR0 := hR0.below hb2
    replace hb0 := below_from hb0 hb2
    have hb2s := hb2.size
    clear hb2 hpp hr1
    have fl := fieldVB1 0 b2 L.length c2 w2
    go_wp2_with fail
    clear fl
    refine (hsum _ _ _ (Row.own o2)).mono ?_
    rintro e w3 ⟨rfl, hb3⟩
    replace hR0 := hR0.below hb3
    replace hb0 := below_from hb0 hb3
    replace o2 := own_below o2 hb3
    have hsz3 : W1.heap.size ≤ w3.heap.size := Nat.le_trans hb2s hb3.size
    clear hb3 hsum
    have fl := fieldVN1 0 S w3
    go_wp2_with fail
    clear fl
    refine (happ _ _ _ o2 hsz3).mono ?_
    rintro e w4 ⟨b4, c4, rfl, o4, hg4⟩
    have hne := own_not3 (b := w.heap.size + 1) o2 (Or.inl hlt2)
    replace hR0 := hR0.grown hg4 hne
    replace hb0 := hb0.grown hg4 hb0.size (fun j hj => Nat.le_trans hsz2 (o2.lt j hj).1)
    have q0 := hR0.cell 0 _ rfl
    have q1 := hR0.cell 1 _ rfl
    have g0 := hR0.frozen 0
    have g1 := hR0.frozen 1
    have hlt := hR0.lt
    have hbase : w.heap.size + 1 < W1.heap.size := hlt2
    clear happ hg4 o2 hne hR0
    have hZl : Hid (Z.length = L.length + 2) := by show Z.length = _; rw [hE.out]; simp [put2]
    go_wp2
    refine bodyPost_ret (v := .agg #[.int .i64 0, .slice b4 (L.length + 2) c4]) (by simp [results, Try.results12, go_sem, q0, q1]) rfl ?_
    rw [hZl.out, hE.out]
    refine ⟨_, _, rfl, ?_, ?_⟩
    · refine own_base (base := W1.heap.size) ?_ (by omega)
      repeat' (refine ownsRow_setCell_below ?_ (by dsimp only; omega) _)
      simpa using o4
    · repeat' (refine Below.setCell ?_ (by dsimp only; omega) _)
      exact hb0
  · have e2 : vpR ⟨k, r, n, v⟩ = [] := if_neg h0
    rw [e2]
    have hne : (voteF ⟨k, r, n, v⟩ != 0) = true := by simpa using h0
    clear e2 h0
    generalize voteF ⟨k, r, n, v⟩ = E at hf hne
    go_enter Try.func12, Try.ntmps12
    go_wp2_with fail
    generalize (w.alloc (.cells #[.int .i64 k, .int .i64 r, .int .i64 n, .int .i64 v] 26)).alloc (.cells #[.int .i64 0, .slice none 0 0] 32) = W at hV0 hR0 hb0
    refine (hf _).mono ?_
    rintro e w1 ⟨rfl, hb⟩
    replace hR0 := hR0.below hb
    replace hb0 := hb0.trans (hb.mono hb0.size)
    have q0 := hR0.cell 0 _ rfl
    have q1 := hR0.cell 1 _ rfl
    have g0 := hR0.frozen 0
    have g1 := hR0.frozen 1
    have hlt := hR0.lt
    clear hR0 hf hb
    go_wp2
    refine bodyPost_ret (v := .agg #[.int .i64 E, .slice none 0 0]) (by simp [results, Try.results12, go_sem, q0, q1]) rfl ⟨_, _, rfl, World.ownsRow_nil _ _ _ _, ?_⟩
    repeat' (refine Below.setCell ?_ (by dsimp only; omega) _)
    exact hb0

end Go.Proofs.Ytpdbjjklcejimaa
