/- The model's ReadVote: what the plain functions tell. No condition. -/
import Derived.Test.YtpdbjjklcejimaaVi10
import Derived.Test.YtpdbjjklcejimaaQuiet1
namespace Go.Proofs.Ytpdbjjklcejimaa
open Go.RowKit
open Go.BigFrame
set_option linter.unusedVariables false
set_option linter.unusedSimpArgs false

def VoteD.bare (x : VoteD) : Value := .agg #[.int .i64 x.kind, .int .i64 x.round, .int .i64 x.node, .int .i64 x.value]

theorem rvOk_len {ds : List Int} (h : ¬ ds.length = 11) : rvOk ds = false := decide_eq_false (fun e => h e.1)
theorem rvOk_sum {ds : List Int} (h : ¬ 256 * ds.getD 9 0 + ds.getD 10 0 = sumL (ds.take 9)) : rvOk ds = false := decide_eq_false (fun e => h e.2.1)
theorem rvOk_four {ds : List Int} (h : ¬ ds.getD 0 0 = 4) : rvOk ds = false := decide_eq_false (fun e => h e.2.2.1)
theorem rvOk_rest {ds : List Int} (h1 : ds.length = 11) (h2 : 256 * ds.getD 9 0 + ds.getD 10 0 = sumL (ds.take 9)) (h3 : ds.getD 0 0 = 4) : rvOk ds = (voteF (rvX ds) == 0) := by
  unfold rvOk
  by_cases h0 : voteF (rvX ds) = 0
  · rw [decide_eq_true ⟨h1, h2, h3, h0⟩, h0]; rfl
  · rw [decide_eq_false (fun e => h0 e.2.2.2)]; simp [h0]

theorem packed_take {ds : List Int} (h : ds.length = 11) : packedB (ds.take 9) = decide (ds.getD 0 0 = 4) := by
  obtain ⟨d0, d1, d2, d3, d4, d5, d6, d7, d8, d9, d10, rfl⟩ := len11 h
  unfold packedB
  refine decide_eq_decide.2 ?_
  simp only [List.take_succ_cons, List.take_zero, List.length_cons, List.length_nil, List.getD_cons_zero]
  omega

theorem sl_atB (a : Option Addr) (n c k : Nat) (hk : k ≤ c) (w : World) : (Instr.sliceAt 22 (.slice a n c) none (some (.int .i64 (k : Int))) none).run Try.prog w = .ok (.slice a k c) w := by
  rw [run_sliceAt_slice (h := (by kernel_rfl : Try.prog.underlying 22 = some (.slice (Try.prog.elem 22))))]; exact sl_hiB a n c k hk w

set_option maxHeartbeats 2000000 in
theorem l10Read_any (a : Option Addr) (cap : Nat) (ds : List Int) (w : World) (pa : Pla a) (h : Row .u8 w a ds) (hu : ∀ i, 0 ≤ ds.getD i 0 ∧ ds.getD i 0 ≤ 255) (hl : ds.length ≤ 1048576) (hcp : ds.length ≤ cap) :
    Calls Try.prog 42 #[.slice a ds.length cap] w fun e w' => ∃ x : VoteD, e = .returned (.tuple #[x.bare, .bool (rvOk ds)]) ∧ (rvOk ds = true → x = rvX ds) ∧ Below w.heap.size w w' := by
  have hR0 := Blk.new w 26 #[.int .i64 0, .int .i64 0, .int .i64 0, .int .i64 0]
  have hb0 : Below w.heap.size w (w.alloc (.cells #[.int .i64 0, .int .i64 0, .int .i64 0, .int .i64 0] 26)) := by go_grown
  by_cases h11 : ds.length = 11
  · have hsum : ∀ w, Row .u8 w a ds → Calls Try.prog 51 #[.slice a 9 cap] w fun e w' => e = .returned (.int .i64 (sumL (ds.take 9))) ∧ w' = w := fun w h => by
      have := l1Sum_any a cap (ds.take 9) w (h.take 9) (take_u8' hu 9) (by rw [List.length_take]; omega)
      rw [List.length_take, h11] at this
      exact this
    have hSb := sumL_bounds (ds.take 9)
    have hrn : ¬ ds.getD 0 0 = 4 → ∀ w, Row .u8 w a ds → Calls Try.prog 55 #[.slice a 9 cap] w fun e w' => e = .returned (.tuple #[.slice none 0 0, .bool false]) ∧ w' = w := fun hn w h => by
      have := l1Read_no a cap (ds.take 9) w (h.take 9) (take_u8' hu 9) (by rw [List.length_take]; omega) (by rw [packed_take h11]; exact decide_eq_false hn)
      rw [List.length_take, h11] at this
      exact this
    have hry : ds.getD 0 0 = 4 → ∀ w, Row .u8 w a ds → Calls Try.prog 55 #[.slice a 9 cap] w fun e w' => ∃ b c, e = .returned (.tuple #[.slice b 4 c, .bool true]) ∧ w'.ownsRow w.heap.size 2 1 (.slice b 4 c) 4 ((readL (ds.take 9) 4).map (Value.int .i64)) ∧ Below w.heap.size w w' := fun hn w h => by
      have := l1Read_yes a cap (ds.take 9) w (h.take 9) (take_u8' hu 9) (by rw [List.length_take]; omega) 4 (by obtain ⟨d0, d1, d2, d3, d4, d5, d6, d7, d8, d9, d10, rfl⟩ := len11 h11; exact hn) (by omega) (by rw [List.length_take]; omega)
      rw [List.length_take, h11, readL_length] at this
      exact this
    have HX : Hid (rvX ds = ⟨(readL (ds.take 9) 4).getD 0 0, (readL (ds.take 9) 4).getD 1 0, (readL (ds.take 9) 4).getD 2 0, (readL (ds.take 9) 4).getD 3 0⟩) := rvX_take h11
    obtain ⟨b, off, rfl, hbs, c9⟩ := h 9 (by omega)
    obtain ⟨b', off', e', hbs', c10⟩ := h 10 (by omega)
    simp only [Option.some.injEq, Addr.mk.injEq, and_true] at e'
    obtain ⟨rfl, rfl⟩ := e'
    have u9 := hu 9
    have u10 := hu 10
    have H1 : Hid (¬ 256 * ds.getD 9 0 + ds.getD 10 0 = sumL (ds.take 9) → rvOk ds = false) := rvOk_sum
    have H2 : Hid (¬ ds.getD 0 0 = 4 → rvOk ds = false) := rvOk_four
    have H3 : Hid (256 * ds.getD 9 0 + ds.getD 10 0 = sumL (ds.take 9) → ds.getD 0 0 = 4 → rvOk ds = (voteF (rvX ds) == 0)) := rvOk_rest h11
    generalize readL (ds.take 9) 4 = RL at hry HX
    generalize sumL (ds.take 9) = S at hsum hSb H1 H3
    generalize ds.getD 9 0 = D9 at c9 u9 H1 H3
    generalize ds.getD 10 0 = D10 at c10 u10 H1 H3
    have hc11 : 9 ≤ cap := by omega
    rw [h11]
    generalize rvOk ds = OKB at H1 H2 H3
    generalize rvX ds = X at HX H3
    generalize ds.getD 0 0 = D0 at H2 H3 hrn hry
    clear hu hl hcp h11
    have c9' := hb0.cell (p := ⟨b, off + 9, none⟩) hbs
    rw [c9] at c9'
    have c10' := hb0.cell (p := ⟨b, off + 10, none⟩) hbs
    rw [c10] at c10'
    go_enter Try.func42, Try.ntmps42
    go_wp2_with fail
    generalize w.alloc (.cells #[.int .i64 0, .int .i64 0, .int .i64 0, .int .i64 0] 26) = W at hR0 hb0 c9' c10'
    have k9 := lat_cell c9'
    have k10 := lat_cell c10'
    have hW : Below W.heap.size W W.drew := (Below.refl _ _).drew
    have hne : Nonempty (Lat W) := ⟨⟨W, Below.refl _ _⟩⟩
    replace h := h.below hb0
    clear c9 c10 c9' c10'
    refine text_begin (S := fun w' => ∃ u : Lat W, w' = u.val) (by kernel_rfl) ?_
    refine seg_range [(0, 1)] 18 (by kernel_rfl) (by kernel_rfl) (by kernel_rfl) (by kernel_rfl) (by kernel_rfl) ⟨⟨_, hW⟩, rfl⟩ ?_
    simp only [pickR, List.toList_toArray, List.flatMap_cons, List.flatMap_nil, List.drop_succ_cons, List.drop_zero, List.take_succ_cons, List.take_zero, List.cons_append, List.nil_append, List.append_nil]
    repeat go_big_quiet_step (fail)
    refine wpQuiet_nil ?_
    refine quiet_at 1 (some 8) (.int .i64 11) 17 (by kernel_rfl) (by kernel_rfl) (by kernel_rfl) (by kernel_rfl) (by kernel_rfl) (fun u _ => by kernel_rfl) ⟨⟨_, hW⟩, rfl⟩ ?_
    simp only [Act.put, List.setIfInBounds_toArray, List.set_cons_zero, List.set_cons_succ]
    refine seg_range [(2, 2)] 15 (by kernel_rfl) (by kernel_rfl) (by kernel_rfl) (by kernel_rfl) (by kernel_rfl) ⟨⟨_, hW⟩, rfl⟩ ?_
    simp only [pickR, List.toList_toArray, List.flatMap_cons, List.flatMap_nil, List.drop_succ_cons, List.drop_zero, List.take_succ_cons, List.take_zero, List.cons_append, List.nil_append, List.append_nil]
    repeat go_big_quiet_step (fail)
    refine wpQuiet_nil ?_
    refine seg_range [(4, 11)] 4 (by kernel_rfl) (by kernel_rfl) (by kernel_rfl) (by kernel_rfl) (by kernel_rfl) ⟨⟨_, hW⟩, rfl⟩ ?_
    simp only [pickR, List.toList_toArray, List.flatMap_cons, List.flatMap_nil, List.drop_succ_cons, List.drop_zero, List.take_succ_cons, List.take_zero, List.cons_append, List.nil_append, List.append_nil]
    repeat go_big_quiet_step (fail)
    refine wpQuiet_nil ?_
    refine quiet_at 15 (some 22) (.slice (some ⟨b, off, none⟩) 9 cap) 3 (by kernel_rfl) (by kernel_rfl) (by kernel_rfl) (by kernel_rfl) (by kernel_rfl) (fun u hu => ?_) ⟨⟨_, hW⟩, rfl⟩ ?_
    · obtain ⟨u, rfl⟩ := hu
      refine Eq.trans (b := some (((Instr.sliceAt 22 (.slice (some ⟨b, off, none⟩) 11 cap) none (some (.int .i64 9)) none) >>= fun x => pure (Next.value x) : Sem Next).run Try.prog u.val)) (by kernel_rfl) ?_
      rw [Sem.run_bind, show (Instr.sliceAt 22 (.slice (some ⟨b, off, none⟩) 11 cap) none (some (.int .i64 9)) none).run Try.prog u.val = .ok (.slice (some ⟨b, off, none⟩) 9 cap) u.val from sl_atB _ 11 cap 9 hc11 _]
      rfl
    simp only [Act.put, List.setIfInBounds_toArray, List.set_cons_zero, List.set_cons_succ]
    refine call_at 16 (some 23) 51 #[.slice (some ⟨b, off, none⟩) 9 cap] 2 (by kernel_rfl) (by kernel_rfl) (by kernel_rfl) (by kernel_rfl) (by kernel_rfl) ?_
    refine (hsum _ (h.below hW)).mono ?_
    rintro e w2 ⟨rfl, hw2⟩
    replace hw2 := hw2.symm
    subst hw2
    refine ⟨_, rfl, ⟨⟨_, hW⟩, rfl⟩, ?_⟩
    simp only [Act.put, List.setIfInBounds_toArray, List.set_cons_zero, List.set_cons_succ]
    refine seg_range [(17, 2)] 0 (by kernel_rfl) (by kernel_rfl) (by kernel_rfl) (by kernel_rfl) (by kernel_rfl) ⟨⟨_, hW⟩, rfl⟩ ?_
    simp only [pickR, List.toList_toArray, List.flatMap_cons, List.flatMap_nil, List.drop_succ_cons, List.drop_zero, List.take_succ_cons, List.take_zero, List.cons_append, List.nil_append, List.append_nil]
    repeat go_big_quiet_step (fail)
    refine wpQuiet_nil ?_
    refine text_end (by kernel_rfl) ?_
    replace hR0 := hR0.below hW
    replace hb0 := below_from hb0 hW
    replace h := h.below hW
    generalize W.drew = W1 at hR0 hb0 h
    clear hW hne k9 k10 hsum
    by_cases hS : 256 * D9 + D10 = S
    · have H1' : (256 * D9 + D10 != S) = false := by simp [hS]
      have hsl : ∀ u : World, (Instr.slice 22 (.slice (some ⟨b, off, none⟩) 11 cap) none (some (.int .i64 9)) none).run Try.prog u = .ok (.slice (some ⟨b, off, none⟩) 9 cap) u := fun u => sl_hiB _ 11 cap 9 hc11 u
      replace H3 : Hid (D0 = 4 → OKB = (voteF X == 0)) := H3.out hS
      clear H1 hS
      go_wp2_with fail
      clear H1' hsl
      by_cases hD : D0 = 4
      · replace hry := hry hD _ h
        replace H3 : Hid (OKB = (voteF X == 0)) := H3.out hD
        clear H2 hrn hD
        refine hry.mono ?_
        rintro e w2 ⟨b2, c2, rfl, o2, hb2⟩
        replace hR0 := hR0.below hb2
        have hs0 := hb0.size
        replace hb0 := below_from hb0 hb2
        clear hb2 hry h
        have hRow := Row.own o2
        have hRl : RL.length = 4 := by simpa using o2.1
        obtain ⟨g1, off1, rfl, hg1, d0⟩ := hRow 0 (by omega)
        obtain ⟨g1', off1', e', hg1', d1⟩ := hRow 1 (by omega)
        simp only [Option.some.injEq, Addr.mk.injEq, and_true] at e'
        obtain ⟨rfl, rfl⟩ := e'
        obtain ⟨g1', off1', e', hg1', d2⟩ := hRow 2 (by omega)
        simp only [Option.some.injEq, Addr.mk.injEq, and_true] at e'
        obtain ⟨rfl, rfl⟩ := e'
        obtain ⟨g1', off1', e', hg1', d3⟩ := hRow 3 (by omega)
        simp only [Option.some.injEq, Addr.mk.injEq, and_true] at e'
        obtain ⟨rfl, rfl⟩ := e'
        simp only [Nat.add_zero] at d0 d1 d2 d3
        generalize RL.getD 0 0 = k at d0 HX
        generalize RL.getD 1 0 = r at d1 HX
        generalize RL.getD 2 0 = n at d2 HX
        generalize RL.getD 3 0 = v at d3 HX
        obtain rfl := HX.out
        have k0 := lat_cell d0
        have k1 := lat_cell d1
        have k2 := lat_cell d2
        have k3 := lat_cell d3
        have hW : Below w2.heap.size w2 w2.drew := (Below.refl _ _).drew
        have hne : Nonempty (Lat w2) := ⟨⟨w2, Below.refl _ _⟩⟩
        clear hRow o2 hRl d0 d1 d2 d3 HX
        go_wp2_with fail
        refine text_begin (S := fun w' => ∃ u : Lat w2, w' = u.val) (by kernel_rfl) ?_
        refine seg_range [(0, 13)] 2 (by kernel_rfl) (by kernel_rfl) (by kernel_rfl) (by kernel_rfl) (by kernel_rfl) ⟨⟨_, hW⟩, rfl⟩ ?_
        simp only [pickR, List.toList_toArray, List.flatMap_cons, List.flatMap_nil, List.drop_succ_cons, List.drop_zero, List.take_succ_cons, List.take_zero, List.cons_append, List.nil_append, List.append_nil]
        repeat go_big_quiet_step (fail)
        refine wpQuiet_nil ?_
        clear k0 k1 k2 k3
        refine one_at 13 _ 1 (by kernel_rfl) rfl (by kernel_rfl) ?_
        go_wp2
        have hW1 : Below w2.heap.size w2 (w2.alloc (.cells #[.int .i64 0, .int .i64 0, .int .i64 0, .int .i64 0] 26)).drew := ((Below.refl _ _).alloc (Nat.le_refl _) _).drew
        refine ThenGo.to ⟨⟨⟨_, hW1⟩, rfl⟩, ?_⟩
        refine one_at 14 _ 0 (by kernel_rfl) rfl (by kernel_rfl) ?_
        go_wp2
        have hW2 : Below w2.heap.size w2 (w2.alloc (.cells #[.int .i64 k, .int .i64 r, .int .i64 n, .int .i64 v] 26)).drew := ((Below.refl _ _).alloc (Nat.le_refl _) _).drew
        have hB2 : Blk (w2.alloc (.cells #[.int .i64 k, .int .i64 r, .int .i64 n, .int .i64 v] 26)).drew w2.heap.size 26 #[.int .i64 k, .int .i64 r, .int .i64 n, .int .i64 v] := Blk.new w2 26 _
        refine ThenGo.to ⟨⟨⟨_, hW2⟩, rfl⟩, ?_⟩
        refine text_end (by kernel_rfl) ?_
        have hR2 := hR0.lt
        replace hR0 := hR0.below hW2
        replace hb0 := below_from hb0 hW2
        generalize hW2e : (w2.alloc (.cells #[.int .i64 k, .int .i64 r, .int .i64 n, .int .i64 v] 26)).drew = W2 at hB2 hR0 hb0
        clear hW2e hW hW1 hW2 hne
        generalize w2.heap.size = g2 at hB2 hR2 ⊢
        have p0 := hB2.cell 0 _ rfl
        have p1 := hB2.cell 1 _ rfl
        have p2 := hB2.cell 2 _ rfl
        have p3 := hB2.cell 3 _ rfl
        have q0 := hR0.cell 0 _ rfl
        have q1 := hR0.cell 1 _ rfl
        have q2 := hR0.cell 2 _ rfl
        have q3 := hR0.cell 3 _ rfl
        have r0 := hR0.frozen 0
        have r1 := hR0.frozen 1
        have r2 := hR0.frozen 2
        have r3 := hR0.frozen 3
        have hlt := hR0.lt
        have hfc := fun u hB => l10Fault_any g2 0 k r n v u hB
        generalize voteF ⟨k, r, n, v⟩ = E at hfc H3
        have hneq : w.heap.size ≠ g2 := by omega
        have hfd := hfc W2.drew (⟨p0, p1, p2, p3⟩ : Box4 W2.drew g2 0 (.int .i64 k) (.int .i64 r) (.int .i64 n) (.int .i64 v))
        clear hB2 hR0 hfc
        go_wp2_with fail
        go_region_with (go_at_call 43; refine hfd.mono ?_; rintro e w' ⟨rfl, rfl⟩)
        all_goals
          (simp only [Act.put, List.getElem_toArray, List.getElem_cons_succ, List.getElem_cons_zero, List.setIfInBounds_toArray, List.set_cons_zero, List.set_cons_succ]
           go_wp2
           refine bodyPost_ret (v := .tuple #[VoteD.bare ⟨k, r, n, v⟩, .bool (E == 0)]) (by simp [results, Try.results42, go_sem, q0, q1, q2, q3, VoteD.bare]) rfl ⟨⟨k, r, n, v⟩, by rw [H3.out], fun _ => rfl, ?_⟩
           refine Below.drew ?_
           repeat' (refine Below.setCell ?_ (by dsimp only; omega) _)
           exact hb0)
      · replace hrn := hrn hD _ h
        replace H2 : Hid (OKB = false) := H2.out hD
        clear hry H3 hD
        refine hrn.mono ?_
        rintro e w2 ⟨rfl, hw2⟩
        replace hw2 := hw2.symm
        subst hw2
        have q0 := hR0.cell 0 _ rfl
        have q1 := hR0.cell 1 _ rfl
        have q2 := hR0.cell 2 _ rfl
        have q3 := hR0.cell 3 _ rfl
        have r0 := hR0.frozen 0
        have r1 := hR0.frozen 1
        have r2 := hR0.frozen 2
        have r3 := hR0.frozen 3
        have hlt := hR0.lt
        clear hR0 hrn
        go_wp2
        refine bodyPost_ret (v := .tuple #[VoteD.bare voteNo, .bool false]) (by simp [results, Try.results42, go_sem, q0, q1, q2, q3, VoteD.bare, voteNo]) rfl ⟨voteNo, by rw [H2.out], fun e => absurd (H2.out.symm.trans e) (by decide), ?_⟩
        repeat' (refine Below.setCell ?_ (by dsimp only; omega) _)
        exact hb0
    · have H1' : (256 * D9 + D10 != S) = true := by simpa using hS
      replace H1 : Hid (OKB = false) := H1.out hS
      have q0 := hR0.cell 0 _ rfl
      have q1 := hR0.cell 1 _ rfl
      have q2 := hR0.cell 2 _ rfl
      have q3 := hR0.cell 3 _ rfl
      have r0 := hR0.frozen 0
      have r1 := hR0.frozen 1
      have r2 := hR0.frozen 2
      have r3 := hR0.frozen 3
      have hlt := hR0.lt
      clear hS hR0 H2 H3 hrn hry
      go_wp2
      refine bodyPost_ret (v := .tuple #[VoteD.bare voteNo, .bool false]) (by simp [results, Try.results42, go_sem, q0, q1, q2, q3, VoteD.bare, voteNo]) rfl ⟨voteNo, by rw [H1.out], fun e => absurd (H1.out.symm.trans e) (by decide), ?_⟩
      repeat' (refine Below.setCell ?_ (by dsimp only; omega) _)
      exact hb0
  · have hok := rvOk_len h11
    rw [hok]
    have hne : ((ds.length : Int) != 11) = true := by simp; omega
    have q0 := hR0.cell 0 _ rfl
    have q1 := hR0.cell 1 _ rfl
    have q2 := hR0.cell 2 _ rfl
    have q3 := hR0.cell 3 _ rfl
    have r0 := hR0.frozen 0
    have r1 := hR0.frozen 1
    have r2 := hR0.frozen 2
    have r3 := hR0.frozen 3
    have hlt := hR0.lt
    clear hok h11 hR0
    go_enter Try.func42, Try.ntmps42
    go_wp2_with fail
    generalize w.alloc (.cells #[.int .i64 0, .int .i64 0, .int .i64 0, .int .i64 0] 26) = W at *
    go_quiet (fail)
    go_wp2
    refine bodyPost_ret (v := .tuple #[VoteD.bare voteNo, .bool false]) (by simp [results, Try.results42, go_sem, q0, q1, q2, q3, VoteD.bare, voteNo]) rfl ⟨voteNo, rfl, fun e => absurd e (by decide), ?_⟩
    repeat' (refine Below.setCell ?_ (by dsimp only; omega) _)
    exact below_dN hb0 _

set_option maxHeartbeats 2000000 in
theorem specReadVote_any (a : Option Addr) (cap : Nat) (ds : List Int) (w : World) (pa : Pla a) (h : Row .u8 w a ds) (hu : ∀ i, 0 ≤ ds.getD i 0 ∧ ds.getD i 0 ≤ 255) (hl : ds.length ≤ 1048576) (hcp : ds.length ≤ cap) :
    Calls Try.prog 13 #[.slice a ds.length cap] w fun e w' => e = .returned ((rvV ds).val (rvC ds)) ∧ Below w.heap.size w w' := by
  have hR0 := Blk.new w 28 #[.int .i64 0, .int .i64 0, .int .i64 0, .int .i64 0, .int .i64 0]
  have hb0 : Below w.heap.size w (w.alloc (.cells #[.int .i64 0, .int .i64 0, .int .i64 0, .int .i64 0, .int .i64 0] 28)) := by go_grown
  have hrd := fun w h => l10Read_any a cap ds w pa h hu hl hcp
  have HV : Hid ((rvOk ds = true → rvV ds = rvX ds ∧ rvC ds = 0) ∧ (rvOk ds = false → rvV ds = voteNo ∧ rvC ds = 5)) := ⟨fun e => by simp [rvV, rvC, e], fun e => by simp [rvV, rvC, e]⟩
  go_enter Try.func13, Try.ntmps13
  go_wp2_with fail
  generalize w.alloc (.cells #[.int .i64 0, .int .i64 0, .int .i64 0, .int .i64 0, .int .i64 0] 28) = W at hR0 hb0
  refine (hrd _ (h.below hb0)).mono ?_
  rintro e w1 ⟨x, rfl, hx, hb1⟩
  replace hR0 := hR0.below hb1
  replace hb0 := below_from hb0 hb1
  clear hb1 hrd
  obtain ⟨k, r, n, v⟩ := x
  have hbx : Below w1.heap.size w1 (w1.alloc (.cells #[.int .i64 k, .int .i64 r, .int .i64 n, .int .i64 v] 26)) := by go_grown
  have hX := Blk.new w1 26 #[.int .i64 k, .int .i64 r, .int .i64 n, .int .i64 v]
  replace hR0 := hR0.below hbx
  have hb1 := below_from hb0 hbx
  have q0 := hR0.cell 0 _ rfl
  have q1 := hR0.cell 1 _ rfl
  have q2 := hR0.cell 2 _ rfl
  have q3 := hR0.cell 3 _ rfl
  have q4 := hR0.cell 4 _ rfl
  have r0 := hR0.frozen 0
  have r1 := hR0.frozen 1
  have r2 := hR0.frozen 2
  have r3 := hR0.frozen 3
  have r4 := hR0.frozen 4
  have hlt := hR0.lt
  unfold VoteD.bare
  dsimp only
  cases hok : rvOk ds
  · have e1 : Hid ((rvV ds).val (rvC ds) = voteNo.val 5) := by show _ = _; rw [(HV.out.2 hok).1, (HV.out.2 hok).2]
    clear HV hok hx hR0 hX
    go_wp2
    refine bodyPost_ret (v := VoteD.val 5 voteNo) (by simp [results, Try.results13, go_sem, q0, q1, q2, q3, q4, VoteD.val, voteNo]) rfl ⟨by rw [e1.out], ?_⟩
    repeat' (refine Below.setCell ?_ (by dsimp only; omega) _)
    exact hb1
  · have e1 : Hid ((rvV ds).val (rvC ds) = VoteD.val 0 ⟨k, r, n, v⟩) := by show _ = _; rw [(HV.out.1 hok).1, (HV.out.1 hok).2, hx hok]
    have p0 := hX.cell 0 _ rfl
    have p1 := hX.cell 1 _ rfl
    have p2 := hX.cell 2 _ rfl
    have p3 := hX.cell 3 _ rfl
    clear HV hok hx hR0 hX
    go_wp2
    refine bodyPost_ret (v := VoteD.val 0 ⟨k, r, n, v⟩) (by simp [results, Try.results13, go_sem, q0, q1, q2, q3, q4, VoteD.val, voteNo]) rfl ⟨by rw [e1.out], ?_⟩
    repeat' (refine Below.setCell ?_ (by dsimp only; omega) _)
    exact hb1

end Go.Proofs.Ytpdbjjklcejimaa
