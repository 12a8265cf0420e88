/- The program's ReadVote: what the plain functions tell. No condition. -/
import Derived.Test.YtpdbjjklcejimaaVr10
namespace Go.Proofs.Ytpdbjjklcejimaa
open Go.RowKit
open Go.BigFrame
set_option linter.unusedVariables false
set_option linter.unusedSimpArgs false

theorem fieldVL1 (c : Int) (a : Option Addr) (l k : Nat) (w : World) : (Instr.field 58 (.agg #[.int .i64 c, .slice a l k]) 1).run Try.prog w = .ok (.slice a l k) w := by kernel_rfl

def VoteD.val (c : Int) (x : VoteD) : Value := .agg #[.int .i64 c, .int .i64 x.kind, .int .i64 x.round, .int .i64 x.node, .int .i64 x.value]

theorem own_pla {w : World} {base e s n c : Nat} {a : Option Addr} {xs : List Value} (h : w.ownsRow base e s (.slice a n c) n xs) : Pla a := by
  rcases h.2 with ⟨he, h0⟩ | ⟨g, cap, cur, he, r⟩
  · simp only [Value.slice.injEq] at he; exact Or.inl he.1
  · simp only [Value.slice.injEq] at he; exact Or.inr ⟨g, 0, he.1⟩

theorem vpR_u8 (x : VoteD) : ∀ i, 0 ≤ (vpR x).getD i 0 ∧ (vpR x).getD i 0 ≤ 255 := by
  unfold vpR
  split
  · unfold vpB
    refine getD_all (p := fun y => 0 ≤ y ∧ y ≤ 255) (by omega) _ ?_
    intro y hy
    rcases List.mem_append.1 hy with hy | hy
    · exact all_of_getD (p := fun y => 0 ≤ y ∧ y ≤ 255) (vpL_u8 x) y hy
    · simp only [put2, List.mem_cons, List.not_mem_nil, or_false] at hy
      rcases hy with rfl | rfl <;> omega
  · intro i; simp [List.getD]

set_option maxHeartbeats 2000000 in
theorem implReadVote_any (a : Option Addr) (cap : Nat) (ds : List Int) (w : World) (pa : Pla a) (h : Row .u8 w a ds) (hu : ∀ i, 0 ≤ ds.getD i 0 ∧ ds.getD i 0 ≤ 255) (hl : ds.length ≤ 1048576) (hcp : ds.length ≤ cap) :
    Calls Try.prog 10 #[.slice a ds.length cap] w fun e w' => e = .returned ((rvV ds).val (rvC ds)) ∧ Below w.heap.size w w' := by
  obtain ⟨M, m, hM0, hM, hmd⟩ : ∃ (M : Int) (m : Nat), (if (ds.length : Int) - 2 > 0 then (ds.length : Int) - 2 else 0) = M ∧ M = (m : Int) ∧ m = ds.length - 2 := by
    refine ⟨_, ds.length - 2, rfl, ?_, rfl⟩
    split <;> omega
  have hm1 : m ≤ ds.length := by omega
  have hsl : ∀ u : World, (Instr.slice 22 (.slice a ds.length cap) none (some (.int .i64 M)) none).run Try.prog u = .ok (.slice a m cap) u := fun u => by
    rw [hM]; exact sl_hiB a ds.length cap m (by omega) u
  have hsl' : ∀ u : World, (Instr.sliceAt 22 (.slice a ds.length cap) none (some (.int .i64 M)) none).run Try.prog u = .ok (.slice a m cap) u := fun u => by
    rw [run_sliceAt_slice (h := (by kernel_rfl : Try.prog.underlying 22 = some (.slice (Try.prog.elem 22))))]; exact hsl u
  have hmax : ∀ u : World, (Builtin.max_ #[3, 3] 3 #[.int .i64 0, .int .i64 ((ds.length : Int) - 2)]).run Try.prog u = .ok (.int .i64 M) u := fun u => by
    rw [run_max_int2, hM0]
  have hrd : ∀ w, Row .u8 w a ds → Calls Try.prog 36 #[.slice a m cap] w fun e w' => ∃ b c, e = .returned (.agg #[.int .i64 (readC (ds.take m)), .slice b (readR (ds.take m)).length c]) ∧ w'.ownsRow w.heap.size 2 1 (.slice b (readR (ds.take m)).length c) (readR (ds.take m)).length ((readR (ds.take m)).map (Value.int .i64)) ∧ Below w.heap.size w w' := fun w h => by
    have := implRead_any a cap (ds.take m) w (h.take m) (take_u8' hu m) (by rw [List.length_take]; omega)
    rw [List.length_take, Nat.min_eq_left hm1] at this
    exact this
  have H4 : Hid ((readR (ds.take m)).length = 4 → ds.length = 11 ∧ ds.getD 0 0 = 4 ∧ readR (ds.take m) = [(rvX ds).kind, (rvX ds).round, (rvX ds).node, (rvX ds).value]) := by
    rw [hmd]; exact rv_four
  have H5 : Hid (¬ (readR (ds.take m)).length = 4 → rvOk ds = false) := by
    rw [hmd]; exact rv_not_four
  have h40 := readR_le (ds.take m)
  clear hM hmd hM0
  have hR0 := Blk.new w 28 #[.int .i64 0, .int .i64 0, .int .i64 0, .int .i64 0, .int .i64 0]
  have hb0 : Below w.heap.size w (w.alloc (.cells #[.int .i64 0, .int .i64 0, .int .i64 0, .int .i64 0, .int .i64 0] 28)) := by go_grown
  generalize readR (ds.take m) = R at hrd H4 H5 h40
  generalize readC (ds.take m) = C at hrd
  go_enter Try.func10, Try.ntmps10
  go_wp2_with fail
  generalize w.alloc (.cells #[.int .i64 0, .int .i64 0, .int .i64 0, .int .i64 0, .int .i64 0] 28) = W at hR0 hb0
  refine (hrd _ (h.below hb0)).mono ?_
  rintro e w1 ⟨b1, c1, rfl, o1, hb1⟩
  replace hR0 := hR0.below hb1
  have hs0 := hb0.size
  replace hb0 := below_from hb0 hb1
  clear hb1 hrd hsl hsl' hmax
  have fl := fieldVL1 C b1 R.length c1 w1
  by_cases hR : R.length = 4
  · obtain ⟨h11, h4, hRe⟩ := H4.out hR
    clear H4 H5
    have HE : Hid (decide (vpR (rvX ds) = ds) = rvOk ds) := rv_pack hu h11 h4
    have HP := fun w => implPackVote_any (rvX ds).kind (rvX ds).round (rvX ds).node (rvX ds).value w
    have hvu : ∀ i, 0 ≤ (vpR (rvX ds)).getD i 0 ∧ (vpR (rvX ds)).getD i 0 ≤ 255 := vpR_u8 _
    have HV : Hid ((rvOk ds = true → rvV ds = rvX ds ∧ rvC ds = 0) ∧ (rvOk ds = false → rvV ds = voteNo ∧ rvC ds = 5)) := ⟨fun e => by simp [rvV, rvC, e], fun e => by simp [rvV, rvC, e]⟩
    change ∀ w, Calls Try.prog 12 #[.agg #[.int .i64 (rvX ds).kind, .int .i64 (rvX ds).round, .int .i64 (rvX ds).node, .int .i64 (rvX ds).value]] w fun e w' => ∃ b c, e = .returned (.agg #[.int .i64 (voteF (rvX ds)), .slice b (vpR (rvX ds)).length c]) ∧ w'.ownsRow w.heap.size 5 1 (.slice b (vpR (rvX ds)).length c) (vpR (rvX ds)).length ((vpR (rvX ds)).map (Value.int .u8)) ∧ Below w.heap.size w w' at HP
    have hL11 := vpR_le (rvX ds)
    have hRow := Row.own o1
    rw [hRe] at hRow
    generalize vpR (rvX ds) = L at HE HP hvu hL11
    generalize voteF (rvX ds) = E at HP
    generalize hX : rvX ds = X at HP hRow HV hRe
    clear hX
    obtain ⟨k, r, n, v⟩ := X
    dsimp only at HP hRow hRe
    obtain ⟨g1, off1, rfl, hg1, d0⟩ := hRow 0 (by simp)
    obtain ⟨g1', off1', e', hg1', d1⟩ := hRow 1 (by simp)
    simp only [Option.some.injEq, Addr.mk.injEq, and_true] at e'
    obtain ⟨rfl, rfl⟩ := e'
    obtain ⟨g1', off1', e', hg1', d2⟩ := hRow 2 (by simp)
    simp only [Option.some.injEq, Addr.mk.injEq, and_true] at e'
    obtain ⟨rfl, rfl⟩ := e'
    obtain ⟨g1', off1', e', hg1', d3⟩ := hRow 3 (by simp)
    simp only [Option.some.injEq, Addr.mk.injEq, and_true] at e'
    obtain ⟨rfl, rfl⟩ := e'
    simp only [List.getD_cons_zero, List.getD_cons_succ, Nat.add_zero] at d0 d1 d2 d3
    rw [hR] at fl ⊢
    have k0 := lat_cell d0
    have k1 := lat_cell d1
    have k2 := lat_cell d2
    have k3 := lat_cell d3
    have hW : Below w1.heap.size w1 w1.drew := (Below.refl _ _).drew
    have hne : Nonempty (Lat w1) := ⟨⟨w1, Below.refl _ _⟩⟩
    clear hRow o1 hR d0 d1 d2 d3 hRe h11 h4
    go_wp2_with fail
    clear fl
    refine text_begin (S := fun w' => ∃ u : Lat w1, w' = u.val) (by kernel_rfl) ?_
    refine seg_range [(0, 13)] 2 (by kernel_rfl) (by kernel_rfl) (by kernel_rfl) (by kernel_rfl) (by kernel_rfl) ⟨⟨_, hW⟩, rfl⟩ ?_
    simp only [pickR, List.toList_toArray, List.flatMap_cons, List.flatMap_nil, List.drop_succ_cons, List.drop_zero, List.take_succ_cons, List.take_zero, List.cons_append, List.nil_append, List.append_nil]
    repeat go_big_quiet_step (fail)
    refine wpQuiet_nil ?_
    clear k0 k1 k2 k3
    refine one_at 13 _ 1 (by kernel_rfl) rfl (by kernel_rfl) ?_
    go_wp2
    have hW1 : Below w1.heap.size w1 (w1.alloc (.cells #[.int .i64 0, .int .i64 0, .int .i64 0, .int .i64 0] 26)).drew := ((Below.refl _ _).alloc (Nat.le_refl _) _).drew
    refine ThenGo.to ⟨⟨⟨_, hW1⟩, rfl⟩, ?_⟩
    refine one_at 14 _ 0 (by kernel_rfl) rfl (by kernel_rfl) ?_
    go_wp2
    have hW2 : Below w1.heap.size w1 (w1.alloc (.cells #[.int .i64 k, .int .i64 r, .int .i64 n, .int .i64 v] 26)).drew := ((Below.refl _ _).alloc (Nat.le_refl _) _).drew
    have hB2 : Blk (w1.alloc (.cells #[.int .i64 k, .int .i64 r, .int .i64 n, .int .i64 v] 26)).drew w1.heap.size 26 #[.int .i64 k, .int .i64 r, .int .i64 n, .int .i64 v] := Blk.new w1 26 _
    refine ThenGo.to ⟨⟨⟨_, hW2⟩, rfl⟩, ?_⟩
    refine text_end (by kernel_rfl) ?_
    replace hR0 := hR0.below hW2
    replace hb0 := below_from hb0 hW2
    generalize hW2e : (w1.alloc (.cells #[.int .i64 k, .int .i64 r, .int .i64 n, .int .i64 v] 26)).drew = W2 at hB2 hR0 hb0
    clear hW2e hW hW1 hW2 hne
    generalize w1.heap.size = g2 at hB2 ⊢
    have p0 := hB2.cell 0 _ rfl
    have p1 := hB2.cell 1 _ rfl
    have p2 := hB2.cell 2 _ rfl
    have p3 := hB2.cell 3 _ rfl
    go_wp2_with fail
    clear p0 p1 p2 p3
    refine (HP _).mono ?_
    rintro e w3 ⟨b3, c3, rfl, o3, hb3⟩
    replace hB2 := hB2.below hb3
    replace hR0 := hR0.below hb3
    replace hb0 := below_from hb0 hb3
    clear hb3 HP
    have fl := fieldVB1 E b3 L.length c3 w3
    have heq := bytesEqual_any b3 a c3 cap L ds w3 (own_pla o3) pa (Row.own o3) (h.below hb0) hvu hu
    rw [HE.out] at heq
    clear HE o3 hvu
    go_wp2_with fail
    clear fl
    refine heq.mono ?_
    rintro e w4 ⟨rfl, hw4⟩
    replace hw4 := hw4.symm
    subst hw4
    clear heq
    have q0 := hR0.cell 0 _ rfl
    have q1 := hR0.cell 1 _ rfl
    have q2 := hR0.cell 2 _ rfl
    have q3 := hR0.cell 3 _ rfl
    have q4 := hR0.cell 4 _ rfl
    have r0 := hR0.frozen 0
    have r1 := hR0.frozen 1
    have r2 := hR0.frozen 2
    have r3 := hR0.frozen 3
    have r4 := hR0.frozen 4
    have p0 := hB2.cell 0 _ rfl
    have p1 := hB2.cell 1 _ rfl
    have p2 := hB2.cell 2 _ rfl
    have p3 := hB2.cell 3 _ rfl
    have hlt := hR0.lt
    clear hR0 hB2
    cases hok : rvOk ds
    · have e1 : Hid ((rvV ds).val (rvC ds) = voteNo.val 5) := by show _ = _; rw [(HV.out.2 hok).1, (HV.out.2 hok).2]
      clear HV hok
      go_wp2
      refine bodyPost_ret (v := VoteD.val 5 voteNo) (by simp [results, Try.results10, go_sem, q0, q1, q2, q3, q4, VoteD.val, voteNo]) rfl ⟨by rw [e1.out], ?_⟩
      repeat' (refine Below.setCell ?_ (by dsimp only; omega) _)
      exact hb0
    · have e1 : Hid ((rvV ds).val (rvC ds) = VoteD.val 0 ⟨k, r, n, v⟩) := by show _ = _; rw [(HV.out.1 hok).1, (HV.out.1 hok).2]
      clear HV hok
      go_wp2
      refine bodyPost_ret (v := VoteD.val 0 ⟨k, r, n, v⟩) (by simp [results, Try.results10, go_sem, q0, q1, q2, q3, q4, VoteD.val, voteNo]) rfl ⟨by rw [e1.out], ?_⟩
      repeat' (refine Below.setCell ?_ (by dsimp only; omega) _)
      exact hb0
  · have hok := H5.out hR
    have e1 : Hid ((rvV ds).val (rvC ds) = voteNo.val 5) := by show _ = _; simp [rvC, rvV, hok]
    have q0 := hR0.cell 0 _ rfl
    have q1 := hR0.cell 1 _ rfl
    have q2 := hR0.cell 2 _ rfl
    have q3 := hR0.cell 3 _ rfl
    have q4 := hR0.cell 4 _ rfl
    have g0 := hR0.frozen 0
    have g1 := hR0.frozen 1
    have g2 := hR0.frozen 2
    have g3 := hR0.frozen 3
    have g4 := hR0.frozen 4
    have hne : ((R.length : Int) != 4) = true := by simp; omega
    have hlt := hR0.lt
    clear H4 H5 o1 hR0 hok hR
    go_wp2
    refine bodyPost_ret (v := VoteD.val 5 voteNo) (by simp [results, Try.results10, go_sem, q0, q1, q2, q3, q4, VoteD.val, voteNo]) rfl ⟨by rw [e1.out], ?_⟩
    repeat' (refine Below.setCell ?_ (by dsimp only; omega) _)
    exact hb0

end Go.Proofs.Ytpdbjjklcejimaa
