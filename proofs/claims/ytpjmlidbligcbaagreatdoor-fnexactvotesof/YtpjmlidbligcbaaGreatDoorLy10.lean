/- A vote that is laid on a board: the program's ballots, places and lay. The condition: impl.openRow starts as the program's text lays it. -/
import Derived.Test.YtpjmlidbligcbaaGreatDoorPl10
import Derived.Stop.Asserts
namespace Go.Proofs.YtpjmlidbligcbaaGreatDoor
open Go.RowKit
open Go.BigFrame
set_option linter.unusedVariables false
set_option maxRecDepth 100000
set_option linter.unusedSimpArgs false

set_option maxHeartbeats 1000000 in
theorem repVote_any (r n v : Int) (w : World) : Calls Tryz.prog 264 #[.agg #[.int .i64 r, .int .i64 n, .int .i64 v]] w fun e w' => e = .returned (.agg #[.int .i64 1, .int .i64 r, .int .i64 n, .int .i64 v]) ∧ Below w.heap.size w w' := by
  go_enter Tryz.func264, Tryz.ntmps264
  go_wp2
  exact bodyPost_ret (v := .agg #[.int .i64 1, .int .i64 r, .int .i64 n, .int .i64 v]) (by simp [results, Tryz.results264, go_sem]) rfl ⟨rfl, by go_grown⟩

set_option maxHeartbeats 1000000 in
theorem proVote_any (r n v : Int) (w : World) : Calls Tryz.prog 265 #[.agg #[.int .i64 r, .int .i64 n, .int .i64 v]] w fun e w' => e = .returned (.agg #[.int .i64 2, .int .i64 r, .int .i64 n, .int .i64 v]) ∧ Below w.heap.size w w' := by
  go_enter Tryz.func265, Tryz.ntmps265
  go_wp2
  exact bodyPost_ret (v := .agg #[.int .i64 2, .int .i64 r, .int .i64 n, .int .i64 v]) (by simp [results, Tryz.results265, go_sem]) rfl ⟨rfl, by go_grown⟩

set_option maxHeartbeats 1000000 in
theorem endVote_any (n v : Int) (w : World) : Calls Tryz.prog 266 #[.agg #[.int .i64 n, .int .i64 v]] w fun e w' => e = .returned (.agg #[.int .i64 3, .int .i64 0, .int .i64 n, .int .i64 v]) ∧ Below w.heap.size w w' := by
  go_enter Tryz.func266, Tryz.ntmps266
  go_wp2
  exact bodyPost_ret (v := .agg #[.int .i64 3, .int .i64 0, .int .i64 n, .int .i64 v]) (by simp [results, Tryz.results266, go_sem]) rfl ⟨rfl, by go_grown⟩

/-- A vote as a ballot. -/
def balV (x : VoteD) : Value := if x.kind = 1 then .iface 215 (.agg #[.int .i64 x.round, .int .i64 x.node, .int .i64 x.value]) else if x.kind = 2 then .iface 216 (.agg #[.int .i64 x.round, .int .i64 x.node, .int .i64 x.value]) else .iface 218 (.agg #[.int .i64 x.node, .int .i64 x.value])

set_option maxHeartbeats 2000000 in
theorem ballotOf_any (k r n v : Int) (w : World) : Calls Tryz.prog 172 #[.agg #[.int .i64 k, .int .i64 r, .int .i64 n, .int .i64 v]] w fun e w' => e = .returned (balV ⟨k, r, n, v⟩) ∧ Below w.heap.size w w' := by
  unfold balV
  dsimp only
  by_cases h1 : k = 1
  · subst h1
    go_enter Tryz.func172, Tryz.ntmps172
    go_wp2
    go_ret
    exact ⟨by simp, by go_grown⟩
  · by_cases h2 : k = 2
    · subst h2
      go_enter Tryz.func172, Tryz.ntmps172
      go_wp2
      go_ret
      exact ⟨by simp, by go_grown⟩
    · have e1 : (k == 1) = false := by simpa using h1
      have e2 : (k == 2) = false := by simpa using h2
      go_enter Tryz.func172, Tryz.ntmps172
      go_wp2
      go_ret
      exact ⟨by simp [h1, h2], by go_grown⟩

/-- Where a vote lies on a board. -/
def plcO (x : VoteD) : Nat := if x.kind = 1 then 1 + x.round.toNat * 6 + x.node.toNat else if x.kind = 2 then 1 + x.round.toNat * 6 + 3 + x.node.toNat else 27 + x.node.toNat

theorem ta_11 (v : Value) (u : World) : (Instr.typeAssert (.iface 215 v) 148 215 true).run Tryz.prog u = .ok (.tuple #[v, .bool true]) u := by kernel_rfl
theorem ta_21 (v : Value) (u : World) : (Instr.typeAssert (.iface 216 v) 148 215 true).run Tryz.prog u = .ok (.tuple #[.agg #[.int .i64 0, .int .i64 0, .int .i64 0], .bool false]) u := by kernel_rfl
theorem ta_22 (v : Value) (u : World) : (Instr.typeAssert (.iface 216 v) 148 216 true).run Tryz.prog u = .ok (.tuple #[v, .bool true]) u := by kernel_rfl
theorem ta_31 (v : Value) (u : World) : (Instr.typeAssert (.iface 218 v) 148 215 true).run Tryz.prog u = .ok (.tuple #[.agg #[.int .i64 0, .int .i64 0, .int .i64 0], .bool false]) u := by kernel_rfl
theorem ta_32 (v : Value) (u : World) : (Instr.typeAssert (.iface 218 v) 148 216 true).run Tryz.prog u = .ok (.tuple #[.agg #[.int .i64 0, .int .i64 0, .int .i64 0], .bool false]) u := by kernel_rfl

set_option maxHeartbeats 4000000 in
theorem placeOf_any (b : Nat) (k : Int) (r n : Nat) (v : Int) (w : World) (hk : 1 ≤ k ∧ k ≤ 3) (hr : r < 4) (hn : n < 3) :
    Calls Tryz.prog 171 #[.pointer (some ⟨b, 0, none⟩), balV ⟨k, (r : Int), (n : Int), v⟩] w fun e w' => e = .returned (.pointer (some ⟨b, plcO ⟨k, (r : Int), (n : Int), v⟩, none⟩)) ∧ Below w.heap.size w w' := by
  have hr4 : (r : Int) < 4 := by omega
  have hn3 : (n : Int) < 3 := by omega
  have hk' : k = 1 ∨ k = 2 ∨ k = 3 := by omega
  have t11 := ta_11
  have t21 := ta_21
  have t22 := ta_22
  have t31 := ta_31
  have t32 := ta_32
  unfold balV plcO
  dsimp only
  rw [Int.toNat_natCast, Int.toNat_natCast]
  rcases hk' with rfl | rfl | rfl
  · rw [if_pos rfl, if_pos rfl]
    have V := Blk.new w 215 #[.int .i64 (r : Int), .int .i64 (n : Int), .int .i64 v]
    have hb0 : Below w.heap.size w (w.alloc (.cells #[.int .i64 (r : Int), .int .i64 (n : Int), .int .i64 v] 215)) := by go_grown
    go_enter Tryz.func171, Tryz.ntmps171
    go_wp2_with fail
    generalize w.alloc (.cells #[.int .i64 (r : Int), .int .i64 (n : Int), .int .i64 v] 215) = X at *
    have v0 := V.lat 0 _ rfl
    have v1 := V.lat 1 _ rfl
    have v2 := V.lat 2 _ rfl
    have hW : Below X.heap.size X X.drew := (Below.refl _ _).drew
    have hnn : Nonempty (Lat X) := ⟨⟨X, Below.refl _ _⟩⟩
    refine text_begin (S := fun w' => ∃ u : Lat X, w' = u.val) (by kernel_rfl) ?_
    refine seg_range [(0, 12)] 0 (by kernel_rfl) (by kernel_rfl) (by kernel_rfl) (by kernel_rfl) (by kernel_rfl) ⟨⟨_, hW⟩, rfl⟩ ?_
    simp only [pickR, List.toList_toArray, List.flatMap_cons, List.flatMap_nil, List.drop_succ_cons, List.drop_zero, List.take_succ_cons, List.take_zero, List.cons_append, List.nil_append, List.append_nil]
    repeat go_big_quiet_step (fail)
    refine wpQuiet_nil ?_
    refine text_end (by kernel_rfl) ?_
    replace hb0 := hb0.trans (hW.mono hb0.size)
    go_wp2
    go_ret
    exact ⟨rfl, hb0⟩
  · rw [if_neg (by decide), if_pos rfl, if_neg (by decide), if_pos rfl]
    have V := Blk.new w 216 #[.int .i64 (r : Int), .int .i64 (n : Int), .int .i64 v]
    have hb0 : Below w.heap.size w (w.alloc (.cells #[.int .i64 (r : Int), .int .i64 (n : Int), .int .i64 v] 216)) := by go_grown
    go_enter Tryz.func171, Tryz.ntmps171
    go_wp2_with fail
    generalize w.alloc (.cells #[.int .i64 (r : Int), .int .i64 (n : Int), .int .i64 v] 216) = X at *
    have v0 := V.lat 0 _ rfl
    have v1 := V.lat 1 _ rfl
    have v2 := V.lat 2 _ rfl
    have hW : Below X.heap.size X X.drew := (Below.refl _ _).drew
    have hnn : Nonempty (Lat X) := ⟨⟨X, Below.refl _ _⟩⟩
    refine text_begin (S := fun w' => ∃ u : Lat X, w' = u.val) (by kernel_rfl) ?_
    refine seg_range [(0, 12)] 0 (by kernel_rfl) (by kernel_rfl) (by kernel_rfl) (by kernel_rfl) (by kernel_rfl) ⟨⟨_, hW⟩, rfl⟩ ?_
    simp only [pickR, List.toList_toArray, List.flatMap_cons, List.flatMap_nil, List.drop_succ_cons, List.drop_zero, List.take_succ_cons, List.take_zero, List.cons_append, List.nil_append, List.append_nil]
    repeat go_big_quiet_step (fail)
    refine wpQuiet_nil ?_
    refine text_end (by kernel_rfl) ?_
    replace hb0 := hb0.trans (hW.mono hb0.size)
    go_wp2
    go_ret
    exact ⟨rfl, hb0⟩
  · rw [if_neg (by decide), if_neg (by decide), if_neg (by decide), if_neg (by decide)]
    have hve := fun w => endVote_any (n : Int) v w
    go_enter Tryz.func171, Tryz.ntmps171
    go_wp2_with fail
    have hW : Below w.heap.size w w.drew := (Below.refl _ _).drew
    have hnn : Nonempty (Lat w) := ⟨⟨w, Below.refl _ _⟩⟩
    refine text_begin (S := fun w' => ∃ u : Lat w, w' = u.val) (by kernel_rfl) ?_
    refine seg_range [(0, 2), (4, 2)] 4 (by kernel_rfl) (by kernel_rfl) (by kernel_rfl) (by kernel_rfl) (by kernel_rfl) ⟨⟨_, hW⟩, rfl⟩ ?_
    simp only [pickR, List.toList_toArray, List.flatMap_cons, List.flatMap_nil, List.drop_succ_cons, List.drop_zero, List.take_succ_cons, List.take_zero, List.cons_append, List.nil_append, List.append_nil]
    repeat go_big_quiet_step (fail)
    refine wpQuiet_nil ?_
    refine call_at 2 (some 11) 266 #[.agg #[.int .i64 (n : Int), .int .i64 v]] 3 (by kernel_rfl) (by kernel_rfl) (by kernel_rfl) (by kernel_rfl) (by kernel_rfl) ?_
    refine (hve _).mono ?_
    rintro e w9 ⟨rfl, hb9⟩
    replace hW := hW.trans (hb9.mono hW.size)
    clear hb9
    refine ⟨_, rfl, ⟨⟨_, hW⟩, rfl⟩, ?_⟩
    simp only [Act.put, List.setIfInBounds_toArray, List.set_cons_zero, List.set_cons_succ]
    refine quiet_at 3 (some 12) (.int .i64 (n : Int)) 2 (by kernel_rfl) (by kernel_rfl) (by kernel_rfl) (by kernel_rfl) (by kernel_rfl) (fun u _ => by kernel_rfl) ⟨⟨_, hW⟩, rfl⟩ ?_
    simp only [Act.put, List.setIfInBounds_toArray, List.set_cons_zero, List.set_cons_succ]
    refine seg_range [(6, 2)] 0 (by kernel_rfl) (by kernel_rfl) (by kernel_rfl) (by kernel_rfl) (by kernel_rfl) ⟨⟨_, hW⟩, rfl⟩ ?_
    simp only [pickR, List.toList_toArray, List.flatMap_cons, List.flatMap_nil, List.drop_succ_cons, List.drop_zero, List.take_succ_cons, List.take_zero, List.cons_append, List.nil_append, List.append_nil]
    repeat go_big_quiet_step (fail)
    refine wpQuiet_nil ?_
    refine text_end (by kernel_rfl) ?_
    go_wp2
    go_ret
    exact ⟨rfl, hW⟩

theorem brd_cur {has : Bool} {vb : Value} {rs : List RoundE} {dec : List Int} (h : Wel rs) (h4 : rs.length ≤ 4) (hd : dec.length = 3) {k : Int} {r n : Nat} (v : Int) (hk : 1 ≤ k ∧ k ≤ 3) (hr : r < rs.length) (hn : n < 3) :
    (brdC has vb rs dec)[plcO ⟨k, (r : Int), (n : Int), v⟩]? = some (iv (curV rs dec ⟨k, (r : Int), (n : Int), v⟩)) ∧ (brdC has vb rs dec).set (plcO ⟨k, (r : Int), (n : Int), v⟩) (iv v) = brdC has vb (putR rs ⟨k, (r : Int), (n : Int), v⟩) (putD dec ⟨k, (r : Int), (n : Int), v⟩) ∧ plcO ⟨k, (r : Int), (n : Int), v⟩ < 30 := by
  have hk' : k = 1 ∨ k = 2 ∨ k = 3 := by omega
  unfold plcO curV putR putD
  dsimp only
  rw [Int.toNat_natCast, Int.toNat_natCast]
  rcases hk' with rfl | rfl | rfl
  · simp only [if_true]
    refine ⟨?_, ?_, by omega⟩
    · rw [brd_rnd h h4 _ (by omega)]
      exact rnd_rep h r hr n hn
    · rw [brd_set h h4 r hr n (by omega) (iv v) _ (rowC_setR (wel_at h r hr) n hn v)]
      rfl
  · simp only [if_true, if_neg (show ¬ (2 : Int) = 1 by decide)]
    refine ⟨?_, ?_, by omega⟩
    · rw [brd_rnd h h4 _ (by omega)]
      exact rnd_pro h r hr n hn
    · exact brd_setP h h4 r hr n hn v
  · simp only [if_neg (show ¬ (3 : Int) = 1 by decide), if_neg (show ¬ (3 : Int) = 2 by decide)]
    exact ⟨brd_dec h h4 hd n hn, brd_setD h h4 n v, by omega⟩

set_option maxHeartbeats 8000000 in
theorem lay_any (b : Nat) (has : Bool) (vb : Value) (rs : List RoundE) (dec : List Int) (k r n v : Int) (w : World) (hO : Opn w) (hbo : b ≠ 0) (hB : Blk w b 104 (brdC has vb rs dec).toArray) (hF : Frm rs dec) :
    Calls Tryz.prog 109 #[.pointer (some ⟨b, 0, none⟩), .agg #[.int .i64 k, .int .i64 r, .int .i64 n, .int .i64 v]] w fun e w' => e = .returned (.int .i64 (lay1 rs dec ⟨k, r, n, v⟩)) ∧ (lay1 rs dec ⟨k, r, n, v⟩ = 0 → Blk w' b 104 (brdC has vb (putR (reaR rs r.toNat) ⟨k, r, n, v⟩) (putD dec ⟨k, r, n, v⟩)).toArray) ∧ Out [b] w w' := by
  have hvf := fun w => voteFault_any k r n v w
  have hblt := hB.lt
  have hb0 : Below w.heap.size w (w.alloc (.cells #[.int .i64 k, .int .i64 r, .int .i64 n, .int .i64 v] 79)) := by go_grown
  have V := Blk.new w 79 #[.int .i64 k, .int .i64 r, .int .i64 n, .int .i64 v]
  have hvl : w.heap.size ≠ b := by omega
  by_cases hv : voteF ⟨k, r, n, v⟩ = 0
  case neg =>
    have e1 : lay1 rs dec ⟨k, r, n, v⟩ = voteF ⟨k, r, n, v⟩ := if_neg hv
    rw [e1]
    generalize voteF ⟨k, r, n, v⟩ = C at *
    have hv' : (C != 0) = true := by simpa using hv
    have p0 := V.cell 0 _ rfl
    have p1 := V.cell 1 _ rfl
    have p2 := V.cell 2 _ rfl
    have p3 := V.cell 3 _ rfl
    go_enter Tryz.func109, Tryz.ntmps109
    go_wp2_with fail
    generalize w.alloc (.cells #[.int .i64 k, .int .i64 r, .int .i64 n, .int .i64 v] 79) = W at *
    refine (hvf W).mono ?_
    rintro e w1 ⟨rfl, hb⟩
    replace hb0 := hb0.trans (hb.mono hb0.size)
    clear hb p0 p1 p2 p3
    go_wp2
    go_ret
    exact ⟨rfl, fun h => absurd h hv, Out.of_below hb0⟩
  case pos =>
    obtain ⟨h1, h2, h3, h4, h5, _⟩ := voteF_zero hv
    dsimp only at h1 h2 h3 h4 h5
    obtain ⟨rn, rfl⟩ : ∃ m : Nat, r = (m : Int) := ⟨r.toNat, by omega⟩
    obtain ⟨nn, rfl⟩ : ∃ m : Nat, n = (m : Int) := ⟨n.toNat, by omega⟩
    have hrn : rn < 4 := by omega
    have hnn3 : nn < 3 := by omega
    rw [Int.toNat_natCast]
    have hre := fun w hO hB => reach_any b 104 rs ([.bool has, vb] ++ dec.map iv) rn w hO hbo hB hF.w hF.h4 hrn
    obtain ⟨hcur, hset, hp30⟩ := brd_cur (has := has) (vb := vb) (dec := dec) (reaR_wel hF.w rn) (reaR_le rn hF.h4 hrn) hF.d v h1 (reaR_lt rs rn) hnn3
    have hbl : (brdC has vb (reaR rs rn) dec).length = 30 := brdC_length (reaR_wel hF.w rn) (reaR_le rn hF.h4 hrn) hF.d
    have hpl := fun w => placeOf_any b k rn nn v w h1 hrn hnn3
    have hbf := fun w => ballotOf_any k (rn : Int) (nn : Int) v w
    have HL1 : Hid ((curV (reaR rs rn) dec ⟨k, (rn : Int), (nn : Int), v⟩ = 3 ∨ curV (reaR rs rn) dec ⟨k, (rn : Int), (nn : Int), v⟩ = v → lay1 rs dec ⟨k, (rn : Int), (nn : Int), v⟩ = 0) ∧ (¬ (curV (reaR rs rn) dec ⟨k, (rn : Int), (nn : Int), v⟩ = 3 ∨ curV (reaR rs rn) dec ⟨k, (rn : Int), (nn : Int), v⟩ = v) → lay1 rs dec ⟨k, (rn : Int), (nn : Int), v⟩ = 6)) := by
      unfold lay1
      dsimp only
      rw [if_pos hv, Int.toNat_natCast]
      exact ⟨fun h => if_pos h, fun h => if_neg h⟩
    have hbr : brdC has vb rs dec = rndC rs ++ ([.bool has, vb] ++ dec.map iv) := rfl
    have hbr2 : brdC has vb (reaR rs rn) dec = rndC (reaR rs rn) ++ ([.bool has, vb] ++ dec.map iv) := rfl
    rw [← hbr, ← hbr2] at hre
    rw [hv] at hvf
    have HSET : Hid ((brdC has vb (reaR rs rn) dec).set (plcO ⟨k, (rn : Int), (nn : Int), v⟩) (iv v) = brdC has vb (putR (reaR rs rn) ⟨k, (rn : Int), (nn : Int), v⟩) (putD dec ⟨k, (rn : Int), (nn : Int), v⟩)) := hset
    have HCUR : Hid ((brdC has vb (reaR rs rn) dec)[plcO ⟨k, (rn : Int), (nn : Int), v⟩]? = some (iv (curV (reaR rs rn) dec ⟨k, (rn : Int), (nn : Int), v⟩))) := hcur
    clear hbr hbr2 hset hcur hv h1 h2 h3 h4 h5
    generalize lay1 rs dec ⟨k, (rn : Int), (nn : Int), v⟩ = L1 at *
    generalize curV (reaR rs rn) dec ⟨k, (rn : Int), (nn : Int), v⟩ = CU at *
    generalize balV ⟨k, (rn : Int), (nn : Int), v⟩ = BV at *
    generalize plcO ⟨k, (rn : Int), (nn : Int), v⟩ = PO at *
    generalize brdC has vb (putR (reaR rs rn) ⟨k, (rn : Int), (nn : Int), v⟩) (putD dec ⟨k, (rn : Int), (nn : Int), v⟩) = cs2 at *
    generalize brdC has vb (reaR rs rn) dec = cs1 at *
    generalize brdC has vb rs dec = cs0 at *
    have p0 := V.cell 0 _ rfl
    have p1 := V.cell 1 _ rfl
    have p2 := V.cell 2 _ rfl
    have p3 := V.cell 3 _ rfl
    go_enter Tryz.func109, Tryz.ntmps109
    go_wp2_with fail
    replace hB := hB.below hb0
    replace hO := hO.below hb0
    generalize w.alloc (.cells #[.int .i64 k, .int .i64 (rn : Int), .int .i64 (nn : Int), .int .i64 v] 79) = W at *
    refine (hvf W).mono ?_
    rintro e w1 ⟨rfl, hb⟩
    replace hB := hB.below hb
    replace hO := hO.below hb
    replace V := V.below hb
    replace hb0 := hb0.trans (hb.mono hb0.size)
    clear hb p0 p1 p2 p3 hvf
    have p1 := V.cell 1 _ rfl
    go_wp2_with fail
    clear p1
    have p1 := lato_cell (F := [b]) (V.cell 1 _ rfl) (by simp only [List.mem_singleton]; exact hvl)
    have hnn : Nonempty (LatO [b] w1) := ⟨⟨w1, Out.refl _ _⟩⟩
    have hd1 : Below w1.heap.size w1 w1.drew := (Below.refl _ _).drew
    have hW : Out [b] w1 w1.drew := Out.of_below hd1
    refine text_begin (S := fun w' => ∃ u : LatO [b] w1, w' = u.val) (by kernel_rfl) ?_
    refine seg_range [(0, 5)] 1 (by kernel_rfl) (by kernel_rfl) (by kernel_rfl) (by kernel_rfl) (by kernel_rfl) ⟨⟨_, hW⟩, rfl⟩ ?_
    simp only [pickR, List.toList_toArray, List.flatMap_cons, List.flatMap_nil, List.drop_succ_cons, List.drop_zero, List.take_succ_cons, List.take_zero, List.cons_append, List.nil_append, List.append_nil]
    repeat go_big_quiet_step (fail)
    refine wpQuiet_nil ?_
    refine call_at 5 (some 17) 88 #[.pointer (some ⟨b, 0, none⟩), .int .i64 (rn : Int)] 0 (by kernel_rfl) (by kernel_rfl) (by kernel_rfl) (by kernel_rfl) (by kernel_rfl) ?_
    refine (hre _ (hO.below hd1) (hB.below hd1)).mono ?_
    rintro e w2 ⟨rfl, hB2, hU2⟩
    replace hU2 := hW.trans hU2
    refine ⟨_, rfl, ⟨⟨_, hU2⟩, rfl⟩, ?_⟩
    simp only [Act.put, List.setIfInBounds_toArray, List.set_cons_zero, List.set_cons_succ]
    refine text_end (by kernel_rfl) ?_
    replace V := V.outs hU2 (by simp only [List.mem_singleton]; exact hvl)
    have U : Out [b] w w2 := (Out.of_below hb0).trans hU2
    clear hnn hd1 hW hU2 p1 hre hB hO hb0
    have p0 := V.cell 0 _ rfl
    have p1 := V.cell 1 _ rfl
    have p2 := V.cell 2 _ rfl
    have p3 := V.cell 3 _ rfl
    go_wp2_with fail
    refine (hbf w2).mono ?_
    rintro e w3 ⟨rfl, hb⟩
    replace hB2 := hB2.below hb
    replace V := V.below hb
    replace U := U.call hb
    clear hb p0 p1 p2 p3 hbf
    go_wp2_with fail
    refine (hpl w3).mono ?_
    rintro e w4 ⟨rfl, hb⟩
    replace hB2 := hB2.below hb
    replace V := V.below hb
    replace U := U.call hb
    clear hb hpl
    have l3 := V.lat 3 _ rfl
    have lc : ∀ u : Lat w4, u.val.cell? ⟨b, PO, none⟩ = some (.int .i64 CU) := hB2.lat PO _ (by rw [List.getElem?_toArray]; exact HCUR.out)
    have HF : Hid (∀ W : World, Below w4.heap.size w4 W → W.cell? ⟨w.heap.size, 3, none⟩ = some (.int .i64 v) ∧ W.cell? ⟨b, PO, none⟩ = some (.int .i64 CU) ∧ W.frozen? ⟨b, PO, none⟩ = false ∧ Blk (W.setCell ⟨b, PO, none⟩ (.int .i64 v)) b 104 cs2.toArray ∧ Out [b] w (W.setCell ⟨b, PO, none⟩ (.int .i64 v))) := fun W hb => by
      have hB3 := hB2.below hb
      have h1 := hB3.set PO (iv v)
      rw [List.setIfInBounds_toArray, HSET.out] at h1
      exact ⟨(V.below hb).cell 3 _ rfl, hB3.cell PO _ (by rw [List.getElem?_toArray]; exact HCUR.out), hB3.frozen PO, h1, (U.call hb).set (b := b) (j := PO) (u := iv v) (by simp)⟩
    clear HSET HCUR hB2 V hbl
    by_cases h3 : CU = 3
    · have e3 : (CU != 3) = false := by rw [h3]; rfl
      have e9 := HL1.out.1 (Or.inl h3)
      subst e9
      clear HL1 h3
      go_wp2_with fail
      have hW : Below w4.heap.size w4 w4.drew := (Below.refl _ _).drew
      have hnn : Nonempty (Lat w4) := ⟨⟨w4, Below.refl _ _⟩⟩
      refine text_begin (S := fun w' => ∃ u : Lat w4, w' = u.val) (by kernel_rfl) ?_
      refine seg_range [(0, 12)] 0 (by kernel_rfl) (by kernel_rfl) (by kernel_rfl) (by kernel_rfl) (by kernel_rfl) ⟨⟨_, hW⟩, rfl⟩ ?_
      simp only [pickR, List.toList_toArray, List.flatMap_cons, List.flatMap_nil, List.drop_succ_cons, List.drop_zero, List.take_succ_cons, List.take_zero, List.cons_append, List.nil_append, List.append_nil]
      repeat go_big_quiet_step (fail)
      refine wpQuiet_nil ?_
      refine text_end (by kernel_rfl) ?_
      obtain ⟨g1, g2, g3, g4, g5⟩ := HF.out _ hW
      have HG : Hid (_ ∧ _) := And.intro g4 g5
      clear g4 g5 HF
      go_wp2
      go_ret
      exact ⟨rfl, HG.out.1, HG.out.2⟩
    · have e3 : (CU != 3) = true := by simpa using h3
      by_cases hcv : CU = v
      · have e4 : (CU != v) = false := by rw [hcv]; simp
        have e9 := HL1.out.1 (Or.inr hcv)
        subst e9
        clear HL1 h3 hcv
        go_wp2_with fail
        have hW : Below w4.heap.size w4 w4.drew := (Below.refl _ _).drew
        have hnn : Nonempty (Lat w4) := ⟨⟨w4, Below.refl _ _⟩⟩
        refine text_begin (S := fun w' => ∃ u : Lat w4, w' = u.val) (by kernel_rfl) ?_
        refine seg_range [(0, 12)] 0 (by kernel_rfl) (by kernel_rfl) (by kernel_rfl) (by kernel_rfl) (by kernel_rfl) ⟨⟨_, hW⟩, rfl⟩ ?_
        simp only [pickR, List.toList_toArray, List.flatMap_cons, List.flatMap_nil, List.drop_succ_cons, List.drop_zero, List.take_succ_cons, List.take_zero, List.cons_append, List.nil_append, List.append_nil]
        repeat go_big_quiet_step (fail)
        refine wpQuiet_nil ?_
        refine text_end (by kernel_rfl) ?_
        obtain ⟨g1, g2, g3, g4, g5⟩ := HF.out _ hW
        have HG : Hid (_ ∧ _) := And.intro g4 g5
        clear g4 g5 HF
        go_wp2
        go_ret
        exact ⟨rfl, HG.out.1, HG.out.2⟩
      · have e4 : (CU != v) = true := by simpa using hcv
        have e9 := HL1.out.2 (fun h => h.elim h3 hcv)
        subst e9
        clear HL1 h3 hcv HF
        go_wp2_with fail
        have hW : Below w4.heap.size w4 w4.drew := (Below.refl _ _).drew
        have hnn : Nonempty (Lat w4) := ⟨⟨w4, Below.refl _ _⟩⟩
        refine text_begin (S := fun w' => ∃ u : Lat w4, w' = u.val) (by kernel_rfl) ?_
        refine seg_range [(0, 12)] 0 (by kernel_rfl) (by kernel_rfl) (by kernel_rfl) (by kernel_rfl) (by kernel_rfl) ⟨⟨_, hW⟩, rfl⟩ ?_
        simp only [pickR, List.toList_toArray, List.flatMap_cons, List.flatMap_nil, List.drop_succ_cons, List.drop_zero, List.take_succ_cons, List.take_zero, List.cons_append, List.nil_append, List.append_nil]
        repeat go_big_quiet_step (fail)
        refine wpQuiet_nil ?_
        refine text_end (by kernel_rfl) ?_
        replace U := U.call hW
        go_wp2
        go_ret
        exact ⟨rfl, fun h => absurd h (by decide), U⟩

end Go.Proofs.YtpjmlidbligcbaaGreatDoor
