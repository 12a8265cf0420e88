/- ReadTxn of the model: told by the same words as the program's. -/
import Derived.Test.YtjaoggkpnjkkpaaDoorRdS
namespace Go.Proofs.YtjaoggkpnjkkpaaDoor
open Go.RowKit
set_option linter.unusedVariables false
set_option linter.unusedSimpArgs false

theorem txnOf_le {L : List Int} (h : L.length ≤ 40) {z : Int × Int × Int × List ActD} (hx : txnOf L = some z) : z.2.2.2.length ≤ 40 := by
  rcases L with _ | ⟨i, _ | ⟨s, _ | ⟨q, r⟩⟩⟩
  · cases hx
  · cases hx
  · cases hx
  · simp only [txnOf] at hx
    cases ht : trip r with
    | none => rw [ht] at hx; cases hx
    | some zs =>
      rw [ht] at hx
      have hlen := trip_len _ _ ht
      simp only [List.length_cons] at h
      simp only at hx
      split at hx
      · cases hx; simp only; omega
      · cases hx

theorem rdT_le (ds : List Int) : (rdT ds).2.2.2.length ≤ 40 := by
  unfold rdT rdO
  by_cases hp : packedB ds = true
  · obtain ⟨p1, p2, p3⟩ := packed_of hp
    have e : readC ds = 0 := by simp only [readC, if_pos hp]
    have e' : readR ds = readL ds (ds.getD 0 0).toNat := by simp only [readR, if_pos hp]
    rw [e, e']
    have hL40 : (readL ds (ds.getD 0 0).toNat).length ≤ 40 := by rw [readL_length]; omega
    generalize readL ds (ds.getD 0 0).toNat = L at hL40
    simp only [if_true]
    cases hx : txnOf L with
    | none => simp
    | some z => exact txnOf_le hL40 hx
  · have e : readC ds = 5 := by simp only [readC, if_neg hp]
    rw [e]
    simp

set_option maxRecDepth 100000 in
set_option maxHeartbeats 2000000 in
theorem specReadTxn_any (a : Option Addr) (cap : Nat) (ds : List Int) (w : World) (h : Row .u8 w a ds) (hu : ∀ i, 0 ≤ ds.getD i 0 ∧ ds.getD i 0 ≤ 255) (hl : ds.length ≤ 1048576) :
    Calls Tryd.prog 12 #[.slice a ds.length cap] w fun e w' => ∃ b c, e = .returned (.agg #[.int .i64 (rdC ds), .int .i64 (rdT ds).1, .int .i64 (rdT ds).2.1, .int .i64 (rdT ds).2.2.1, .slice b (rdT ds).2.2.2.length c]) ∧
      w'.ownsRow w.heap.size 54 3 (.slice b (rdT ds).2.2.2.length c) (rdT ds).2.2.2.length (actCells (rdT ds).2.2.2) ∧ Below w.heap.size w w' := by
  have hm := fun w h => l2Read_any a cap ds w h hu hl
  have hb0 : Below w.heap.size w (w.alloc (.cells #[.int .i64 0, .int .i64 0, .int .i64 0, .int .i64 0, .slice none 0 0] 29)) := by go_grown
  have B0 := Blk.new w 29 #[.int .i64 0, .int .i64 0, .int .i64 0, .int .i64 0, .slice none 0 0]
  unfold rdC rdT
  generalize rdO ds = o at hm
  go_enter Tryd.func12, Tryd.ntmps12
  go_wp2_with fail
  generalize w.alloc (.cells #[.int .i64 0, .int .i64 0, .int .i64 0, .int .i64 0, .slice none 0 0] 29) = W at B0 hb0
  have hlt := B0.lt
  refine (hm _ (h.below hb0)).mono ?_
  rintro e w2 hp
  rcases o with _ | ⟨z0, z1, z2, zs⟩
  · obtain ⟨x0, x1, x2, b, n, c, rfl, hb⟩ := hp
    have hb1 : Below w2.heap.size w2 (w2.alloc (.cells #[.int .i64 x0, .int .i64 x1, .int .i64 x2, .slice b n c] 27)) := by go_grown
    replace B0 := (B0.below hb).below hb1
    have hb9 := below_from hb0 (hb.trans (hb1.mono hb.size))
    have B9 := blk5 (c := .int .i64 5) (i := .int .i64 0) (s := .int .i64 0) (q := .int .i64 0) (v := .slice none 0 0) B0
    have p0 := B0.cell 0 _ rfl
    have p1 := B0.cell 1 _ rfl
    have p2 := B0.cell 2 _ rfl
    have p3 := B0.cell 3 _ rfl
    have p4 := B0.cell 4 _ rfl
    have f0 := B0.frozen 0
    have f1 := B0.frozen 1
    have f2 := B0.frozen 2
    have f3 := B0.frozen 3
    have f4 := B0.frozen 4
    go_simp
    repeat go_step
    have q0 := B9.cell 0 _ rfl
    have q1 := B9.cell 1 _ rfl
    have q2 := B9.cell 2 _ rfl
    have q3 := B9.cell 3 _ rfl
    have q4 := B9.cell 4 _ rfl
    simp only [List.getElem_toArray, List.getElem_cons_zero, List.getElem_cons_succ] at q0 q1 q2 q3 q4
    unfold set5 at q0 q1 q2 q3 q4
    refine bodyPost_ret (v := .agg #[.int .i64 5, .int .i64 0, .int .i64 0, .int .i64 0, .slice none 0 0]) (by simp [results, Tryd.results12, go_sem, q0, q1, q2, q3, q4]) rfl ⟨none, 0, rfl, World.ownsRow_nil _ _ _ _, below5 hb9 (Nat.le_refl _)⟩
  · obtain ⟨b, c, rfl, ho, hb⟩ := hp
    have hb1 : Below w2.heap.size w2 (w2.alloc (.cells #[.int .i64 z0, .int .i64 z1, .int .i64 z2, .slice b zs.length c] 27)) := by go_grown
    have B1 := Blk.new w2 27 #[.int .i64 z0, .int .i64 z1, .int .i64 z2, .slice b zs.length c]
    replace B0 := (B0.below hb).below hb1
    have hb9 := below_from hb0 (hb.trans (hb1.mono hb.size))
    have ho9 := own5 (c := .int .i64 0) (i := .int .i64 z0) (s := .int .i64 z1) (q := .int .i64 z2) (v := .slice b zs.length c) (own_below ho hb1) hlt
    have B9 := blk5 (c := .int .i64 0) (i := .int .i64 z0) (s := .int .i64 z1) (q := .int .i64 z2) (v := .slice b zs.length c) B0
    have p0 := B0.cell 0 _ rfl
    have p1 := B0.cell 1 _ rfl
    have p2 := B0.cell 2 _ rfl
    have p3 := B0.cell 3 _ rfl
    have p4 := B0.cell 4 _ rfl
    have f0 := B0.frozen 0
    have f1 := B0.frozen 1
    have f2 := B0.frozen 2
    have f3 := B0.frozen 3
    have f4 := B0.frozen 4
    go_simp
    repeat go_step
    have q0 := B9.cell 0 _ rfl
    have q1 := B9.cell 1 _ rfl
    have q2 := B9.cell 2 _ rfl
    have q3 := B9.cell 3 _ rfl
    have q4 := B9.cell 4 _ rfl
    simp only [List.getElem_toArray, List.getElem_cons_zero, List.getElem_cons_succ] at q0 q1 q2 q3 q4
    unfold set5 at q0 q1 q2 q3 q4
    refine bodyPost_ret (v := .agg #[.int .i64 0, .int .i64 z0, .int .i64 z1, .int .i64 z2, .slice b zs.length c]) (by simp [results, Tryd.results12, go_sem, q0, q1, q2, q3, q4]) rfl ⟨b, c, rfl, own_base ho9 (by omega), below5 hb9 (Nat.le_refl _)⟩

end Go.Proofs.YtjaoggkpnjkkpaaDoor
