/- The model's ReadTxn: it tells what the plain functions tell. -/
import Derived.Test.YtjaoggkpnjkkpaaDoorRdI
namespace Go.Proofs.YtjaoggkpnjkkpaaDoor
open Go.RowKit
open Go.BigFrame
set_option linter.unusedVariables false
set_option linter.unusedSimpArgs false

theorem trip_len : ∀ (R : List Int) (zs : List ActD), trip R = some zs → R.length = 3 * zs.length
  | [], zs, h => by simp [trip] at h; subst h; rfl
  | [_], zs, h => by simp [trip] at h
  | [_, _], zs, h => by simp [trip] at h
  | k :: y :: v :: r, zs, h => by
    simp only [trip, Option.map_eq_some_iff] at h
    obtain ⟨ys, hy, rfl⟩ := h
    have := trip_len r ys hy
    simp only [List.length_cons]; omega

theorem trip_ok : ∀ (R : List Int), R.length % 3 = 0 → ∃ zs, trip R = some zs
  | [], _ => ⟨[], rfl⟩
  | [_], h => by simp at h
  | [_, _], h => by simp at h
  | k :: y :: v :: r, h => by
    obtain ⟨zs, hz⟩ := trip_ok r (by simp only [List.length_cons] at h; omega)
    exact ⟨⟨k, y, v⟩ :: zs, by simp only [trip, hz, Option.map_some]⟩

theorem trip_get : ∀ (R : List Int) (zs : List ActD), trip R = some zs → ∀ k, k < zs.length → zs.getD k actNo = ⟨R.getD (k * 3) 0, R.getD (k * 3 + 1) 0, R.getD (k * 3 + 2) 0⟩
  | [], zs, h, k, hk => by simp [trip] at h; subst h; simp at hk
  | [_], zs, h, k, hk => by simp [trip] at h
  | [_, _], zs, h, k, hk => by simp [trip] at h
  | a :: y :: v :: r, zs, h, k, hk => by
    simp only [trip, Option.map_eq_some_iff] at h
    obtain ⟨ys, hy, rfl⟩ := h
    cases k with
    | zero => simp [List.getD]
    | succ k =>
      have := trip_get r ys hy k (by simpa using hk)
      rw [show (k + 1) * 3 = k * 3 + 1 + 1 + 1 by omega]
      simpa [List.getD] using this

theorem txnOf_short {L : List Int} (h : L.length < 6 ∨ L.length % 3 ≠ 0) : txnOf L = none := by
  rcases L with _ | ⟨i, _ | ⟨s, _ | ⟨q, r⟩⟩⟩
  · rfl
  · rfl
  · rfl
  · simp only [txnOf]
    cases ht : trip r with
    | none => rfl
    | some zs =>
      have hl := trip_len r zs ht
      simp only [List.length_cons] at h
      have hz : zs.length = 0 := by omega
      obtain rfl := List.eq_nil_of_length_eq_zero hz
      have hne : txnF i s q [] ≠ 0 := by
        unfold txnF
        split
        · decide
        · simp
      simp only [if_neg hne]

theorem Row.get {k : IntKind} {w : World} {b off : Nat} {zs : List Int} (h : Row k w (some ⟨b, off, none⟩) zs) (i : Nat) (hi : i < zs.length) : w.cell? ⟨b, off + i, none⟩ = some (.int k (zs.getD i 0)) := by
  obtain ⟨b', off', e, _, hc⟩ := h i hi
  simp only [Option.some.injEq, Addr.mk.injEq, and_true] at e
  obtain ⟨rfl, rfl⟩ := e
  exact hc

/-- What l2Read comes to. -/
def L2Post (w : World) (r : Option (Int × Int × Int × List ActD)) (e : Ending) (w' : World) : Prop :=
  match r with
  | some (i, s, q, zs) => ∃ b c, e = .returned (.tuple #[.agg #[.int .i64 i, .int .i64 s, .int .i64 q, .slice b zs.length c], .bool true]) ∧ w'.ownsRow w.heap.size 54 3 (.slice b zs.length c) zs.length (actCells zs) ∧ Below w.heap.size w w'
  | none => ∃ x0 x1 x2 b n c, e = .returned (.tuple #[.agg #[.int .i64 x0, .int .i64 x1, .int .i64 x2, .slice b n c], .bool false]) ∧ Below w.heap.size w w'

set_option maxRecDepth 100000 in
set_option maxHeartbeats 4000000 in
theorem l2Read_any (a : Option Addr) (cap : Nat) (ds : List Int) (w : World) (h : Row .u8 w a ds) (hu : ∀ i, 0 ≤ ds.getD i 0 ∧ ds.getD i 0 ≤ 255) (hl : ds.length ≤ 1048576) :
    Calls Tryd.prog 31 #[.slice a ds.length cap] w fun e w' => L2Post w (rdO ds) e w' := by
  have hb0 : Below w.heap.size w (w.alloc (.cells #[.int .i64 0, .int .i64 0, .int .i64 0, .slice none 0 0] 27)) := by go_grown
  have B0 := Blk.new w 27 #[.int .i64 0, .int .i64 0, .int .i64 0, .slice none 0 0]
  by_cases hp : packedB ds = true
  case neg =>
    have hp' : packedB ds = false := by simpa using hp
    have e1 : rdO ds = none := by
      have : readC ds = 5 := by simp only [readC, if_neg hp]
      unfold rdO
      rw [this]; rfl
    rw [e1]
    clear e1
    have q0 := B0.cell 0 _ rfl
    have q1 := B0.cell 1 _ rfl
    have q2 := B0.cell 2 _ rfl
    have q3 := B0.cell 3 _ rfl
    have f0 := B0.frozen 0
    have f1 := B0.frozen 1
    have f2 := B0.frozen 2
    have f3 := B0.frozen 3
    go_enter Tryd.func31, Tryd.ntmps31
    go_wp2_with fail
    generalize w.alloc (.cells #[.int .i64 0, .int .i64 0, .int .i64 0, .slice none 0 0] 27) = W at *
    refine (l1Read_no a cap ds _ (h.below hb0) hu hl hp').mono ?_
    rintro e w' ⟨rfl, rfl⟩
    go_wp2
    refine bodyPost_ret (v := .tuple #[.agg #[.int .i64 0, .int .i64 0, .int .i64 0, .slice none 0 0], .bool false]) (by simp [results, Tryd.results31, go_sem, q0, q1, q2, q3]) rfl ⟨0, 0, 0, none, 0, 0, rfl, ?_⟩
    exact (((hb0.setCell (p := ⟨w.heap.size, 0, none⟩) (Nat.le_refl _) _).setCell (p := ⟨w.heap.size, 1, none⟩) (Nat.le_refl _) _).setCell (p := ⟨w.heap.size, 2, none⟩) (Nat.le_refl _) _).setCell (p := ⟨w.heap.size, 3, none⟩) (Nat.le_refl _) _
  case pos =>
    obtain ⟨p1, p2, p3⟩ := packed_of hp
    have hu0 := hu 0
    have e1 : rdO ds = txnOf (readL ds (ds.getD 0 0).toNat) := by
      have e : readC ds = 0 := by simp only [readC, if_pos hp]
      have e' : readR ds = readL ds (ds.getD 0 0).toNat := by simp only [readR, if_pos hp]
      unfold rdO
      rw [e, e']; rfl
    have hL40 : (readL ds (ds.getD 0 0).toNat).length ≤ 40 := by rw [readL_length]; omega
    rw [e1]
    have hg := fun w h => l1Read_yes a cap ds w h hu hl (ds.getD 0 0).toNat (by omega) (by omega) (by omega)
    generalize readL ds (ds.getD 0 0).toNat = L at hg hL40
    clear p1 p2 p3 hu0 hp e1
    by_cases hs : L.length < 6 ∨ L.length % 3 ≠ 0
    case pos =>
      rw [txnOf_short hs]
      by_cases h6 : L.length < 6
      · have h6' : ((L.length : Int) < 6) := by omega
        go_enter Tryd.func31, Tryd.ntmps31
        go_wp2_with fail
        generalize w.alloc (.cells #[.int .i64 0, .int .i64 0, .int .i64 0, .slice none 0 0] 27) = W at *
        refine (hg _ (h.below hb0)).mono ?_
        rintro e w1 ⟨b1, c1, rfl, o1, hb⟩
        replace B0 := B0.below hb
        have q0 := B0.cell 0 _ rfl
        have f0 := B0.frozen 0
        have q1 := B0.cell 1 _ rfl
        have f1 := B0.frozen 1
        have q2 := B0.cell 2 _ rfl
        have f2 := B0.frozen 2
        have q3 := B0.cell 3 _ rfl
        have f3 := B0.frozen 3
        go_wp2
        refine bodyPost_ret (v := .tuple #[.agg #[.int .i64 0, .int .i64 0, .int .i64 0, .slice none 0 0], .bool false]) (by simp [results, Tryd.results31, go_sem, q0, q1, q2, q3]) rfl ⟨0, 0, 0, none, 0, 0, rfl, ?_⟩
        exact ((((below_from hb0 hb).setCell (p := ⟨w.heap.size, 0, none⟩) (Nat.le_refl _) _).setCell (p := ⟨w.heap.size, 1, none⟩) (Nat.le_refl _) _).setCell (p := ⟨w.heap.size, 2, none⟩) (Nat.le_refl _) _).setCell (p := ⟨w.heap.size, 3, none⟩) (Nat.le_refl _) _
      · have m1 : (((L.length : Int) % 3) != 0) = true := by simp; omega
        have m2 : ((L.length : Int).tmod 3 != 0) = true := by rw [Int.tmod_eq_emod_of_nonneg (by omega)]; exact m1
        have h6' : ¬ ((L.length : Int) < 6) := by omega
        go_enter Tryd.func31, Tryd.ntmps31
        go_wp2_with fail
        generalize w.alloc (.cells #[.int .i64 0, .int .i64 0, .int .i64 0, .slice none 0 0] 27) = W at *
        refine (hg _ (h.below hb0)).mono ?_
        rintro e w1 ⟨b1, c1, rfl, o1, hb⟩
        replace B0 := B0.below hb
        have q0 := B0.cell 0 _ rfl
        have f0 := B0.frozen 0
        have q1 := B0.cell 1 _ rfl
        have f1 := B0.frozen 1
        have q2 := B0.cell 2 _ rfl
        have f2 := B0.frozen 2
        have q3 := B0.cell 3 _ rfl
        have f3 := B0.frozen 3
        go_wp2
        refine bodyPost_ret (v := .tuple #[.agg #[.int .i64 0, .int .i64 0, .int .i64 0, .slice none 0 0], .bool false]) (by simp [results, Tryd.results31, go_sem, q0, q1, q2, q3]) rfl ⟨0, 0, 0, none, 0, 0, rfl, ?_⟩
        exact ((((below_from hb0 hb).setCell (p := ⟨w.heap.size, 0, none⟩) (Nat.le_refl _) _).setCell (p := ⟨w.heap.size, 1, none⟩) (Nat.le_refl _) _).setCell (p := ⟨w.heap.size, 2, none⟩) (Nat.le_refl _) _).setCell (p := ⟨w.heap.size, 3, none⟩) (Nat.le_refl _) _
    case neg =>
      obtain ⟨z0, z1, z2, R, rfl⟩ : ∃ z0 z1 z2 R, L = z0 :: z1 :: z2 :: R := by
        rcases L with _ | ⟨i, _ | ⟨s, _ | ⟨q, r⟩⟩⟩
        · simp at hs
        · simp at hs
        · simp at hs
        · exact ⟨i, s, q, r, rfl⟩
      obtain ⟨Z, hZ⟩ := trip_ok R (by simp only [List.length_cons] at hs; omega)
      have hZl := trip_len R Z hZ
      have hZg := trip_get R Z hZ
      have HO : Hid (txnOf (z0 :: z1 :: z2 :: R) = if txnF z0 z1 z2 Z = 0 then some (z0, z1, z2, Z) else none) := by
        show _ = _
        simp [txnOf, hZ]
      have hnL : (z0 :: z1 :: z2 :: R).length = 3 + 3 * Z.length := by simp only [List.length_cons]; omega
      have hZ1 : 1 ≤ Z.length := by simp only [List.length_cons] at hs; omega
      have m1 : ((((z0 :: z1 :: z2 :: R).length : Int) % 3) != 0) = false := by rw [hnL]; simp <;> omega
      have m2 : (((z0 :: z1 :: z2 :: R).length : Int).tmod 3 != 0) = false := by rw [Int.tmod_eq_emod_of_nonneg (by omega)]; exact m1
      have h6' : ¬ (((z0 :: z1 :: z2 :: R).length : Int) < 6) := by omega
      have g0 : (z0 :: z1 :: z2 :: R).getD 0 0 = z0 := rfl
      have g1 : (z0 :: z1 :: z2 :: R).getD 1 0 = z1 := rfl
      have g2 : (z0 :: z1 :: z2 :: R).getD 2 0 = z2 := rfl
      have HG : Hid (∀ k, k < Z.length → Z.getD k actNo = ⟨(z0 :: z1 :: z2 :: R).getD (3 + k * 3) 0, (z0 :: z1 :: z2 :: R).getD (3 + k * 3 + 1) 0, (z0 :: z1 :: z2 :: R).getD (3 + k * 3 + 2) 0⟩) := by
        intro k hk
        rw [hZg k hk]
        have e : ∀ j, (z0 :: z1 :: z2 :: R).getD (3 + j) 0 = R.getD j 0 := fun j => by
          rw [show 3 + j = j + 1 + 1 + 1 by omega]; simp [List.getD]
        rw [Nat.add_assoc, Nat.add_assoc, e, e, e]
      rw [HO.out]
      clear hZg hZ hs HO
      generalize hoo : (if txnF z0 z1 z2 Z = 0 then some (z0, z1, z2, Z) else none) = oo
      have HOO : Hid ((if txnF z0 z1 z2 Z = 0 then some (z0, z1, z2, Z) else none) = oo) := hoo
      clear hoo
      have HNL : Hid ((z0 :: z1 :: z2 :: R).length = 3 + 3 * Z.length) := hnL
      clear hnL hZl
      generalize (z0 :: z1 :: z2 :: R) = L at *
      go_enter Tryd.func31, Tryd.ntmps31
      go_wp2_with fail
      generalize w.alloc (.cells #[.int .i64 0, .int .i64 0, .int .i64 0, .slice none 0 0] 27) = W at *
      refine (hg _ (h.below hb0)).mono ?_
      rintro e w1 ⟨b1, c1, rfl, o1, hb⟩
      replace B0 := B0.below hb
      replace hb0 := below_from hb0 hb
      clear hb hg
      have hR := Row.own o1
      obtain ⟨b, off, rfl, hbs, hc0⟩ := hR 0 (by omega)
      have hc1 := hR.get 1 (by omega)
      have hc2 := hR.get 2 (by omega)
      rw [g0, Nat.add_zero] at hc0
      rw [g1] at hc1
      rw [g2] at hc2
      have k0 := lat_cell hc0
      have k1 := lat_cell hc1
      have k2 := lat_cell hc2
      clear hc0 hc1 hc2 g0 g1 g2
      have hW : Below w1.heap.size w1 w1.drew := (Below.refl _ _).drew
      have hne : Nonempty (Lat w1) := ⟨⟨w1, Below.refl _ _⟩⟩
      go_wp2_with fail
      refine text_begin (S := fun w' => ∃ u : Lat w1, w' = u.val) (by kernel_rfl) ?_
      refine seg_range [(0, 10)] 2 (by kernel_rfl) (by kernel_rfl) (by kernel_rfl) (by kernel_rfl) (by kernel_rfl) ⟨⟨_, hW⟩, rfl⟩ ?_
      simp only [pickR, List.toList_toArray, List.flatMap_cons, List.flatMap_nil, List.drop_succ_cons, List.drop_zero, List.take_succ_cons, List.take_zero, List.cons_append, List.nil_append, List.append_nil]
      repeat go_big_quiet_step (fail)
      refine wpQuiet_nil ?_
      clear k0 k1 k2
      refine one_at 10 _ 1 (by kernel_rfl) rfl (by kernel_rfl) ?_
      go_wp2
      have hW1 : Below w1.heap.size w1 (w1.alloc (.cells #[.int .i64 0, .int .i64 0, .int .i64 0, .slice none 0 0] 27)).drew := ((Below.refl _ _).alloc (Nat.le_refl _) _).drew
      refine ThenGo.to ⟨⟨⟨_, hW1⟩, rfl⟩, ?_⟩
      refine one_at 11 _ 0 (by kernel_rfl) rfl (by kernel_rfl) ?_
      go_wp2
      have hW2 : Below w1.heap.size w1 (w1.alloc (.cells #[.int .i64 z0, .int .i64 z1, .int .i64 z2, .slice none 0 0] 27)).drew := ((Below.refl _ _).alloc (Nat.le_refl _) _).drew
      refine ThenGo.to ⟨⟨⟨_, hW2⟩, rfl⟩, ?_⟩
      refine text_end (by kernel_rfl) ?_
      have Bt : Blk (w1.alloc (.cells #[.int .i64 z0, .int .i64 z1, .int .i64 z2, .slice none 0 0] 27)).drew w1.heap.size 27 #[.int .i64 z0, .int .i64 z1, .int .i64 z2, .slice none 0 0] := Blk.new w1 _ _
      generalize (w1.alloc (.cells #[.int .i64 z0, .int .i64 z1, .int .i64 z2, .slice none 0 0] 27)).drew = w2 at hW2 Bt
      clear hW hW1 hne m1 m2 o1
      have hlt := B0.lt
      have htl := Bt.lt
      go_wp2
      generalize htb : w1.heap.size = tb at hW2 Bt hlt htl hbs
      go_loopw [7] (fun j wr => ∃ (k n : Nat) (a1 : Option Addr) (c2 : Nat), k ≤ Z.length ∧ j = .int .i64 (n : Int) ∧ Hid (n = 3 + k * 3) ∧ Blk wr tb 27 #[.int .i64 z0, .int .i64 z1, .int .i64 z2, .slice a1 (Z.take k).length c2] ∧
        wr.ownsRow w2.heap.size 54 3 (.slice a1 (Z.take k).length c2) (Z.take k).length (actCells (Z.take k)) ∧ Below tb w1 wr ∧ w2.heap.size ≤ wr.heap.size) (fun j _ => L.length - (intOf j).toNat)
      case atStart => exact ⟨0, 3, none, 0, Nat.zero_le _, rfl, rfl, Bt, World.ownsRow_nil _ _ _ _, hW2, Nat.le_refl _⟩
      case round =>
        obtain ⟨k, n, a1, c2, hk, rfl, HN, Bt', ho, hb, hsz⟩ := hrel
        have hzl : (Z.take k).length ≤ 40 := by have := HNL.out; simp; omega
        generalize hzk : Z.take k = zk at Bt' ho hzl
        have HZK : Hid (Z.take k = zk) := hzk
        clear hzk
        by_cases hlt2 : n < L.length
        · have hkZ : k < Z.length := by have := HN.out; have := HNL.out; omega
          have hn2 : n + 2 < L.length := by have := HN.out; have := HNL.out; omega
          have d0 : wr.cell? ⟨b, off + n, none⟩ = _ := (hb.cell (p := ⟨b, off + n, none⟩) hbs).trans (hR.get n (by omega))
          have d1 : wr.cell? ⟨b, off + (n + 1), none⟩ = _ := (hb.cell (p := ⟨b, off + (n + 1), none⟩) hbs).trans (hR.get (n + 1) (by omega))
          have d2 : wr.cell? ⟨b, off + (n + 2), none⟩ = _ := (hb.cell (p := ⟨b, off + (n + 2), none⟩) hbs).trans (hR.get (n + 2) (by omega))
          have HZ : Hid (Z.getD k actNo = ⟨L.getD n 0, L.getD (n + 1) 0, L.getD (n + 2) 0⟩) := by
            have := HG.out k hkZ
            rw [← HN.out] at this
            exact this
          generalize L.getD n 0 = k0 at d0 HZ
          generalize L.getD (n + 1) 0 = k1 at d1 HZ
          generalize L.getD (n + 2) 0 = k2 at d2 HZ
          have t3 : wr.cell? ⟨tb, 3, none⟩ = some (.slice a1 zk.length c2) := Bt'.cell 3 _ rfl
          generalize hP : (fun u : World => u.cell? ⟨tb, 3, none⟩ = some (.slice a1 zk.length c2) ∧ u.cell? ⟨b, off + n, none⟩ = some (.int .i64 k0) ∧ u.cell? ⟨b, off + (n + 1), none⟩ = some (.int .i64 k1) ∧ u.cell? ⟨b, off + (n + 2), none⟩ = some (.int .i64 k2)) = PP
          have hP0 : PP wr := by subst hP; exact ⟨t3, d0, d1, d2⟩
          have c0 : ∀ u : KeepP PP, u.val.cell? ⟨tb, 3, none⟩ = some (.slice a1 zk.length c2) := fun u => by have := u.isP; subst hP; exact this.1
          have c1' : ∀ u : KeepP PP, u.val.cell? ⟨b, off + n, none⟩ = some (.int .i64 k0) := fun u => by have := u.isP; subst hP; exact this.2.1
          have c2' : ∀ u : KeepP PP, u.val.cell? ⟨b, off + (n + 1), none⟩ = some (.int .i64 k1) := fun u => by have := u.isP; subst hP; exact this.2.2.1
          have c3' : ∀ u : KeepP PP, u.val.cell? ⟨b, off + (n + 2), none⟩ = some (.int .i64 k2) := fun u => by have := u.isP; subst hP; exact this.2.2.2
          have hne : Nonempty (KeepP PP) := ⟨⟨wr, hP0⟩⟩
          go_wp2_with fail
          refine beginX (S := fun w' => ∃ u : KeepP PP, w' = u.val) (R := fun _ _ => False) 20 (by kernel_rfl) (fun _ _ _ _ h => h.elim) ?_
          have hPd : PP wr.drew := by subst hP; exact hP0
          refine segX [(0, 17)] 4 (by kernel_rfl) (by kernel_rfl) (by kernel_rfl) (by kernel_rfl) (by kernel_rfl) ⟨⟨wr.drew, hPd⟩, rfl⟩ ?_
          simp only [pickR, List.toList_toArray, List.flatMap_cons, List.flatMap_nil, List.drop_succ_cons, List.drop_zero, List.take_succ_cons, List.take_zero, List.cons_append, List.nil_append, List.append_nil]
          repeat go_big_quiet_step (fail)
          refine wpQuiet_nil ?_
          clear c0 c1' c2' c3' hne hP0
          have Bd : Blk wr.drew tb 27 #[.int .i64 z0, .int .i64 z1, .int .i64 z2, .slice a1 zk.length c2] := Bt'
          have hod := ho.drew
          have hbd : Below tb w1 wr.drew := hb.drew
          have hszd : w2.heap.size ≤ wr.drew.heap.size := hsz
          have e0 : wr.drew.cell? ⟨b, off + n, none⟩ = some (.int .i64 k0) := d0
          have e1 : wr.drew.cell? ⟨b, off + (n + 1), none⟩ = some (.int .i64 k1) := d1
          have e2 : wr.drew.cell? ⟨b, off + (n + 2), none⟩ = some (.int .i64 k2) := d2
          clear hPd d0 d1 d2 t3 Bt' ho hb hsz
          generalize wr.drew = wd at *
          have keepP : ∀ (u : World), Below tb w1 u → Blk u tb 27 #[.int .i64 z0, .int .i64 z1, .int .i64 z2, .slice a1 zk.length c2] → PP u := by
            intro u hu1 hu2
            subst hP
            exact ⟨hu2.cell 3 _ rfl, (hu1.cell (p := ⟨b, off + n, none⟩) hbs).trans ((hbd.cell (p := ⟨b, off + n, none⟩) hbs).symm.trans e0), (hu1.cell (p := ⟨b, off + (n + 1), none⟩) hbs).trans ((hbd.cell (p := ⟨b, off + (n + 1), none⟩) hbs).symm.trans e1), (hu1.cell (p := ⟨b, off + (n + 2), none⟩) hbs).trans ((hbd.cell (p := ⟨b, off + (n + 2), none⟩) hbs).symm.trans e2)⟩
          clear e0 e1 e2 hP
          refine oneX 17 _ 3 (by kernel_rfl) rfl (by kernel_rfl) ?_
          have hbA : Below wd.heap.size wd (wd.alloc (.cells #[.int .i64 k0, .int .i64 k1, .int .i64 k2] 54)) := by go_grown
          go_wp2
          have BdA := Bd.below hbA
          have hbdA : Below tb w1 (wd.alloc (.cells #[.int .i64 k0, .int .i64 k1, .int .i64 k2] 54)) := hbd.trans (hbA.mono (by omega))
          refine ThenX.to ⟨Or.inr ⟨⟨_, keepP _ hbdA BdA⟩, rfl⟩, ?_⟩
          have hsA : w2.heap.size ≤ (wd.alloc (.cells #[.int .i64 k0, .int .i64 k1, .int .i64 k2] 54)).heap.size := by simp; omega
          have hsrc : ∀ j u, [Value.int .i64 k0, .int .i64 k1, .int .i64 k2][j]? = some u → (wd.alloc (.cells #[.int .i64 k0, .int .i64 k1, .int .i64 k2] 54)).cell? ((⟨wd.heap.size, 0, none⟩ : Addr).add j) = some u := by
            intro j u hj
            match j, hj with
            | 0, hj => simp at hj; subst hj; simp [Addr.add]
            | 1, hj => simp at hj; subst hj; simp [Addr.add]
            | 2, hj => simp at hj; subst hj; simp [Addr.add]
          have hoA := own_below hod hbA
          clear Bd hbd hod
          generalize wd.alloc (.cells #[.int .i64 k0, .int .i64 k1, .int .i64 k2] 54) = wb at hbA BdA hbdA hsA hsrc hoA
          obtain ⟨i0, hi, hz0, hz1, hz2⟩ := info_parts infoActs0
          refine oneX 18 _ 2 (by kernel_rfl) rfl (by kernel_rfl) ?_
          refine wpList_append_own _ rfl _ _ 25 rfl w2.heap.size 54 i0 (.agg #[.int .i64 0, .int .i64 0, .int .i64 0]) 3 24 Tryd.underlying25 hi hz0 hz1 hz2 rfl (by decide) _ zk.length (actCells zk) rfl hoA ⟨wd.heap.size, 0, none⟩ 1 1 [.int .i64 k0, .int .i64 k1, .int .i64 k2] rfl rfl hsrc ?c2 ?c3 ?c4 ?c5 ?_
          case c2 => intro u hu; simp at hu; rcases hu with rfl | rfl | rfl <;> rfl
          case c3 => unfold maxLen; omega
          case c4 => omega
          case c5 => exact hsA
          intro v' wc hown hgrow _
          obtain ⟨a2, c3, rfl⟩ := own_shape hown
          have hgo : ∀ j, (Value.slice a1 zk.length c2).ownBlock = some j → w2.heap.size ≤ j := fun j hj => (hoA.lt j hj).1
          have hBc : Below w2.heap.size wb wc := (Below.refl _ _).grown hgrow hsA hgo
          have hsc : w2.heap.size ≤ wc.heap.size := Nat.le_trans hsA hBc.size
          have Btc : Blk wc tb 27 #[.int .i64 z0, .int .i64 z1, .int .i64 z2, .slice a1 zk.length c2] := (hBc.block _ (by omega)).trans BdA
          have hbc : Below tb w1 wc := hbdA.trans (hBc.mono (by omega))
          clear hgrow hgo hBc hoA BdA hbdA hbA hsrc
          go_wp2
          refine ThenX.to ⟨Or.inr ⟨⟨_, keepP _ hbc Btc⟩, rfl⟩, ?_⟩
          simp only [Act.put, List.getElem_toArray, List.getElem_cons_succ, List.getElem_cons_zero, List.setIfInBounds_toArray, List.set_cons_zero, List.set_cons_succ]
          refine oneX 19 _ 1 (by kernel_rfl) rfl (by kernel_rfl) ?_
          go_wp2
          refine ThenX.to ⟨Or.inr ⟨⟨_, keepP _ hbc Btc⟩, rfl⟩, ?_⟩
          refine oneX 20 _ 0 (by kernel_rfl) rfl (by kernel_rfl) ?_
          have t3 := Btc.cell 3 _ rfl
          have t4 := Btc.frozen 3
          go_wp2
          clear t3 t4 keepP
          refine ThenX.to ⟨Or.inl (by kernel_rfl), ?_⟩
          refine endX (by kernel_rfl) ?_
          have Bt9 : Blk (wc.setCell ⟨tb, 3, none⟩ (.slice a2 (zk.length + 1) c3)) tb 27 #[.int .i64 z0, .int .i64 z1, .int .i64 z2, .slice a2 (zk.length + 1) c3] := by
            have := Go.Joins.block_setCell (i := 3) (v := .slice a2 (zk.length + 1) c3) Btc
            unfold Blk
            simpa using this
          have ho9 := ownsRow_setCell_below (a := ⟨tb, 3, none⟩) hown (by dsimp only; omega) (.slice a2 (zk.length + 1) c3)
          have hb9 := hbc.setCell (p := ⟨tb, 3, none⟩) (Nat.le_refl _) (.slice a2 (zk.length + 1) c3)
          have hs9 : w2.heap.size ≤ (wc.setCell ⟨tb, 3, none⟩ (.slice a2 (zk.length + 1) c3)).heap.size := by simpa [World.setCell] using hsc
          have HT9 : Hid (Z.take (k + 1) = zk ++ [⟨k0, k1, k2⟩]) := by
            have e : Z.getD k actNo = Z[k] := by simp [List.getD, hkZ]
            show _ = _
            rw [List.take_succ_eq_append_getElem hkZ, ← e, HZ.out, HZK.out]
          have HO : Hid (_ ∧ _) := ⟨ho9, hb9⟩
          clear ho9 hb9 hown hbc Btc
          go_wp2
          go_roundw
          case rel =>
            refine ⟨k + 1, n + 3, a2, c3, by omega, by go_num, show _ = _ by have := HN.out; omega, ?_, ?_, HO.out.2, hs9⟩
            · rw [HT9.out]; simpa using Bt9
            · rw [HT9.out]; simpa [actCells, ActD.cells] using HO.out.1
          case measure => simp [intOf]; omega
        · have hkk : k = Z.length := by have := HN.out; have := HNL.out; omega
          have hzz : zk = Z := by rw [← HZK.out, hkk, List.take_length]
          subst hzz
          replace B0 : Blk wr w.heap.size 27 #[.int .i64 0, .int .i64 0, .int .i64 0, .slice none 0 0] := (hb.block _ hlt).trans B0
          replace hb0 : Below w.heap.size w wr := hb0.trans (hb.mono (by omega))
          have hq : ∀ u, Blk u tb 27 #[.int .i64 z0, .int .i64 z1, .int .i64 z2, .slice a1 zk.length c2] → ActRow u a1 zk → Calls Tryd.prog 38 #[.pointer (some ⟨tb, 0, none⟩)] u fun e w' => e = .returned (.int .i64 (txnF z0 z1 z2 zk)) ∧ w' = u := fun u hB hA =>
            l2Fault_any tb 0 z0 z1 z2 a1 c2 zk u ⟨hB.cell 0 _ rfl, by simpa using hB.cell 1 _ rfl, by simpa using hB.cell 2 _ rfl, by simpa using hB.cell 3 _ rfl⟩ hA (by omega)
          generalize hrF : txnF z0 z1 z2 zk = rf at hq
          have HRF : Hid (txnF z0 z1 z2 zk = rf) := hrF
          clear hrF
          have k0 : ∀ u : KeepP (fun u => Blk u tb 27 #[.int .i64 z0, .int .i64 z1, .int .i64 z2, .slice a1 zk.length c2]), u.val.cell? ⟨tb, 0, none⟩ = some (.int .i64 z0) := fun u => u.isP.cell 0 _ rfl
          have k1 : ∀ u : KeepP (fun u => Blk u tb 27 #[.int .i64 z0, .int .i64 z1, .int .i64 z2, .slice a1 zk.length c2]), u.val.cell? ⟨tb, 1, none⟩ = some (.int .i64 z1) := fun u => u.isP.cell 1 _ rfl
          have k2 : ∀ u : KeepP (fun u => Blk u tb 27 #[.int .i64 z0, .int .i64 z1, .int .i64 z2, .slice a1 zk.length c2]), u.val.cell? ⟨tb, 2, none⟩ = some (.int .i64 z2) := fun u => u.isP.cell 2 _ rfl
          have k3 : ∀ u : KeepP (fun u => Blk u tb 27 #[.int .i64 z0, .int .i64 z1, .int .i64 z2, .slice a1 zk.length c2]), u.val.cell? ⟨tb, 3, none⟩ = some (.slice a1 zk.length c2) := fun u => u.isP.cell 3 _ rfl
          have hne : Nonempty (KeepP (fun u => Blk u tb 27 #[.int .i64 z0, .int .i64 z1, .int .i64 z2, .slice a1 zk.length c2])) := ⟨⟨wr, Bt'⟩⟩
          go_wp2_with fail
          refine text_begin (S := fun w' => ∃ u : KeepP (fun u => Blk u tb 27 #[.int .i64 z0, .int .i64 z1, .int .i64 z2, .slice a1 zk.length c2]), w' = u.val) (by kernel_rfl) ?_
          have Bd : Blk wr.drew tb 27 #[.int .i64 z0, .int .i64 z1, .int .i64 z2, .slice a1 zk.length c2] := Bt'
          replace B0 : Blk wr.drew w.heap.size 27 #[.int .i64 0, .int .i64 0, .int .i64 0, .slice none 0 0] := B0
          replace ho := ho.drew
          replace hb0 := hb0.drew
          have hszd : w2.heap.size ≤ wr.drew.heap.size := hsz
          clear Bt' hb hsz
          generalize wr.drew = wd at Bd B0 ho hb0 hszd
          refine seg_range [(0, 1)] 4 (by kernel_rfl) (by kernel_rfl) (by kernel_rfl) (by kernel_rfl) (by kernel_rfl) ⟨⟨wd, Bd⟩, rfl⟩ ?_
          simp only [pickR, List.toList_toArray, List.flatMap_cons, List.flatMap_nil, List.drop_succ_cons, List.drop_zero, List.take_succ_cons, List.take_zero, List.cons_append, List.nil_append, List.append_nil]
          repeat go_big_quiet_step (fail)
          refine wpQuiet_nil ?_
          refine call_at 1 (some 64) 38 #[.pointer (some ⟨tb, 0, none⟩)] 3 (by kernel_rfl) (by kernel_rfl) (by kernel_rfl) (by kernel_rfl) (by kernel_rfl) ?_
          refine (hq _ Bd (Lies.own ho)).mono ?_
          rintro e wv ⟨rfl, hw⟩
          rw [hw]
          clear hw wv
          refine ⟨_, rfl, ⟨⟨_, Bd⟩, rfl⟩, ?_⟩
          simp only [Act.put, List.getElem_toArray, List.getElem_cons_succ, List.getElem_cons_zero, List.setIfInBounds_toArray, List.set_cons_zero, List.set_cons_succ]
          refine seg_range [(2, 1)] 2 (by kernel_rfl) (by kernel_rfl) (by kernel_rfl) (by kernel_rfl) (by kernel_rfl) ⟨⟨_, Bd⟩, rfl⟩ ?_
          simp only [pickR, List.toList_toArray, List.flatMap_cons, List.flatMap_nil, List.drop_succ_cons, List.drop_zero, List.take_succ_cons, List.take_zero, List.cons_append, List.nil_append, List.append_nil]
          repeat go_big_quiet_step (fail)
          refine wpQuiet_nil ?_
          clear k0 k1 k2 k3 hne hq
          refine one_at 3 _ 1 (by kernel_rfl) rfl (by kernel_rfl) ?_
          have hrt : tb ≠ w.heap.size := by omega
          have q0 := B0.cell 0 _ rfl
          have f0 := B0.frozen 0
          have q1 := B0.cell 1 _ rfl
          have f1 := B0.frozen 1
          have q2 := B0.cell 2 _ rfl
          have f2 := B0.frozen 2
          have q3 := B0.cell 3 _ rfl
          have f3 := B0.frozen 3
          go_wp2
          have Bs := (((Bd.setOther (q := w.heap.size) (o := 0) (y := .int .i64 z0) hrt).setOther (q := w.heap.size) (o := 1) (y := .int .i64 z1) hrt).setOther (q := w.heap.size) (o := 2) (y := .int .i64 z2) hrt).setOther (q := w.heap.size) (o := 3) (y := .slice a1 zk.length c2) hrt
          refine ThenGo.to ⟨⟨⟨_, Bs⟩, rfl⟩, ?_⟩
          refine one_at 4 _ 0 (by kernel_rfl) rfl (by kernel_rfl) ?_
          go_wp2
          refine ThenGo.to ⟨⟨⟨_, Bs⟩, rfl⟩, ?_⟩
          refine text_end (by kernel_rfl) ?_
          go_wp2
          refine bodyPost_ret (v := .tuple #[.agg #[.int .i64 z0, .int .i64 z1, .int .i64 z2, .slice a1 zk.length c2], .bool (rf == 0)]) (by simp [results, Tryd.results31, go_sem, q0, q1, q2, q3]) rfl ?_
          have hbS : Below w.heap.size w ((((wd.setCell ⟨w.heap.size, 0, none⟩ (.int .i64 z0)).setCell ⟨w.heap.size, 1, none⟩ (.int .i64 z1)).setCell ⟨w.heap.size, 2, none⟩ (.int .i64 z2)).setCell ⟨w.heap.size, 3, none⟩ (.slice a1 zk.length c2)) := (((hb0.setCell (p := ⟨w.heap.size, 0, none⟩) (Nat.le_refl _) _).setCell (p := ⟨w.heap.size, 1, none⟩) (Nat.le_refl _) _).setCell (p := ⟨w.heap.size, 2, none⟩) (Nat.le_refl _) _).setCell (p := ⟨w.heap.size, 3, none⟩) (Nat.le_refl _) _
          rw [← HOO.out, HRF.out]
          by_cases hrf : rf = 0
          · subst hrf
            refine ⟨a1, c2, rfl, ?_, hbS⟩
            refine own_base (base := w2.heap.size) ?_ (by omega)
            repeat' (refine ownsRow_setCell_below ?_ (by dsimp only; omega) _)
            exact ho
          · rw [if_neg hrf]
            have : (rf == 0) = false := by simpa using hrf
            rw [this]
            exact ⟨_, _, _, _, _, _, rfl, hbS⟩

end Go.Proofs.YtjaoggkpnjkkpaaDoor
