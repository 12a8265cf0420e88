/- The bytes that the law of transactions draws; plain facts of packing and reading. No condition. -/
import Derived.Test.YtjaoggkpnjkkpaaDoorDraw2g
import Derived.Test.YtjaoggkpnjkkpaaDoorNumPure
import Derived.Test.YtjaoggkpnjkkpaaDoorRdT
import Derived.Test.YtjaoggkpnjkkpaaDoorTxnFind
import Derived.Test.YtjaoggkpnjkkpaaDoorTxnSame
namespace Go.Proofs.YtjaoggkpnjkkpaaDoor
open Go.RowKit
set_option linter.unusedVariables false
set_option linter.unusedSimpArgs false

theorem trip_nums : ∀ (R : List Int) (zs : List ActD), trip R = some zs → R = zs.flatMap actNums
  | [], zs, h => by simp [trip] at h; subst h; rfl
  | [x], zs, h => by simp [trip] at h
  | [x, y], zs, h => by simp [trip] at h
  | k :: y :: v :: r, zs, h => by
    simp only [trip] at h
    cases ht : trip r with
    | none => rw [ht] at h; simp at h
    | some ys =>
      rw [ht] at h
      simp only [Option.map_some, Option.some.injEq] at h
      subst h
      have := trip_nums r ys ht
      rw [this]
      simp [actNums]

theorem trip_of : ∀ zs : List ActD, trip (zs.flatMap actNums) = some zs
  | [] => rfl
  | z :: r => by
    have := trip_of r
    simp only [List.flatMap_cons, actNums, List.cons_append, List.nil_append, trip] at this ⊢
    rw [this]
    rfl

theorem txnOf_nums {L : List Int} {i s q : Int} {zs : List ActD} (h : txnOf L = some (i, s, q, zs)) : L = numsL i s q zs zs.length ∧ txnF i s q zs = 0 := by
  match L, h with
  | [], h => simp [txnOf] at h
  | [_], h => simp [txnOf] at h
  | [_, _], h => simp [txnOf] at h
  | a :: b :: c :: r, h =>
    simp only [txnOf] at h
    cases ht : trip r with
    | none => rw [ht] at h; simp at h
    | some ys =>
      rw [ht] at h
      dsimp only at h
      split at h
      · rename_i hF
        simp only [Option.some.injEq, Prod.mk.injEq] at h
        obtain ⟨rfl, rfl, rfl, rfl⟩ := h
        refine ⟨?_, hF⟩
        unfold numsL
        rw [List.take_length, ← trip_nums r ys ht]
        rfl
      · simp at h

theorem nums_txnOf {i s q : Int} {zs : List ActD} (h : txnF i s q zs = 0) : txnOf (numsL i s q zs zs.length) = some (i, s, q, zs) := by
  unfold numsL
  rw [List.take_length]
  simp only [List.cons_append, List.nil_append, txnOf]
  rw [trip_of]
  simp [h]

/-- What was read, packed again, is the bytes. -/
theorem read_back {ds : List Int} (hu : ∀ i, 0 ≤ ds.getD i 0 ∧ ds.getD i 0 ≤ 255) (h : rdC ds = 0) : pkR (rdT ds).1 (rdT ds).2.1 (rdT ds).2.2.1 (rdT ds).2.2.2 = ds := by
  unfold rdC at h
  split at h
  · rename_i hs
    obtain ⟨z, hz⟩ := Option.isSome_iff_exists.1 hs
    obtain ⟨i, s, q, zs⟩ := z
    have hT : rdT ds = (i, s, q, zs) := by simp [rdT, hz]
    rw [hT]
    unfold rdO at hz
    split at hz
    · rename_i hc
      obtain ⟨e, hF⟩ := txnOf_nums hz
      have hp : packedB ds = true := by
        unfold readC at hc
        split at hc
        · rename_i hp; exact hp
        · simp at hc
      unfold pkR
      rw [if_pos hF, ← e]
      exact (pack_read ds hu hp).2
    · simp at hz
  · simp at h

/-- What was packed, read again, is the transaction. -/
theorem pack_back {i s q : Int} {zs : List ActD} (h : pkC i s q zs = 0) : rdC (pkR i s q zs) = 0 ∧ rdT (pkR i s q zs) = (i, s, q, zs) := by
  have hF : txnF i s q zs = 0 := h
  obtain ⟨r1, r2⟩ := read_pack (numsL i s q zs zs.length) (pk_ok hF).1
  have hO : rdO (pkR i s q zs) = some (i, s, q, zs) := by
    unfold rdO pkR
    rw [if_pos hF, if_pos r1, r2]
    exact nums_txnOf hF
  exact ⟨by simp [rdC, hO], by simp [rdT, hO]⟩

theorem pkR_u8 (i s q : Int) (zs : List ActD) : ∀ j, 0 ≤ (pkR i s q zs).getD j 0 ∧ (pkR i s q zs).getD j 0 ≤ 255 := by
  unfold pkR
  split
  · exact packR_u8 _
  · intro j; simp

theorem idxN_found : ∀ (L : List Int) (x : Int), idxN L x < L.length → L.getD (idxN L x) 0 = x
  | [], x, h => by simp at h
  | y :: r, x, h => by
    have ih := idxN_found r x
    unfold idxN at h ⊢
    split
    · rename_i e
      simpa using e
    · rename_i e
      rw [if_neg e] at h
      simpa using ih (by simpa using h)

theorem find_id {ds : List TxnD} {x : Int} (h : findC ds x = 0) : (findT ds x).id = x := by
  have e : findT ds x = ds.getD (idxN (ds.map TxnD.id) x) txnNo := by simp [findT, h]
  rw [e]
  unfold findC at h
  split at h
  · rename_i k; exact absurd h k
  · split at h
    · rename_i hl
      have hl' : idxN (ds.map TxnD.id) x < (ds.map TxnD.id).length := by simpa using hl
      have := idxN_found _ _ hl'
      simpa [List.getD, hl] using this
    · simp at h

theorem ids_len {ds : List TxnD} (h : idsC ds = 0) : (idsR ds).length = ds.length := by simp [idsR, h]

theorem sameAs_refl (xs : List ActD) : sameAs xs xs = true := by
  induction xs with
  | nil => rfl
  | cons x r ih => simp [sameAs, sameA, ih]
theorem sameT_one (d : TxnD) : sameTs [d] [d] = true := by simp [sameTs, sameT, sameAs_refl]

theorem set_u8 {ps : List Int} (h : ∀ i, 0 ≤ ps.getD i 0 ∧ ps.getD i 0 ≤ 255) (j : Nat) {v : Int} (hv : 0 ≤ v ∧ v ≤ 255) : ∀ i, 0 ≤ (ps.set j v).getD i 0 ∧ (ps.set j v).getD i 0 ≤ 255 := by
  intro i
  have hi := h i
  simp only [List.getD, List.getElem?_set] at hi ⊢
  split
  · split
    · simpa using hv
    · simp
  · exact hi

theorem take_u8 {ps : List Int} (h : ∀ i, 0 ≤ ps.getD i 0 ∧ ps.getD i 0 ≤ 255) (j : Nat) : ∀ i, 0 ≤ (ps.take j).getD i 0 ∧ (ps.take j).getD i 0 ≤ 255 := by
  intro i
  have hi := h i
  simp only [List.getD, List.getElem?_take] at hi ⊢
  split
  · exact hi
  · simp

set_option maxRecDepth 100000 in
set_option maxHeartbeats 2000000 in
theorem drawReadTxn_any (a : Option Addr) (cap : Nat) (bs : List Int) (w : World) (h : Row .u8 w a bs) (hu : ∀ i, 0 ≤ bs.getD i 0 ∧ bs.getD i 0 ≤ 255) (hl : bs.length ≤ 1048576) :
    Calls Tryd.prog 5 #[.slice a bs.length cap] w fun e w' => ∃ (b : Option Addr) (k : Nat) (ds : List Int), e = .returned (.slice b ds.length k) ∧ ds.length ≤ 1000 ∧ (∀ i, 0 ≤ ds.getD i 0 ∧ ds.getD i 0 ≤ 255) ∧ Row .u8 w' b ds ∧ Below w.heap.size w w' := by
  go_enter Tryd.func5, Tryd.ntmps5
  go_wp2_with fail
  refine (source_any w.heap.size a cap bs w (Nat.le_refl _) hl hu h).mono ?_
  rintro e w1 ⟨rfl, hS, hb⟩
  have hlt := hS.lt
  go_wp2_with fail
  refine (l2DrawF_any w.heap.size w.heap.size 0 w1 hS (by omega)).mono ?_
  rintro e w2 ⟨i, s, q, ta, tc, zs, rfl, hF, hzl, hoz, hS2, hg2⟩
  replace hb := below_of_src hb hg2 (Nat.le_refl _)
  clear hg2 hS
  have hlt2 := hS2.lt
  have hbA : Below w2.heap.size w2 (w2.alloc (.cells #[.int .i64 i, .int .i64 s, .int .i64 q, .slice ta zs.length tc] 27)) := by go_grown
  have Bt := Blk.new w2 27 #[.int .i64 i, .int .i64 s, .int .i64 q, .slice ta zs.length tc]
  replace hoz := own_below hoz hbA
  replace hS2 := hS2.below hbA
  replace hb := hb.trans (hbA.mono hb.size)
  have hs3 : w2.heap.size + 1 = (w2.alloc (.cells #[.int .i64 i, .int .i64 s, .int .i64 q, .slice ta zs.length tc] 27)).heap.size := by simp
  go_wp2_with fail
  generalize w2.alloc (.cells #[.int .i64 i, .int .i64 s, .int .i64 q, .slice ta zs.length tc] 27) = w3 at hbA Bt hoz hS2 hb hs3
  clear hbA
  have hB4 : Box4 w3 w2.heap.size 0 (.int .i64 i) (.int .i64 s) (.int .i64 q) (.slice ta zs.length tc) := ⟨Bt.cell 0 _ rfl, by simpa using Bt.cell 1 _ rfl, by simpa using Bt.cell 2 _ rfl, by simpa using Bt.cell 3 _ rfl⟩
  have hpk := l2Pack_any w2.heap.size 0 i s q ta tc zs w3 hB4 (Lies.own hoz) hF
  have hpl : 13 ≤ (packR (numsL i s q zs zs.length)).length ∧ (packR (numsL i s q zs zs.length)).length ≤ 81 := by
    refine ⟨?_, packR_le _⟩
    obtain ⟨_, _, _, h4, _⟩ := txnF_zero hF
    rw [(pk_ok hF).2, packL_length _ _ (Nat.le_refl _), numsL_length _ _ _ _ _ (Nat.le_refl _)]
    omega
  have hpu := packR_u8 (numsL i s q zs zs.length)
  clear hF hB4 hoz Bt
  generalize packR (numsL i s q zs zs.length) = ps at hpk hpl hpu
  refine hpk.mono ?_
  rintro e w4 ⟨a4, k4, rfl, o4, hb4⟩
  replace hS2 := hS2.below hb4
  replace hb := hb.trans (hb4.mono hb.size)
  clear hpk hb4
  have hnb : some w.heap.size ≠ Value.ownBlock (.slice a4 ps.length k4) := own_not o4 (Or.inl (by omega))
  obtain ⟨g, rfl⟩ := own_some o4 (by omega)
  have hgw : w.heap.size ≤ g := by have := (o4.lt g rfl).1; omega
  have HPU : Hid (∀ i, 0 ≤ ps.getD i 0 ∧ ps.getD i 0 ≤ 255) := hpu
  clear hpu
  go_wp2_with fail
  refine (next_any w.heap.size w.heap.size 13 4 w4 hS2 (by omega) (by omega)).mono ?_
  rintro e w5 ⟨r, rfl, hr, hS5, hg5⟩
  replace hb := below_of_src hb hg5 (Nat.le_refl _)
  have o5 := o4.kept hg5 (Or.inr (fun e => hnb e.symm))
  clear hg5 o4 hS2
  by_cases hr0 : r = 0
  · subst hr0
    go_wp2_with fail
    refine (next_any w.heap.size w.heap.size 14 (ps.length : Int) w5 hS5 (by omega) (by omega)).mono ?_
    rintro e w6 ⟨jj, rfl, hj, hS6, hg6⟩
    replace hb := below_of_src hb hg6 (Nat.le_refl _)
    replace o5 := o5.kept hg6 (Or.inr (fun e => hnb e.symm))
    have hj1 := hj.2.1 (by omega)
    obtain ⟨j, rfl⟩ := Int.eq_ofNat_of_zero_le hj.1
    have hjl : j < ps.length := by omega
    clear hg6 hS5 hj hj1
    have hlt6 := hS6.lt
    replace o5 := o5.alloc (.cells #[.int .i64 0, .int .i64 1, .int .i64 255, .int .i64 9] 2)
    go_wp2_with fail
    refine (pick_any w.heap.size w.heap.size 15 w6.heap.size _ [0, 1, 255, 9] _ (hS6.below (by go_grown)) (by omega) (World.ownsRow_lit w6 _ 4 (Nat.le_refl _) (by decide) rfl) (by simp) (by simp) (by simp [Value.ownBlock]; omega)).mono ?_
    rintro e w7 ⟨v, rfl, hmem, hS7, hg7⟩
    replace hb := below_of_src (hb.alloc hb.size _) hg7 (Nat.le_refl _)
    replace o5 := o5.kept hg7 (Or.inr (fun e => hnb e.symm))
    have hv : 0 ≤ v ∧ v ≤ 255 := by simp at hmem; omega
    clear hmem hg7 hS6 hS7
    have hfz : w7.frozen? ⟨g, j, none⟩ = false := o5.frozenAt j
    obtain ⟨u, hcu⟩ : ∃ u, w7.cell? ⟨g, j, none⟩ = some u := by
      rw [o5.cellAt j (by omega)]
      exact ⟨_, List.getElem?_eq_getElem (by simp; omega)⟩
    have hst := o5.stored j (.int .u8 v)
    rw [← List.map_set] at hst
    have R : Hid (Row .u8 (w7.setCell ⟨g, j, none⟩ (.int .u8 v)) (some ⟨g, 0, none⟩) (ps.set j v) ∧ Below w.heap.size w (w7.setCell ⟨g, j, none⟩ (.int .u8 v)) ∧ ∀ i, 0 ≤ (ps.set j v).getD i 0 ∧ (ps.set j v).getD i 0 ≤ 255) :=
      ⟨Row.own (n := ps.length) hst.1, hb.setCell hgw _, set_u8 HPU.out j hv⟩
    clear hst o5 hb HPU
    go_wp2
    go_ret
    refine ⟨some ⟨g, 0, none⟩, k4, ps.set j v, by simp, by simp; omega, R.out.2.2, R.out.1, R.out.2.1⟩
  · have hr0' : (r == 0) = false := by simpa using hr0
    by_cases hr1' : r = 1
    · subst hr1'
      have hcap : ps.length ≤ k4 := by
        rcases o5.2 with ⟨he, _⟩ | ⟨g', cap', cur, he, _, _, hc, _⟩
        · simp at he
        · simp only [Value.slice.injEq] at he
          omega
      clear hr0 hr0'
      go_wp2_with fail
      refine (next_any w.heap.size w.heap.size 14 (ps.length : Int) w5 hS5 (by omega) (by omega)).mono ?_
      rintro e w6 ⟨jj, rfl, hj, hS6, hg6⟩
      replace hb := below_of_src hb hg6 (Nat.le_refl _)
      replace o5 := o5.kept hg6 (Or.inr (fun e => hnb e.symm))
      have hj1 := hj.2.1 (by omega)
      obtain ⟨j, rfl⟩ := Int.eq_ofNat_of_zero_le hj.1
      have hjl : j < ps.length := by omega
      clear hg6 hS5 hj hj1 hS6
      go_wp2
      go_ret
      have hmin : min j ps.length = j := by omega
      exact ⟨some ⟨g, 0, none⟩, k4, ps.take j, by simp [hmin], by simp; omega, take_u8 HPU.out j, (Row.own o5).take j, hb⟩
    · have hr1'' : (r == 1) = false := by simpa using hr1'
      clear hr hr0 hr1'
      go_wp2
      go_ret
      exact ⟨some ⟨g, 0, none⟩, k4, ps, rfl, by omega, HPU.out, Row.own o5, hb⟩

end Go.Proofs.YtjaoggkpnjkkpaaDoor
