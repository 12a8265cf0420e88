/- The program's SetBatch. -/
import Derived.Test.YtpjmlidbligcbaaGreatDoorM6e
import Derived.Test.YtpjmlidbligcbaaGreatDoorGH
namespace Go.Proofs.YtpjmlidbligcbaaGreatDoor
open Go.RowKit
open Go.BigFrame
set_option linter.unusedVariables false
set_option maxRecDepth 100000
set_option linter.unusedSimpArgs false

/-- No instance. -/
def inst0 : InstQ := ⟨false, .slice none 0 0, [], .slice none 0 0, [], .slice none 0 0, []⟩
def ine0 : InstE := ⟨false, [], [], []⟩
theorem inst0_own (w : World) : instK.own w inst0 := ⟨(Kind.own_nil w).1, (Kind.own_nil w).1, (Kind.own_nil w).1⟩
theorem inst0_ft : instK.foot inst0 = [] := by
  show txnK.fp _ _ ++ (roundK.fp _ _ ++ intK.fp _ _) = []
  simp [inst0, Kind.fp, blk, Value.ownBlock]
theorem inst0_nd : (instK.foot inst0).Nodup := by rw [inst0_ft]; simp
theorem brd_put {has has' : Bool} {vb vb' : Value} {rs : List RoundE} {dec : List Int} (h : Wel rs) (h4 : rs.length ≤ 4) : ((brdC has vb rs dec).toArray.setIfInBounds 25 (.bool has')).setIfInBounds 26 vb' = (brdC has' vb' rs dec).toArray := by
  have hl := rndC_length h h4
  rw [List.setIfInBounds_toArray, List.setIfInBounds_toArray]
  congr 1
  unfold brdC
  rw [List.set_append_right _ _ (by omega), List.set_append_right _ _ (by omega), hl]
  rfl
theorem sz_res : (Tryz.prog.info? 34).map (·.size) = some 9 := by kernel_rfl
/-- SetBatch, plainly: its code, and its instance. -/
def sbC (x : InstE) (ds : List TxnD) : Int := if insF x = 0 then (if x.has then 6 else batF ds) else insF x
def sbI (x : InstE) (ds : List TxnD) : InstE := if sbC x ds = 0 then ⟨true, ds, x.rounds, x.dec⟩ else ine0
theorem txnF_nil (i s q : Int) : txnF i s q [] ≠ 0 := by
  unfold txnF
  split <;> simp
theorem bat_pos {bt : List TxnQ} (h : batF (bt.map TxnQ.e) = 0) : ∀ p ∈ bt, 0 < p.acts.length := by
  intro p hp
  have ha : allF (bt.map TxnQ.e) = 0 := by
    unfold batF at h
    split at h
    · omega
    · split at h
      · assumption
      · exact h
  have hz : ∀ (ds : List TxnD), allF ds = 0 → ∀ d ∈ ds, d.F = 0 := by
    intro ds
    induction ds with
    | nil => intro _ d hd; simp at hd
    | cons x r ih =>
      intro h d hd
      simp only [allF] at h
      by_cases hx : x.F = 0
      · rw [if_pos hx] at h
        rcases List.mem_cons.1 hd with rfl | hd
        · exact hx
        · exact ih h d hd
      · rw [if_neg hx] at h
        exact absurd h hx
  have hf := hz _ ha p.e (List.mem_map.2 ⟨p, hp, rfl⟩)
  show 0 < p.acts.length
  have hf' : txnF p.i p.s p.q p.acts = 0 := hf
  rcases Nat.eq_zero_or_pos p.acts.length with h0 | h0
  · exfalso
    have : p.acts = [] := List.eq_nil_of_length_eq_zero h0
    rw [this] at hf'
    exact txnF_nil _ _ _ hf'
  · exact h0

set_option maxHeartbeats 4000000 in
theorem implSetBatch_any (p : InstQ) (vn : Value) (bt : List TxnQ) (w : World) (hG : Rul w) (h : instK.rd w p) (hl : p.n ≤ 1048576) (hT : txnK.At w vn bt) (hl' : bt.length + nmL TxnQ.n bt ≤ 1048576) :
    Calls Tryz.prog 10 #[.agg #[.bool p.has, p.vb, p.vr, p.vd], vn] w fun e w' => ∃ q : InstQ, e = .returned (.agg (resC (sbC p.e (bt.map TxnQ.e)) 0 false false 0 q)) ∧ q.e = sbI p.e (bt.map TxnQ.e) ∧ instK.own w' q ∧ (instK.foot q).Nodup ∧ (∀ k ∈ instK.foot q, w.heap.size ≤ k) ∧ Below w.heap.size w w' := by
  obtain ⟨hl30, hone⟩ := bd_ok h
  have hbo := fun w hG h => boardOf_any p w hG h hl
  have hrb := fun (w' : World) hb => instK.rd_below (w' := w') h hb
  have hba := fun w (hT : txnK.At w vn bt) => batchFault_any vn (bt.map TxnQ.e) w (txnsAt_of hT) (by rw [List.length_map, sumA_of]; omega)
  have hin := fun (hp : batF (bt.map TxnQ.e) = 0) (rs : List RoundE) (dec : List Int) w (hT : txnK.At w vn bt) hw h4 h3 => instance_any true vn bt rs dec w hT (bat_pos hp) hl' hw h4 h3
  change ∀ w hG h, Calls _ _ _ _ fun e w' => e = .returned (.tuple #[.agg (bdOf p).toArray, _]) ∧ _ at hbo
  have HBD : Hid (insF p.e = 0 → bdOf p = brdC p.has p.vb p.e.rounds p.dec ∧ Wel p.e.rounds ∧ p.e.rounds.length ≤ 4 ∧ p.dec.length = 3) := fun h0 => by
    obtain ⟨h1, h2, h3, _⟩ := ins_ok h0
    exact ⟨if_pos h0, h1, h2.2, h3⟩
  obtain ⟨D, hD⟩ : ∃ D, sbC p.e (bt.map TxnQ.e) = D := ⟨_, rfl⟩
  obtain ⟨E, hE⟩ : ∃ E, sbI p.e (bt.map TxnQ.e) = E := ⟨_, rfl⟩
  have HDE : Hid ((insF p.e ≠ 0 → D = insF p.e ∧ E = ine0) ∧ (insF p.e = 0 → p.has = true → D = 6 ∧ E = ine0) ∧ (insF p.e = 0 → p.has = false → batF (bt.map TxnQ.e) ≠ 0 → D = batF (bt.map TxnQ.e) ∧ E = ine0) ∧ (insF p.e = 0 → p.has = false → batF (bt.map TxnQ.e) = 0 → D = 0 ∧ E = ⟨true, bt.map TxnQ.e, p.e.rounds, p.dec⟩)) := by
    have hph : p.e.has = p.has := rfl
    refine ⟨fun h0 => ?_, fun h0 h1 => ?_, fun h0 h1 h2 => ?_, fun h0 h1 h2 => ?_⟩
    · have e : D = insF p.e := by rw [← hD]; exact if_neg h0
      exact ⟨e, by rw [← hE]; exact if_neg (by rw [hD, e]; exact h0)⟩
    · have e : D = 6 := by rw [← hD]; unfold sbC; rw [if_pos h0, hph, h1]; rfl
      exact ⟨e, by rw [← hE]; exact if_neg (by rw [hD, e]; decide)⟩
    · have e : D = batF (bt.map TxnQ.e) := by rw [← hD]; unfold sbC; rw [if_pos h0, hph, h1]; rfl
      exact ⟨e, by rw [← hE]; exact if_neg (by rw [hD, e]; exact h2)⟩
    · have e : D = 0 := by rw [← hD]; unfold sbC; rw [if_pos h0, hph, h1]; exact h2
      exact ⟨e, by rw [← hE]; exact if_pos (by rw [hD, e])⟩
  rw [hD, hE]
  clear hD hE
  generalize bdOf p = BD at *
  generalize insF p.e = C at *
  generalize p.e.rounds = rs at *
  generalize hds : bt.map TxnQ.e = dsn at *
  generalize hbf : batF dsn = BF at *
  clear hbf
  obtain ⟨has, vb, batch, vr, rounds, vd, dec⟩ := p
  obtain ⟨ba, bk, rfl⟩ : ∃ a c, vb = .slice a batch.length c := h.1.shape
  obtain ⟨va, vk, rfl⟩ : ∃ a c, vr = .slice a rounds.length c := h.2.1.shape
  obtain ⟨da, dk, rfl⟩ : ∃ a c, vd = .slice a dec.length c := h.2.2.shape
  obtain ⟨na, nk, rfl⟩ := hT.shape
  dsimp only at hbo hrb HBD HDE
  have hB : Below w.heap.size w ((w.alloc (.cells #[.bool has, .slice ba batch.length bk, .slice va rounds.length vk, .slice da dec.length dk] 28)).alloc (.cells #[.int .i64 0, .int .i64 0, .bool false, .bool false, .int .i64 0, .bool false, .slice none 0 0, .slice none 0 0, .slice none 0 0] 34)) := by go_grown
  have Rb := Blk.new (w.alloc (.cells #[.bool has, .slice ba batch.length bk, .slice va rounds.length vk, .slice da dec.length dk] 28)) 34 #[.int .i64 0, .int .i64 0, .bool false, .bool false, .int .i64 0, .bool false, .slice none 0 0, .slice none 0 0, .slice none 0 0]
  simp only [World.size_alloc] at Rb
  have hszB : (Tryz.prog.info? 104).map (·.size) = some BD.toArray.size := by rw [List.size_toArray, hl30]; exact sz_board
  have hold : (#[.int .i64 0, .int .i64 0, .int .i64 0, .int .i64 0, .int .i64 0, .int .i64 0, .int .i64 0, .int .i64 0, .int .i64 0, .int .i64 0, .int .i64 0, .int .i64 0, .int .i64 0, .int .i64 0, .int .i64 0, .int .i64 0, .int .i64 0, .int .i64 0, .int .i64 0, .int .i64 0, .int .i64 0, .int .i64 0, .int .i64 0, .int .i64 0, .int .i64 0, .bool false, .slice none 0 0, .int .i64 0, .int .i64 0, .int .i64 0] : Array Value).size = BD.toArray.size := (show 30 = BD.length from hl30.symm)
  go_enter Tryz.func10, Tryz.ntmps10
  go_wp2_with fail
  generalize ((w.alloc (.cells #[.bool has, .slice ba batch.length bk, .slice va rounds.length vk, .slice da dec.length dk] 28)).alloc (.cells #[.int .i64 0, .int .i64 0, .bool false, .bool false, .int .i64 0, .bool false, .slice none 0 0, .slice none 0 0, .slice none 0 0] 34)) = W at *
  refine (hbo W (hG.below hB) (hrb W hB)).mono ?_
  rintro e w1 ⟨rfl, hb1⟩
  replace hB := hB.trans (hb1.mono hB.size)
  replace Rb := Rb.below hb1
  have Bz := Blk.new w1 104 #[.int .i64 0, .int .i64 0, .int .i64 0, .int .i64 0, .int .i64 0, .int .i64 0, .int .i64 0, .int .i64 0, .int .i64 0, .int .i64 0, .int .i64 0, .int .i64 0, .int .i64 0, .int .i64 0, .int .i64 0, .int .i64 0, .int .i64 0, .int .i64 0, .int .i64 0, .int .i64 0, .int .i64 0, .int .i64 0, .int .i64 0, .int .i64 0, .int .i64 0, .bool false, .slice none 0 0, .int .i64 0, .int .i64 0, .int .i64 0]
  have hB2 := below_row (hB.alloc hB.size (.cells #[.int .i64 0, .int .i64 0, .int .i64 0, .int .i64 0, .int .i64 0, .int .i64 0, .int .i64 0, .int .i64 0, .int .i64 0, .int .i64 0, .int .i64 0, .int .i64 0, .int .i64 0, .int .i64 0, .int .i64 0, .int .i64 0, .int .i64 0, .int .i64 0, .int .i64 0, .int .i64 0, .int .i64 0, .int .i64 0, .int .i64 0, .int .i64 0, .int .i64 0, .bool false, .slice none 0 0, .int .i64 0, .int .i64 0, .int .i64 0] 104)) (g := w1.heap.size) hB.size BD.toArray
  have Rb2 : Blk ((w1.alloc (.cells #[.int .i64 0, .int .i64 0, .int .i64 0, .int .i64 0, .int .i64 0, .int .i64 0, .int .i64 0, .int .i64 0, .int .i64 0, .int .i64 0, .int .i64 0, .int .i64 0, .int .i64 0, .int .i64 0, .int .i64 0, .int .i64 0, .int .i64 0, .int .i64 0, .int .i64 0, .int .i64 0, .int .i64 0, .int .i64 0, .int .i64 0, .int .i64 0, .int .i64 0, .bool false, .slice none 0 0, .int .i64 0, .int .i64 0, .int .i64 0] 104)).setRow w1.heap.size BD.toArray) (w.heap.size + 1) 34 #[.int .i64 0, .int .i64 0, .bool false, .bool false, .int .i64 0, .bool false, .slice none 0 0, .slice none 0 0, .slice none 0 0] := (setRow_other _ _ _ _ (by have := Rb.lt; omega)).trans (Rb.below ((Below.refl _ _).alloc (Nat.le_refl _) _))
  have B2 := Bz.row BD.toArray
  have hlt2 := Rb.lt
  clear hbo hrb hb1 Rb
  by_cases h0 : C = 0
  case neg =>
    have E1 : Hid (D = C ∧ E = ine0) := HDE.out.1 h0
    have h0' : (C != 0) = true := by simpa using h0
    clear HDE HBD h0 B2 hba hin
    have Rr := Rb2.row #[.int .i64 C, .int .i64 0, .bool false, .bool false, .int .i64 0, .bool false, .slice none 0 0, .slice none 0 0, .slice none 0 0]
    have hBr := below_row hB2 (g := w.heap.size + 1) (by omega) #[.int .i64 C, .int .i64 0, .bool false, .bool false, .int .i64 0, .bool false, .slice none 0 0, .slice none 0 0, .slice none 0 0]
    have hsr : (Tryz.prog.info? 34).map (·.size) = some (#[.int .i64 C, .int .i64 0, .bool false, .bool false, .int .i64 0, .bool false, .slice none 0 0, .slice none 0 0, .slice none 0 0] : Array Value).size := sz_res
    go_wp2_with (first | (refine st_row (by kernel_rfl) 104 _ _ rfl _ BD.toArray rfl rfl 104 _ Bz hszB hold hone ?_) | (refine st_row (by kernel_rfl) 34 _ _ rfl _ #[.int .i64 C, .int .i64 0, .bool false, .bool false, .int .i64 0, .bool false, .slice none 0 0, .slice none 0 0, .slice none 0 0] rfl rfl 34 _ Rb2 hsr rfl (by simp [Value.oneCell']) ?_))
    have q0 := Rr.cell 0 _ rfl
    have q1 := Rr.cell 1 _ rfl
    have q2 := Rr.cell 2 _ rfl
    have q3 := Rr.cell 3 _ rfl
    have q4 := Rr.cell 4 _ rfl
    have q5 := Rr.cell 5 _ rfl
    have q6 := Rr.cell 6 _ rfl
    have q7 := Rr.cell 7 _ rfl
    have q8 := Rr.cell 8 _ rfl
    exact bodyPost_ret (v := .agg #[.int .i64 C, .int .i64 0, .bool false, .bool false, .int .i64 0, .bool false, .slice none 0 0, .slice none 0 0, .slice none 0 0]) (by simp [results, Tryz.results10, go_sem, q0, q1, q2, q3, q4, q5, q6, q7, q8]) rfl ⟨inst0, by rw [E1.out.1]; rfl, E1.out.2.symm, inst0_own _, inst0_nd, fun k hk => by rw [inst0_ft] at hk; simp at hk, hBr⟩

  case pos =>
    obtain ⟨hBD, hwel, h4, hd3⟩ := HBD.out h0
    have c25 : ((w1.alloc (.cells #[.int .i64 0, .int .i64 0, .int .i64 0, .int .i64 0, .int .i64 0, .int .i64 0, .int .i64 0, .int .i64 0, .int .i64 0, .int .i64 0, .int .i64 0, .int .i64 0, .int .i64 0, .int .i64 0, .int .i64 0, .int .i64 0, .int .i64 0, .int .i64 0, .int .i64 0, .int .i64 0, .int .i64 0, .int .i64 0, .int .i64 0, .int .i64 0, .int .i64 0, .bool false, .slice none 0 0, .int .i64 0, .int .i64 0, .int .i64 0] 104)).setRow w1.heap.size BD.toArray).cell? ⟨w1.heap.size, 25, none⟩ = some (.bool has) := B2.cell 25 _ (by rw [List.getElem?_toArray, hBD]; exact brd_has hwel h4)
    subst h0
    cases has with
    | true =>
      have E1 : Hid (D = 6 ∧ E = ine0) := HDE.out.2.1 rfl rfl
      clear HDE HBD B2 hba hin hBD
      have Rr := Rb2.row #[.int .i64 6, .int .i64 0, .bool false, .bool false, .int .i64 0, .bool false, .slice none 0 0, .slice none 0 0, .slice none 0 0]
      have hBr := below_row hB2 (g := w.heap.size + 1) (by omega) #[.int .i64 6, .int .i64 0, .bool false, .bool false, .int .i64 0, .bool false, .slice none 0 0, .slice none 0 0, .slice none 0 0]
      have hsr : (Tryz.prog.info? 34).map (·.size) = some (#[.int .i64 6, .int .i64 0, .bool false, .bool false, .int .i64 0, .bool false, .slice none 0 0, .slice none 0 0, .slice none 0 0] : Array Value).size := sz_res
      go_wp2_with (first | (refine st_row (by kernel_rfl) 104 _ _ rfl _ BD.toArray rfl rfl 104 _ Bz hszB hold hone ?_) | (refine st_row (by kernel_rfl) 34 _ _ rfl _ #[.int .i64 6, .int .i64 0, .bool false, .bool false, .int .i64 0, .bool false, .slice none 0 0, .slice none 0 0, .slice none 0 0] rfl rfl 34 _ Rb2 hsr rfl (by simp [Value.oneCell']) ?_))
      have q0 := Rr.cell 0 _ rfl
      have q1 := Rr.cell 1 _ rfl
      have q2 := Rr.cell 2 _ rfl
      have q3 := Rr.cell 3 _ rfl
      have q4 := Rr.cell 4 _ rfl
      have q5 := Rr.cell 5 _ rfl
      have q6 := Rr.cell 6 _ rfl
      have q7 := Rr.cell 7 _ rfl
      have q8 := Rr.cell 8 _ rfl
      exact bodyPost_ret (v := .agg #[.int .i64 6, .int .i64 0, .bool false, .bool false, .int .i64 0, .bool false, .slice none 0 0, .slice none 0 0, .slice none 0 0]) (by simp [results, Tryz.results10, go_sem, q0, q1, q2, q3, q4, q5, q6, q7, q8]) rfl ⟨inst0, by rw [E1.out.1]; rfl, E1.out.2.symm, inst0_own _, inst0_nd, fun k hk => by rw [inst0_ft] at hk; simp at hk, hBr⟩

    | false =>
      have E4 : Hid ((BF ≠ 0 → D = BF ∧ E = ine0) ∧ (BF = 0 → D = 0 ∧ E = ⟨true, dsn, rs, dec⟩)) := ⟨HDE.out.2.2.1 rfl rfl, HDE.out.2.2.2 rfl rfl⟩
      have HB9 : Hid (BD = brdC false (.slice ba batch.length bk) rs dec) := hBD
      have HD3 : Hid (dec.length = 3) := hd3
      clear HDE HBD hBD hd3
      go_wp2_with (first | (refine st_row (by kernel_rfl) 104 _ _ rfl _ BD.toArray rfl rfl 104 _ Bz hszB hold hone ?_))
      clear c25
      generalize ((w1.alloc (.cells #[.int .i64 0, .int .i64 0, .int .i64 0, .int .i64 0, .int .i64 0, .int .i64 0, .int .i64 0, .int .i64 0, .int .i64 0, .int .i64 0, .int .i64 0, .int .i64 0, .int .i64 0, .int .i64 0, .int .i64 0, .int .i64 0, .int .i64 0, .int .i64 0, .int .i64 0, .int .i64 0, .int .i64 0, .int .i64 0, .int .i64 0, .int .i64 0, .int .i64 0, .bool false, .slice none 0 0, .int .i64 0, .int .i64 0, .int .i64 0] 104)).setRow w1.heap.size BD.toArray) = X at *
      refine (hba X (hT.below hB2)).mono ?_
      rintro e w2 ⟨rfl, hb2⟩
      replace Rb2 := Rb2.below hb2
      replace B2 := B2.below hb2
      replace hB2 := hB2.trans (hb2.mono hB2.size)
      clear hb2 hba Bz
      by_cases hbf : BF = 0
      case neg =>
        have E1 : Hid (D = BF ∧ E = ine0) := E4.out.1 hbf
        have h0' : (BF != 0) = true := by simpa using hbf
        clear E4 hbf hin
        have Rr := Rb2.row #[.int .i64 BF, .int .i64 0, .bool false, .bool false, .int .i64 0, .bool false, .slice none 0 0, .slice none 0 0, .slice none 0 0]
        have hBr := below_row hB2 (g := w.heap.size + 1) (by omega) #[.int .i64 BF, .int .i64 0, .bool false, .bool false, .int .i64 0, .bool false, .slice none 0 0, .slice none 0 0, .slice none 0 0]
        have hsr : (Tryz.prog.info? 34).map (·.size) = some (#[.int .i64 BF, .int .i64 0, .bool false, .bool false, .int .i64 0, .bool false, .slice none 0 0, .slice none 0 0, .slice none 0 0] : Array Value).size := sz_res
        go_wp2_with (first | (refine st_row (by kernel_rfl) 34 _ _ rfl _ #[.int .i64 BF, .int .i64 0, .bool false, .bool false, .int .i64 0, .bool false, .slice none 0 0, .slice none 0 0, .slice none 0 0] rfl rfl 34 _ Rb2 hsr rfl (by simp [Value.oneCell']) ?_))
        have q0 := Rr.cell 0 _ rfl
        have q1 := Rr.cell 1 _ rfl
        have q2 := Rr.cell 2 _ rfl
        have q3 := Rr.cell 3 _ rfl
        have q4 := Rr.cell 4 _ rfl
        have q5 := Rr.cell 5 _ rfl
        have q6 := Rr.cell 6 _ rfl
        have q7 := Rr.cell 7 _ rfl
        have q8 := Rr.cell 8 _ rfl
        exact bodyPost_ret (v := .agg #[.int .i64 BF, .int .i64 0, .bool false, .bool false, .int .i64 0, .bool false, .slice none 0 0, .slice none 0 0, .slice none 0 0]) (by simp [results, Tryz.results10, go_sem, q0, q1, q2, q3, q4, q5, q6, q7, q8]) rfl ⟨inst0, by rw [E1.out.1]; rfl, E1.out.2.symm, inst0_own _, inst0_nd, fun k hk => by rw [inst0_ft] at hk; simp at hk, hBr⟩

      case pos =>
        have E1 : Hid (D = 0 ∧ E = ⟨true, dsn, rs, dec⟩) := E4.out.2 hbf
        subst hbf
        clear E4
        have X3 := (B2.set 25 (.bool true)).set 26 (.slice na bt.length nk)
        rw [HB9.out, brd_put hwel h4] at X3
        have X4 := rng X3 (brdC true (.slice na bt.length nk) rs dec) (o := 0) (fun j v hv => by rw [Nat.zero_add, List.getElem?_toArray]; exact hv)
        have hgs : w.heap.size + 2 ≤ w1.heap.size := by omega
        have hBg : Below w.heap.size w ((w2.setCell ⟨w1.heap.size, 25, none⟩ (.bool true)).setCell ⟨w1.heap.size, 26, none⟩ (.slice na bt.length nk)) := (hB2.setCell (p := ⟨w1.heap.size, 25, none⟩) (by show w.heap.size ≤ w1.heap.size; omega) _).setCell (p := ⟨w1.heap.size, 26, none⟩) (by show w.heap.size ≤ w1.heap.size; omega) _
        have R3 : Blk ((w2.setCell ⟨w1.heap.size, 25, none⟩ (.bool true)).setCell ⟨w1.heap.size, 26, none⟩ (.slice na bt.length nk)) (w.heap.size + 1) 34 #[.int .i64 0, .int .i64 0, .bool false, .bool false, .int .i64 0, .bool false, .slice none 0 0, .slice none 0 0, .slice none 0 0] := (Rb2.other (b' := w1.heap.size) (by omega) _ _).other (b' := w1.heap.size) (by omega) _ _
        have hs30 : (Tryz.prog.info? 104).map (·.size) = some (brdC true (.slice na bt.length nk) rs dec).length := by rw [brdC_length hwel h4 HD3.out]; exact sz_board
        have c25 : w2.cell? ⟨w1.heap.size, 25, none⟩ = some (.bool false) := B2.cell 25 _ (by rw [List.getElem?_toArray, HB9.out]; exact brd_has hwel h4)
        have c26 : w2.cell? ⟨w1.heap.size, 26, none⟩ = some (.slice ba batch.length bk) := B2.cell 26 _ (by rw [List.getElem?_toArray, HB9.out]; exact brd_bat hwel h4)
        have f25 := B2.frozen 25
        have f26 := B2.frozen 26
        clear B2 Rb2 HB9
        go_wp2_with (first | (refine ld_g (by kernel_rfl) 104 _ rfl _ _ rfl (brdC true (.slice na bt.length nk) rs dec) _ X4 Tryz.underlying104 rfl hs30 ?_))
        clear c25 c26 f25 f26 X4 X3 hs30
        generalize (w2.setCell ⟨w1.heap.size, 25, none⟩ (.bool true)).setCell ⟨w1.heap.size, 26, none⟩ (.slice na bt.length nk) = X5 at *
        refine (hin (by trivial) rs dec X5 (hT.below hBg) hwel h4 HD3.out).mono ?_
        rintro e w5 ⟨q, rfl, eq, oq, nq, gq, hb5⟩
        have R5 := R3.below hb5
        have hR5 := R3.lt
        have L5 : ∀ k ∈ instK.foot q, w.heap.size + 2 ≤ k := fun k hk => by have := gq k hk; omega
        replace hBg := hBg.trans (hb5.mono hBg.size)
        clear hin gq hb5 R3
        have hous : ∀ cs, instK.own (w5.setRow (w.heap.size + 1) cs) q := fun cs => instK.own_out oq (out_row w5 (w.heap.size + 1) cs) (fun k hk => by have := L5 k hk; simp only [List.mem_singleton]; omega)
        have HQ : Hid (q.e = E ∧ (instK.foot q).Nodup ∧ (∀ k ∈ instK.foot q, w.heap.size ≤ k) ∧ ∀ cs, instK.own (w5.setRow (w.heap.size + 1) cs) q) := ⟨by rw [eq, E1.out.2], nq, fun k hk => by have := L5 k hk; omega, hous⟩
        have HD0 : Hid (D = 0) := E1.out.1
        clear E1 eq nq hous L5
        obtain ⟨qh, qb, qbs, qr, qrs, qd, qds⟩ := q
        obtain ⟨s1, t1, rfl⟩ : ∃ a c, qb = .slice a qbs.length c := oq.1.shape
        obtain ⟨s2, t2, rfl⟩ : ∃ a c, qr = .slice a qrs.length c := oq.2.1.shape
        obtain ⟨s3, t3, rfl⟩ : ∃ a c, qd = .slice a qds.length c := oq.2.2.shape
        have Rr := R5.row #[.int .i64 0, .int .i64 0, .bool false, .bool false, .int .i64 0, .bool qh, .slice s1 qbs.length t1, .slice s2 qrs.length t2, .slice s3 qds.length t3]
        have hBr := below_row hBg (g := w.heap.size + 1) (by omega) #[.int .i64 0, .int .i64 0, .bool false, .bool false, .int .i64 0, .bool qh, .slice s1 qbs.length t1, .slice s2 qrs.length t2, .slice s3 qds.length t3]
        have hsr : (Tryz.prog.info? 34).map (·.size) = some (#[.int .i64 0, .int .i64 0, .bool false, .bool false, .int .i64 0, .bool qh, .slice s1 qbs.length t1, .slice s2 qrs.length t2, .slice s3 qds.length t3] : Array Value).size := sz_res
        clear oq
        go_wp2_with (first | (refine st_row (by kernel_rfl) 34 _ _ rfl _ #[.int .i64 0, .int .i64 0, .bool false, .bool false, .int .i64 0, .bool qh, .slice s1 qbs.length t1, .slice s2 qrs.length t2, .slice s3 qds.length t3] rfl rfl 34 _ R5 hsr rfl (by simp [Value.oneCell']) ?_))
        have q0 := Rr.cell 0 _ rfl
        have q1 := Rr.cell 1 _ rfl
        have q2 := Rr.cell 2 _ rfl
        have q3 := Rr.cell 3 _ rfl
        have q4 := Rr.cell 4 _ rfl
        have q5 := Rr.cell 5 _ rfl
        have q6 := Rr.cell 6 _ rfl
        have q7 := Rr.cell 7 _ rfl
        have q8 := Rr.cell 8 _ rfl
        exact bodyPost_ret (v := .agg #[.int .i64 0, .int .i64 0, .bool false, .bool false, .int .i64 0, .bool qh, .slice s1 qbs.length t1, .slice s2 qrs.length t2, .slice s3 qds.length t3]) (by simp [results, Tryz.results10, go_sem, q0, q1, q2, q3, q4, q5, q6, q7, q8]) rfl ⟨⟨qh, .slice s1 qbs.length t1, qbs, .slice s2 qrs.length t2, qrs, .slice s3 qds.length t3, qds⟩, by rw [HD0.out], HQ.out.1, HQ.out.2.2.2 _, HQ.out.2.1, HQ.out.2.2.1, hBr⟩

end Go.Proofs.YtpjmlidbligcbaaGreatDoor
