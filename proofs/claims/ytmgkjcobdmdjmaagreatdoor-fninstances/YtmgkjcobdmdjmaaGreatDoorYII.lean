/- Texts joined, with what the law reaches alone. -/
import Derived.Test.YtmgkjcobdmdjmaaGreatDoorYIH
import Derived.Test.YtmgkjcobdmdjmaaGreatDoorYIB
namespace Go.Proofs.YtmgkjcobdmdjmaaGreatDoor
open Go.RowKit
open Go.BigFrame
set_option linter.unusedVariables false
set_option maxRecDepth 100000
set_option linter.unusedSimpArgs false
/-- No instance. -/
def inst0 : InstQ := ⟨false, .slice none 0 0, [], .slice none 0 0, [], .slice none 0 0, []⟩

def ine0 : InstE := ⟨false, [], [], []⟩

theorem inst0_own (w : World) : instK.own w inst0 := ⟨(Kind.own_nil w).1, (Kind.own_nil w).1, (Kind.own_nil w).1⟩

theorem inst0_ft : instK.foot inst0 = [] := by
 show txnK.fp _ _ ++ (roundK.fp _ _ ++ intK.fp _ _) = []
 simp [inst0, Kind.fp, blk, Value.ownBlock]

theorem inst0_nd : (instK.foot inst0).Nodup := by rw [inst0_ft]; simp

theorem brd_put {has has' : Bool} {vb vb' : Value} {rs : List RoundE} {dec : List Int} (h : Wel rs) (h4 : rs.length ≤ 4) : ((brdC has vb rs dec).toArray.setIfInBounds 25 (.bool has')).setIfInBounds 26 vb' = (brdC has' vb' rs dec).toArray := by
 have hl := rndC_length h h4
 rw [List.setIfInBounds_toArray, List.setIfInBounds_toArray]
 congr 1
 unfold brdC
 rw [List.set_append_right _ _ (by omega), List.set_append_right _ _ (by omega), hl]
 rfl

theorem sz_res : (Tryz.prog.info? 34).map (·.size) = some 9 := by kernel_rfl

/-- SetBatch, plainly: its code, and its instance. -/
def sbC (x : InstE) (ds : List TxnD) : Int := if insF x = 0 then (if x.has then 6 else batF ds) else insF x

def sbI (x : InstE) (ds : List TxnD) : InstE := if sbC x ds = 0 then ⟨true, ds, x.rounds, x.dec⟩ else ine0

theorem txnF_nil (i s q : Int) : txnF i s q [] ≠ 0 := by
 unfold txnF
 split <;> simp

theorem bat_pos {bt : List TxnQ} (h : batF (bt.map TxnQ.e) = 0) : ∀ p ∈ bt, 0 < p.acts.length := by
 intro p hp
 have ha : allF (bt.map TxnQ.e) = 0 := by
  unfold batF at h
  split at h
  ·omega
  ·split at h
   ·assumption
   ·exact h
 have hz : ∀ (ds : List TxnD), allF ds = 0 → ∀ d ∈ ds, d.F = 0 := by
  intro ds
  induction ds with
  | nil => intro _ d hd; simp at hd
  | cons x r ih =>
   intro h d hd
   simp only [allF] at h
   by_cases hx : x.F = 0
   ·rw [if_pos hx] at h
    rcases List.mem_cons.1 hd with rfl | hd
    ·exact hx
    ·exact ih h d hd
   ·rw [if_neg hx] at h
    exact absurd h hx
 have hf := hz _ ha p.e (List.mem_map.2 ⟨p, hp, rfl⟩)
 show 0 < p.acts.length
 have hf' : txnF p.i p.s p.q p.acts = 0 := hf
 rcases Nat.eq_zero_or_pos p.acts.length with h0 | h0
 ·exfalso
  have : p.acts = [] := List.eq_nil_of_length_eq_zero h0
  rw [this] at hf'
  exact txnF_nil _ _ _ hf'
 ·exact h0

set_option maxHeartbeats 4000000 in
theorem implSetBatch_any (p : InstQ) (vn : Value) (bt : List TxnQ) (w : World) (hG : Rul w) (h : instK.rd w p) (hl : p.n ≤ 1048576) (hT : txnK.At w vn bt) (hl' : bt.length + nmL TxnQ.n bt ≤ 1048576) :
  Calls Tryz.prog 12 #[.agg #[.bool p.has, p.vb, p.vr, p.vd], vn] w fun e w' => ∃ q : InstQ, e = .returned (.agg (resC (sbC p.e (bt.map TxnQ.e)) 0 false false 0 q)) ∧ q.e = sbI p.e (bt.map TxnQ.e) ∧ instK.own w' q ∧ (instK.foot q).Nodup ∧ (∀ k ∈ instK.foot q, w.heap.size ≤ k) ∧ Below w.heap.size w w' := by
 obtain ⟨hl30, hone⟩ := bd_ok h
 have hbo := fun w hG h => boardOf_any p w hG h hl
 have hrb := fun (w' : World) hb => instK.rd_below (w' := w') h hb
 have hba := fun w (hT : txnK.At w vn bt) => batchFault_any vn (bt.map TxnQ.e) w (txnsAt_of hT) (by rw [List.length_map, sumA_of]; omega)
 have hin := fun (hp : batF (bt.map TxnQ.e) = 0) (rs : List RoundE) (dec : List Int) w (hT : txnK.At w vn bt) hw h4 h3 => instance_any true vn bt rs dec w hT (bat_pos hp) hl' hw h4 h3
 change ∀ w hG h, Calls _ _ _ _ fun e w' => e = .returned (.tuple #[.agg (bdOf p).toArray, _]) ∧ _ at hbo
 have HBD : Hid (insF p.e = 0 → bdOf p = brdC p.has p.vb p.e.rounds p.dec ∧ Wel p.e.rounds ∧ p.e.rounds.length ≤ 4 ∧ p.dec.length = 3) := fun h0 => by
  obtain ⟨h1, h2, h3, _⟩ := ins_ok h0
  exact ⟨if_pos h0, h1, h2.2, h3⟩
 obtain ⟨D, hD⟩ : ∃ D, sbC p.e (bt.map TxnQ.e) = D := ⟨_, rfl⟩
 obtain ⟨E, hE⟩ : ∃ E, sbI p.e (bt.map TxnQ.e) = E := ⟨_, rfl⟩
 have HDE : Hid ((insF p.e ≠ 0 → D = insF p.e ∧ E = ine0) ∧ (insF p.e = 0 → p.has = true → D = 6 ∧ E = ine0) ∧ (insF p.e = 0 → p.has = false → batF (bt.map TxnQ.e) ≠ 0 → D = batF (bt.map TxnQ.e) ∧ E = ine0) ∧ (insF p.e = 0 → p.has = false → batF (bt.map TxnQ.e) = 0 → D = 0 ∧ E = ⟨true, bt.map TxnQ.e, p.e.rounds, p.dec⟩)) := by
  have hph : p.e.has = p.has := rfl
  refine ⟨fun h0 => ?_, fun h0 h1 => ?_, fun h0 h1 h2 => ?_, fun h0 h1 h2 => ?_⟩
  ·have e : D = insF p.e := by rw [← hD]; exact if_neg h0
   exact ⟨e, by rw [← hE]; exact if_neg (by rw [hD, e]; exact h0)⟩
  ·have e : D = 6 := by rw [← hD]; unfold sbC; rw [if_pos h0, hph, h1]; rfl
   exact ⟨e, by rw [← hE]; exact if_neg (by rw [hD, e]; decide)⟩
  ·have e : D = batF (bt.map TxnQ.e) := by rw [← hD]; unfold sbC; rw [if_pos h0, hph, h1]; rfl
   exact ⟨e, by rw [← hE]; exact if_neg (by rw [hD, e]; exact h2)⟩
  ·have e : D = 0 := by rw [← hD]; unfold sbC; rw [if_pos h0, hph, h1]; exact h2
   exact ⟨e, by rw [← hE]; exact if_pos (by rw [hD, e])⟩
 rw [hD, hE]
 clear hD hE
 generalize bdOf p = BD at *
 generalize insF p.e = C at *
 generalize p.e.rounds = rs at *
 generalize hds : bt.map TxnQ.e = dsn at *
 generalize hbf : batF dsn = BF at *
 clear hbf
 obtain ⟨has, vb, batch, vr, rounds, vd, dec⟩ := p
 obtain ⟨ba, bk, rfl⟩ : ∃ a c, vb = .slice a batch.length c := h.1.shape
 obtain ⟨va, vk, rfl⟩ : ∃ a c, vr = .slice a rounds.length c := h.2.1.shape
 obtain ⟨da, dk, rfl⟩ : ∃ a c, vd = .slice a dec.length c := h.2.2.shape
 obtain ⟨na, nk, rfl⟩ := hT.shape
 dsimp only at hbo hrb HBD HDE
 have hB : Below w.heap.size w ((w.alloc (.cells #[.bool has, .slice ba batch.length bk, .slice va rounds.length vk, .slice da dec.length dk] 28)).alloc (.cells #[.int .i64 0, .int .i64 0, .bool false, .bool false, .int .i64 0, .bool false, .slice none 0 0, .slice none 0 0, .slice none 0 0] 34)) := by go_grown
 have Rb := Blk.new (w.alloc (.cells #[.bool has, .slice ba batch.length bk, .slice va rounds.length vk, .slice da dec.length dk] 28)) 34 #[.int .i64 0, .int .i64 0, .bool false, .bool false, .int .i64 0, .bool false, .slice none 0 0, .slice none 0 0, .slice none 0 0]
 simp only [World.size_alloc] at Rb
 have hszB : (Tryz.prog.info? 96).map (·.size) = some BD.toArray.size := by rw [List.size_toArray, hl30]; exact sz_board
 have hold : (#[.int .i64 0, .int .i64 0, .int .i64 0, .int .i64 0, .int .i64 0, .int .i64 0, .int .i64 0, .int .i64 0, .int .i64 0, .int .i64 0, .int .i64 0, .int .i64 0, .int .i64 0, .int .i64 0, .int .i64 0, .int .i64 0, .int .i64 0, .int .i64 0, .int .i64 0, .int .i64 0, .int .i64 0, .int .i64 0, .int .i64 0, .int .i64 0, .int .i64 0, .bool false, .slice none 0 0, .int .i64 0, .int .i64 0, .int .i64 0] : Array Value).size = BD.toArray.size := (show 30 = BD.length from hl30.symm)
 go_enter Tryz.func12, Tryz.ntmps12
 go_wp2_with fail
 generalize ((w.alloc (.cells #[.bool has, .slice ba batch.length bk, .slice va rounds.length vk, .slice da dec.length dk] 28)).alloc (.cells #[.int .i64 0, .int .i64 0, .bool false, .bool false, .int .i64 0, .bool false, .slice none 0 0, .slice none 0 0, .slice none 0 0] 34)) = W at *
 refine (hbo W (hG.below hB) (hrb W hB)).mono ?_
 rintro e w1 ⟨rfl, hb1⟩
 replace hB := hB.trans (hb1.mono hB.size)
 replace Rb := Rb.below hb1
 have Bz := Blk.new w1 96 #[.int .i64 0, .int .i64 0, .int .i64 0, .int .i64 0, .int .i64 0, .int .i64 0, .int .i64 0, .int .i64 0, .int .i64 0, .int .i64 0, .int .i64 0, .int .i64 0, .int .i64 0, .int .i64 0, .int .i64 0, .int .i64 0, .int .i64 0, .int .i64 0, .int .i64 0, .int .i64 0, .int .i64 0, .int .i64 0, .int .i64 0, .int .i64 0, .int .i64 0, .bool false, .slice none 0 0, .int .i64 0, .int .i64 0, .int .i64 0]
 have hB2 := below_row (hB.alloc hB.size (.cells #[.int .i64 0, .int .i64 0, .int .i64 0, .int .i64 0, .int .i64 0, .int .i64 0, .int .i64 0, .int .i64 0, .int .i64 0, .int .i64 0, .int .i64 0, .int .i64 0, .int .i64 0, .int .i64 0, .int .i64 0, .int .i64 0, .int .i64 0, .int .i64 0, .int .i64 0, .int .i64 0, .int .i64 0, .int .i64 0, .int .i64 0, .int .i64 0, .int .i64 0, .bool false, .slice none 0 0, .int .i64 0, .int .i64 0, .int .i64 0] 96)) (g := w1.heap.size) hB.size BD.toArray
 have Rb2 : Blk ((w1.alloc (.cells #[.int .i64 0, .int .i64 0, .int .i64 0, .int .i64 0, .int .i64 0, .int .i64 0, .int .i64 0, .int .i64 0, .int .i64 0, .int .i64 0, .int .i64 0, .int .i64 0, .int .i64 0, .int .i64 0, .int .i64 0, .int .i64 0, .int .i64 0, .int .i64 0, .int .i64 0, .int .i64 0, .int .i64 0, .int .i64 0, .int .i64 0, .int .i64 0, .int .i64 0, .bool false, .slice none 0 0, .int .i64 0, .int .i64 0, .int .i64 0] 96)).setRow w1.heap.size BD.toArray) (w.heap.size + 1) 34 #[.int .i64 0, .int .i64 0, .bool false, .bool false, .int .i64 0, .bool false, .slice none 0 0, .slice none 0 0, .slice none 0 0] := (setRow_other _ _ _ _ (by have := Rb.lt; omega)).trans (Rb.below ((Below.refl _ _).alloc (Nat.le_refl _) _))
 have B2 := Bz.row BD.toArray
 have hlt2 := Rb.lt
 clear hbo hrb hb1 Rb
 by_cases h0 : C = 0
 case neg =>
  have E1 : Hid (D = C ∧ E = ine0) := HDE.out.1 h0
  have h0' : (C != 0) = true := by simpa using h0
  clear HDE HBD h0 B2 hba hin
  have Rr := Rb2.row #[.int .i64 C, .int .i64 0, .bool false, .bool false, .int .i64 0, .bool false, .slice none 0 0, .slice none 0 0, .slice none 0 0]
  have hBr := below_row hB2 (g := w.heap.size + 1) (by omega) #[.int .i64 C, .int .i64 0, .bool false, .bool false, .int .i64 0, .bool false, .slice none 0 0, .slice none 0 0, .slice none 0 0]
  have hsr : (Tryz.prog.info? 34).map (·.size) = some (#[.int .i64 C, .int .i64 0, .bool false, .bool false, .int .i64 0, .bool false, .slice none 0 0, .slice none 0 0, .slice none 0 0] : Array Value).size := sz_res
  go_wp2_with (first | (refine st_row (by kernel_rfl) 96 _ _ rfl _ BD.toArray rfl rfl 96 _ Bz hszB hold hone ?_) | (refine st_row (by kernel_rfl) 34 _ _ rfl _ #[.int .i64 C, .int .i64 0, .bool false, .bool false, .int .i64 0, .bool false, .slice none 0 0, .slice none 0 0, .slice none 0 0] rfl rfl 34 _ Rb2 hsr rfl (by simp [Value.oneCell']) ?_))
  have q0 := Rr.cell 0 _ rfl
  have q1 := Rr.cell 1 _ rfl
  have q2 := Rr.cell 2 _ rfl
  have q3 := Rr.cell 3 _ rfl
  have q4 := Rr.cell 4 _ rfl
  have q5 := Rr.cell 5 _ rfl
  have q6 := Rr.cell 6 _ rfl
  have q7 := Rr.cell 7 _ rfl
  have q8 := Rr.cell 8 _ rfl
  exact bodyPost_ret (v := .agg #[.int .i64 C, .int .i64 0, .bool false, .bool false, .int .i64 0, .bool false, .slice none 0 0, .slice none 0 0, .slice none 0 0]) (by simp [results, Tryz.results12, go_sem, q0, q1, q2, q3, q4, q5, q6, q7, q8]) rfl ⟨inst0, by rw [E1.out.1]; rfl, E1.out.2.symm, inst0_own _, inst0_nd, fun k hk => by rw [inst0_ft] at hk; simp at hk, hBr⟩

 case pos =>
  obtain ⟨hBD, hwel, h4, hd3⟩ := HBD.out h0
  have c25 : ((w1.alloc (.cells #[.int .i64 0, .int .i64 0, .int .i64 0, .int .i64 0, .int .i64 0, .int .i64 0, .int .i64 0, .int .i64 0, .int .i64 0, .int .i64 0, .int .i64 0, .int .i64 0, .int .i64 0, .int .i64 0, .int .i64 0, .int .i64 0, .int .i64 0, .int .i64 0, .int .i64 0, .int .i64 0, .int .i64 0, .int .i64 0, .int .i64 0, .int .i64 0, .int .i64 0, .bool false, .slice none 0 0, .int .i64 0, .int .i64 0, .int .i64 0] 96)).setRow w1.heap.size BD.toArray).cell? ⟨w1.heap.size, 25, none⟩ = some (.bool has) := B2.cell 25 _ (by rw [List.getElem?_toArray, hBD]; exact brd_has hwel h4)
  subst h0
  cases has with
  | true =>
   have E1 : Hid (D = 6 ∧ E = ine0) := HDE.out.2.1 rfl rfl
   clear HDE HBD B2 hba hin hBD
   have Rr := Rb2.row #[.int .i64 6, .int .i64 0, .bool false, .bool false, .int .i64 0, .bool false, .slice none 0 0, .slice none 0 0, .slice none 0 0]
   have hBr := below_row hB2 (g := w.heap.size + 1) (by omega) #[.int .i64 6, .int .i64 0, .bool false, .bool false, .int .i64 0, .bool false, .slice none 0 0, .slice none 0 0, .slice none 0 0]
   have hsr : (Tryz.prog.info? 34).map (·.size) = some (#[.int .i64 6, .int .i64 0, .bool false, .bool false, .int .i64 0, .bool false, .slice none 0 0, .slice none 0 0, .slice none 0 0] : Array Value).size := sz_res
   go_wp2_with (first | (refine st_row (by kernel_rfl) 96 _ _ rfl _ BD.toArray rfl rfl 96 _ Bz hszB hold hone ?_) | (refine st_row (by kernel_rfl) 34 _ _ rfl _ #[.int .i64 6, .int .i64 0, .bool false, .bool false, .int .i64 0, .bool false, .slice none 0 0, .slice none 0 0, .slice none 0 0] rfl rfl 34 _ Rb2 hsr rfl (by simp [Value.oneCell']) ?_))
   have q0 := Rr.cell 0 _ rfl
   have q1 := Rr.cell 1 _ rfl
   have q2 := Rr.cell 2 _ rfl
   have q3 := Rr.cell 3 _ rfl
   have q4 := Rr.cell 4 _ rfl
   have q5 := Rr.cell 5 _ rfl
   have q6 := Rr.cell 6 _ rfl
   have q7 := Rr.cell 7 _ rfl
   have q8 := Rr.cell 8 _ rfl
   exact bodyPost_ret (v := .agg #[.int .i64 6, .int .i64 0, .bool false, .bool false, .int .i64 0, .bool false, .slice none 0 0, .slice none 0 0, .slice none 0 0]) (by simp [results, Tryz.results12, go_sem, q0, q1, q2, q3, q4, q5, q6, q7, q8]) rfl ⟨inst0, by rw [E1.out.1]; rfl, E1.out.2.symm, inst0_own _, inst0_nd, fun k hk => by rw [inst0_ft] at hk; simp at hk, hBr⟩

  | false =>
   have E4 : Hid ((BF ≠ 0 → D = BF ∧ E = ine0) ∧ (BF = 0 → D = 0 ∧ E = ⟨true, dsn, rs, dec⟩)) := ⟨HDE.out.2.2.1 rfl rfl, HDE.out.2.2.2 rfl rfl⟩
   have HB9 : Hid (BD = brdC false (.slice ba batch.length bk) rs dec) := hBD
   have HD3 : Hid (dec.length = 3) := hd3
   clear HDE HBD hBD hd3
   go_wp2_with (first | (refine st_row (by kernel_rfl) 96 _ _ rfl _ BD.toArray rfl rfl 96 _ Bz hszB hold hone ?_))
   clear c25
   generalize ((w1.alloc (.cells #[.int .i64 0, .int .i64 0, .int .i64 0, .int .i64 0, .int .i64 0, .int .i64 0, .int .i64 0, .int .i64 0, .int .i64 0, .int .i64 0, .int .i64 0, .int .i64 0, .int .i64 0, .int .i64 0, .int .i64 0, .int .i64 0, .int .i64 0, .int .i64 0, .int .i64 0, .int .i64 0, .int .i64 0, .int .i64 0, .int .i64 0, .int .i64 0, .int .i64 0, .bool false, .slice none 0 0, .int .i64 0, .int .i64 0, .int .i64 0] 96)).setRow w1.heap.size BD.toArray) = X at *
   refine (hba X (hT.below hB2)).mono ?_
   rintro e w2 ⟨rfl, hb2⟩
   replace Rb2 := Rb2.below hb2
   replace B2 := B2.below hb2
   replace hB2 := hB2.trans (hb2.mono hB2.size)
   clear hb2 hba Bz
   by_cases hbf : BF = 0
   case neg =>
    have E1 : Hid (D = BF ∧ E = ine0) := E4.out.1 hbf
    have h0' : (BF != 0) = true := by simpa using hbf
    clear E4 hbf hin
    have Rr := Rb2.row #[.int .i64 BF, .int .i64 0, .bool false, .bool false, .int .i64 0, .bool false, .slice none 0 0, .slice none 0 0, .slice none 0 0]
    have hBr := below_row hB2 (g := w.heap.size + 1) (by omega) #[.int .i64 BF, .int .i64 0, .bool false, .bool false, .int .i64 0, .bool false, .slice none 0 0, .slice none 0 0, .slice none 0 0]
    have hsr : (Tryz.prog.info? 34).map (·.size) = some (#[.int .i64 BF, .int .i64 0, .bool false, .bool false, .int .i64 0, .bool false, .slice none 0 0, .slice none 0 0, .slice none 0 0] : Array Value).size := sz_res
    go_wp2_with (first | (refine st_row (by kernel_rfl) 34 _ _ rfl _ #[.int .i64 BF, .int .i64 0, .bool false, .bool false, .int .i64 0, .bool false, .slice none 0 0, .slice none 0 0, .slice none 0 0] rfl rfl 34 _ Rb2 hsr rfl (by simp [Value.oneCell']) ?_))
    have q0 := Rr.cell 0 _ rfl
    have q1 := Rr.cell 1 _ rfl
    have q2 := Rr.cell 2 _ rfl
    have q3 := Rr.cell 3 _ rfl
    have q4 := Rr.cell 4 _ rfl
    have q5 := Rr.cell 5 _ rfl
    have q6 := Rr.cell 6 _ rfl
    have q7 := Rr.cell 7 _ rfl
    have q8 := Rr.cell 8 _ rfl
    exact bodyPost_ret (v := .agg #[.int .i64 BF, .int .i64 0, .bool false, .bool false, .int .i64 0, .bool false, .slice none 0 0, .slice none 0 0, .slice none 0 0]) (by simp [results, Tryz.results12, go_sem, q0, q1, q2, q3, q4, q5, q6, q7, q8]) rfl ⟨inst0, by rw [E1.out.1]; rfl, E1.out.2.symm, inst0_own _, inst0_nd, fun k hk => by rw [inst0_ft] at hk; simp at hk, hBr⟩

   case pos =>
    have E1 : Hid (D = 0 ∧ E = ⟨true, dsn, rs, dec⟩) := E4.out.2 hbf
    subst hbf
    clear E4
    have X3 := (B2.set 25 (.bool true)).set 26 (.slice na bt.length nk)
    rw [HB9.out, brd_put hwel h4] at X3
    have X4 := rng X3 (brdC true (.slice na bt.length nk) rs dec) (o := 0) (fun j v hv => by rw [Nat.zero_add, List.getElem?_toArray]; exact hv)
    have hgs : w.heap.size + 2 ≤ w1.heap.size := by omega
    have hBg : Below w.heap.size w ((w2.setCell ⟨w1.heap.size, 25, none⟩ (.bool true)).setCell ⟨w1.heap.size, 26, none⟩ (.slice na bt.length nk)) := (hB2.setCell (p := ⟨w1.heap.size, 25, none⟩) (by show w.heap.size ≤ w1.heap.size; omega) _).setCell (p := ⟨w1.heap.size, 26, none⟩) (by show w.heap.size ≤ w1.heap.size; omega) _
    have R3 : Blk ((w2.setCell ⟨w1.heap.size, 25, none⟩ (.bool true)).setCell ⟨w1.heap.size, 26, none⟩ (.slice na bt.length nk)) (w.heap.size + 1) 34 #[.int .i64 0, .int .i64 0, .bool false, .bool false, .int .i64 0, .bool false, .slice none 0 0, .slice none 0 0, .slice none 0 0] := (Rb2.other (b' := w1.heap.size) (by omega) _ _).other (b' := w1.heap.size) (by omega) _ _
    have hs30 : (Tryz.prog.info? 96).map (·.size) = some (brdC true (.slice na bt.length nk) rs dec).length := by rw [brdC_length hwel h4 HD3.out]; exact sz_board
    have c25 : w2.cell? ⟨w1.heap.size, 25, none⟩ = some (.bool false) := B2.cell 25 _ (by rw [List.getElem?_toArray, HB9.out]; exact brd_has hwel h4)
    have c26 : w2.cell? ⟨w1.heap.size, 26, none⟩ = some (.slice ba batch.length bk) := B2.cell 26 _ (by rw [List.getElem?_toArray, HB9.out]; exact brd_bat hwel h4)
    have f25 := B2.frozen 25
    have f26 := B2.frozen 26
    clear B2 Rb2 HB9
    go_wp2_with (first | (refine ld_g (by kernel_rfl) 96 _ rfl _ _ rfl (brdC true (.slice na bt.length nk) rs dec) _ X4 Tryz.underlying96 rfl hs30 ?_))
    clear c25 c26 f25 f26 X4 X3 hs30
    generalize (w2.setCell ⟨w1.heap.size, 25, none⟩ (.bool true)).setCell ⟨w1.heap.size, 26, none⟩ (.slice na bt.length nk) = X5 at *
    refine (hin (by trivial) rs dec X5 (hT.below hBg) hwel h4 HD3.out).mono ?_
    rintro e w5 ⟨q, rfl, eq, oq, nq, gq, hb5⟩
    have R5 := R3.below hb5
    have hR5 := R3.lt
    have L5 : ∀ k ∈ instK.foot q, w.heap.size + 2 ≤ k := fun k hk => by have := gq k hk; omega
    replace hBg := hBg.trans (hb5.mono hBg.size)
    clear hin gq hb5 R3
    have hous : ∀ cs, instK.own (w5.setRow (w.heap.size + 1) cs) q := fun cs => instK.own_out oq (out_row w5 (w.heap.size + 1) cs) (fun k hk => by have := L5 k hk; simp only [List.mem_singleton]; omega)
    have HQ : Hid (q.e = E ∧ (instK.foot q).Nodup ∧ (∀ k ∈ instK.foot q, w.heap.size ≤ k) ∧ ∀ cs, instK.own (w5.setRow (w.heap.size + 1) cs) q) := ⟨by rw [eq, E1.out.2], nq, fun k hk => by have := L5 k hk; omega, hous⟩
    have HD0 : Hid (D = 0) := E1.out.1
    clear E1 eq nq hous L5
    obtain ⟨qh, qb, qbs, qr, qrs, qd, qds⟩ := q
    obtain ⟨s1, t1, rfl⟩ : ∃ a c, qb = .slice a qbs.length c := oq.1.shape
    obtain ⟨s2, t2, rfl⟩ : ∃ a c, qr = .slice a qrs.length c := oq.2.1.shape
    obtain ⟨s3, t3, rfl⟩ : ∃ a c, qd = .slice a qds.length c := oq.2.2.shape
    have Rr := R5.row #[.int .i64 0, .int .i64 0, .bool false, .bool false, .int .i64 0, .bool qh, .slice s1 qbs.length t1, .slice s2 qrs.length t2, .slice s3 qds.length t3]
    have hBr := below_row hBg (g := w.heap.size + 1) (by omega) #[.int .i64 0, .int .i64 0, .bool false, .bool false, .int .i64 0, .bool qh, .slice s1 qbs.length t1, .slice s2 qrs.length t2, .slice s3 qds.length t3]
    have hsr : (Tryz.prog.info? 34).map (·.size) = some (#[.int .i64 0, .int .i64 0, .bool false, .bool false, .int .i64 0, .bool qh, .slice s1 qbs.length t1, .slice s2 qrs.length t2, .slice s3 qds.length t3] : Array Value).size := sz_res
    clear oq
    go_wp2_with (first | (refine st_row (by kernel_rfl) 34 _ _ rfl _ #[.int .i64 0, .int .i64 0, .bool false, .bool false, .int .i64 0, .bool qh, .slice s1 qbs.length t1, .slice s2 qrs.length t2, .slice s3 qds.length t3] rfl rfl 34 _ R5 hsr rfl (by simp [Value.oneCell']) ?_))
    have q0 := Rr.cell 0 _ rfl
    have q1 := Rr.cell 1 _ rfl
    have q2 := Rr.cell 2 _ rfl
    have q3 := Rr.cell 3 _ rfl
    have q4 := Rr.cell 4 _ rfl
    have q5 := Rr.cell 5 _ rfl
    have q6 := Rr.cell 6 _ rfl
    have q7 := Rr.cell 7 _ rfl
    have q8 := Rr.cell 8 _ rfl
    exact bodyPost_ret (v := .agg #[.int .i64 0, .int .i64 0, .bool false, .bool false, .int .i64 0, .bool qh, .slice s1 qbs.length t1, .slice s2 qrs.length t2, .slice s3 qds.length t3]) (by simp [results, Tryz.results12, go_sem, q0, q1, q2, q3, q4, q5, q6, q7, q8]) rfl ⟨⟨qh, .slice s1 qbs.length t1, qbs, .slice s2 qrs.length t2, qrs, .slice s3 qds.length t3, qds⟩, by rw [HD0.out], HQ.out.1, HQ.out.2.2.2 _, HQ.out.2.1, HQ.out.2.2.1, hBr⟩

end Go.Proofs.YtmgkjcobdmdjmaaGreatDoor
namespace Go.Proofs.YtmgkjcobdmdjmaaGreatDoor
open Go.RowKit
set_option linter.unusedVariables false
set_option maxRecDepth 100000
set_option linter.unusedSimpArgs false
/-- The worlds of which p is so. -/
structure KeepP (p : World → Prop) where
 val : World
 isP : p val

section
variable {P : Program} {ops : Array Oper} {Q : Exit → Act → World → Prop} {S : World → Prop} {st : Nat}
/-- Whatever order is picked from here on, and behind every operation S holds, or st has come up. -/
def wpAnyX (P : Program) (ops : Array Oper) (Q : Exit → Act → World → Prop) (S : World → Prop) (st : Nat) : Nat → Array Bool → Act → World → Prop
 | 0, listed, a, w => Region.ready .any ops listed = [] ∧ Q .normal a w
 | fuel + 1, listed, a, w =>
  (Region.ready .any ops listed = [] → Q .normal a w) ∧
  ∀ i ∈ Region.ready .any ops listed, wpOp P ops Q i (fun a' w' => ((listed.setIfInBounds i true).getD st true = true ∨ S w') ∧ wpAnyX P ops Q S st fuel (listed.setIfInBounds i true) a' w') a w

theorem wpAny_of_X : ∀ (fuel : Nat) (listed : Array Bool) (a : Act) (w : World), wpAnyX P ops Q S st fuel listed a w → wpAny P .any ops Q fuel listed a w
 | 0, _, _, _, h => h
 | fuel + 1, _, _, _, h => ⟨h.1, fun i hi => wpOp_mono (fun a' w' h' => wpAny_of_X fuel _ a' w' h'.2) (h.2 i hi)⟩

/-- As OrdersHeld's 'wpAnyH_first': besides, st has not come up and waits for i. -/
theorem wpAnyX_first {i : Nat} {oi : Oper} {v : Value} (hi : ops[i]? = some oi) (hsel : ∀ (j : Nat) (o : Oper) cs b, ops[j]? = some o → o.op ≠ .select cs b)
  (hQ : ∀ c a w, Q (.panic c) (a.put oi.dst v) w → Q (.panic c) a w) (hist : i ≠ st) (hst : ∀ o, ops[st]? = some o → ∃ e ∈ o.after, Region.binds .any e = true ∧ e.on = i) :
  ∀ (fuel : Nat) (listed : Array Bool) (a : Act) (w : World),
   (∀ j oj, ops[j]? = some oj → j ≠ i → listed.getD j true = false → (∀ e ∈ oj.after, Region.binds .any e = true → e.on ≠ i) → oi.apart ops oj = true) →
   i ∈ Region.ready .any ops listed → YieldsIf P ops S oi v a → S w → listed.getD st true = false →
   wpAnyX P ops Q S st fuel (listed.setIfInBounds i true) (a.put oi.dst v) w → wpAnyX P ops Q S st (fuel + 1) listed a w := by
 intro fuel
 induction fuel with
 | zero =>
  intro listed a w _ hr hy hS hl H
  refine ⟨fun h => (by rw [h] at hr; cases hr), fun j hj => ?_⟩
  by_cases hji : j = i
  ·subst hji; exact hy.wpOp hi hS ⟨Or.inr hS, H⟩
  ·have := ready_mono hj hji
   rw [H.1] at this
   cases this
 | succ fuel ih =>
  intro listed a w hfree hr hy hS hl H
  refine ⟨fun h => (by rw [h] at hr; cases hr), fun j hj => ?_⟩
  by_cases hji : j = i
  ·subst hji; exact hy.wpOp hi hS ⟨Or.inr hS, H⟩
  ·have h1 := H.2 j (ready_mono hj hji)
   obtain ⟨hjun, oj, hoj, hall⟩ := mem_ready.1 hj
   have hnot : ∀ e ∈ oj.after, Region.binds .any e = true → e.on ≠ i := fun e he hb heq => by
    have h1 := hall e he hb
    have h0 := (mem_ready.1 hr).1
    rw [heq] at h1
    rcases Nat.lt_or_ge i listed.size with h' | h'
    ·simp [h'] at h0 h1; rw [h0] at h1; cases h1
    ·simp [Array.getElem?_eq_none h'] at h1
   have hjst : j ≠ st := by
    intro e
    subst e
    obtain ⟨e, he, hb, hon⟩ := hst oj hoj
    exact hnot e he hb hon
   have h2 := wpOp_putIf hoj (hfree j oj hoj hji hjun hnot) (fun cs b => hsel i oi cs b hi) (fun cs b => hsel j oj cs b hoj) hQ hy h1
   have hfree' : ∀ k ok, ops[k]? = some ok → k ≠ i → (listed.setIfInBounds j true).getD k true = false →
     (∀ e ∈ ok.after, Region.binds .any e = true → e.on ≠ i) → oi.apart ops ok = true := fun k ok hk hki hun hno => by
    refine hfree k ok hk hki ?_ hno
    by_cases hjk : j = k
    ·subst hjk; exact hjun
    ·rw [getD_set_ne true hjk] at hun; exact hun
   have hl' : (listed.setIfInBounds j true).getD st true = false := by rw [getD_set_ne true hjst]; exact hl
   refine wpOp_mono (fun a' w' h3 => ?_) h2
   have hS' : S w' := by
    rcases h3.2.1 with h4 | h4
    ·rw [getD_set_ne true hjst, getD_set_ne true hist, hl] at h4
     cases h4
    ·exact h4
   refine ⟨Or.inr hS', ih (listed.setIfInBounds j true) a' w' hfree' (ready_mono hr (Ne.symm hji)) h3.1 hS' hl' ?_⟩
   rw [Array.setIfInBounds_comm _ _ hji]
   exact h3.2.2

/-- A post whose word on a panic does not look at the temporaries. -/
def PanTo (Q : Exit → Act → World → Prop) (R : List PanicEntry → World → Prop) : Exit → Act → World → Prop
 | .panic c, a, w => a.defers = [] ∧ R c w
 | e, a, w => Q e a w

theorem put_defers_eq (a : Act) (d : Option Tmp) (v : Value) : (a.put d v).defers = a.defers := by cases d <;> rfl

theorem PanTo.put {R : List PanicEntry → World → Prop} : ∀ c (a : Act) (d : Option Tmp) (v : Value) w, PanTo Q R (.panic c) (a.put d v) w → PanTo Q R (.panic c) a w := fun c a d v w h => ⟨(put_defers_eq a d v) ▸ h.1, h.2⟩

variable {R : List PanicEntry → World → Prop}
theorem PanTo.imp (hR : ∀ c a w, a.defers = [] → R c w → Q (.panic c) a w) : ∀ (e : Exit) (a : Act) (w : World), PanTo Q R e a w → Q e a w := fun e a w h => by
 cases e <;> first | exact h | exact hR _ _ _ h.1 h.2

theorem beginX {id : Nat} {a : Act} {w : World} (st : Nat) (hm : P.follows .mixedOrders = true) (hR : ∀ c a w, a.defers = [] → R c w → Q (.panic c) a w)
  (h : wpAnyX P ops (PanTo Q R) S st ops.size (Array.replicate ops.size false) a w.drew) : (Code.region id ops true).wp P Q a w :=
 Code.wp_mono (PanTo.imp hR) (wp_region_any hm (wpAny_of_X _ _ _ _ h))

def waitsB (ops : Array Oper) (st i : Nat) : Bool := match ops[st]? with
 | some o => o.after.any (fun e => Region.binds .any e && e.on == i)
 | none => true

theorem waits_of {i : Nat} (h : waitsB ops st i = true) : ∀ o, ops[st]? = some o → ∃ e ∈ o.after, Region.binds .any e = true ∧ e.on = i := by
 intro o ho
 unfold waitsB at h
 rw [ho] at h
 obtain ⟨k, hk, _, _, hb⟩ := Array.any_iff_exists.1 h
 simp only [Bool.and_eq_true, beq_iff_eq] at hb
 exact ⟨o.after[k], Array.getElem_mem hk, hb⟩

def okSegX (ops : Array Oper) (st : Nat) : List Nat → Array Bool → Bool
 | [], _ => true
 | i :: r, l => Region.free .any ops l i && (Region.ready .any ops l).contains i && (i != st) && waitsB ops st i && !(l.getD st true) && okSegX ops st r (l.setIfInBounds i true)

theorem segX_sound (hs : Region.noSelect ops = true) :
  ∀ (idx : List Nat) (os : List Oper) (l : Array Bool) (a : Act) (w : World) (fuel : Nat), idx.map (ops[·]?) = os.map some → os.all (fun o => plainB o.op) = true → okSegX ops st idx l = true → S w →
   wpQuiet P ops S (fun a' => wpAnyX P ops (PanTo Q R) S st fuel (upTo idx l) a' w) os a → wpAnyX P ops (PanTo Q R) S st (fuel + idx.length) l a w := by
 intro idx
 induction idx with
 | nil =>
  intro os l a w fuel hos _ _ _ h
  cases os with
  | nil => exact h
  | cons o os => simp at hos
 | cons i r ih =>
  intro os l a w fuel hos hpl hok hS h
  cases os with
  | nil => simp at hos
  | cons o os =>
   simp only [List.map_cons, List.cons.injEq] at hos
   simp only [List.all_cons, Bool.and_eq_true] at hpl
   simp only [okSegX, Bool.and_eq_true, bne_iff_ne, ne_eq, Bool.not_eq_true'] at hok
   obtain ⟨⟨⟨⟨⟨hf, hr⟩, hne⟩, hwt⟩, hl⟩, hok'⟩ := hok
   simp only [wpQuiet] at h
   by_cases hw : Region.wanted o (yielded ops a.tmps) = true
   ·rw [if_pos hw] at h
    obtain ⟨v, hv, hk⟩ := h
    refine wpAnyX_first (i := i) (oi := o) (v := v) hos.1 (Region.noSelect_spec hs) (fun c a w h => PanTo.put c a _ _ w h) hne (waits_of hwt) _ l a w (Region.free_spec hos.1 hf) (by simpa using hr) (Or.inl ⟨hw, fun u hu => ?_⟩) hS hl (ih os _ _ w fuel hos.2 hpl.2 hok' hS hk)
    have hq := hv u hu
    unfold Oper.quietAt at hq
    cases hrun : (execOp a.eval o).run P u with
    | ok n u' =>
     obtain ⟨x, rfl⟩ := plain_value hpl.1 hrun
     rw [hrun] at hq
     obtain ⟨e1, e2⟩ := hq
     rw [e1, e2]
    | halt x u' =>
     rw [hrun] at hq
     exact hq.elim
   ·rw [if_neg hw] at h
    have hw' : Region.wanted o (yielded ops a.tmps) = false := by simpa using hw
    exact wpAnyX_first (i := i) (oi := o) (v := undef) hos.1 (Region.noSelect_spec hs) (fun c a w h => PanTo.put c a _ _ w h) hne (waits_of hwt) _ l a w (Region.free_spec hos.1 hf) (by simpa using hr) (Or.inr ⟨hw', rfl⟩) hS hl (ih os _ _ w fuel hos.2 hpl.2 hok' hS h)

theorem segX (rs : List (Nat × Nat)) (fuel : Nat) {F : Nat} {l : Array Bool} {a : Act} {w : World} (hF : F = fuel + (idxR rs).length) (hs : Region.noSelect ops = true) (hm : (idxR rs).map (ops[·]?) = (pickR ops.toList rs).map some)
  (hp : (pickR ops.toList rs).all (fun o => plainB o.op) = true) (hok : okSegX ops st (idxR rs) l = true) (hS : S w)
  (h : wpQuiet P ops S (fun a' => wpAnyX P ops (PanTo Q R) S st fuel (upTo (idxR rs) l) a' w) (pickR ops.toList rs) a) : wpAnyX P ops (PanTo Q R) S st F l a w := by
 subst hF
 exact segX_sound hs (idxR rs) _ l a w fuel hm hp hok hS h

/-- A call that alone may come up: it returns, or it panics. -/
theorem callX (i : Nat) (d : Option Tmp) (f : Nat) (args : Array Value) (fuel : Nat) {F : Nat} {l : Array Bool} {a : Act} {w : World} (hF : F = fuel + 1)
  (hd : (ops[i]?).map (·.dst) = some d) (hr : Region.ready .any ops l = [i]) (hw : (ops[i]?).map (fun o => Region.wanted o (yielded ops a.tmps)) = some true)
  (hrun : (ops[i]?).map (fun o => (execOp a.eval o).run P w) = some (.ok (.enter f args) w))
  (hdf : a.defers = []) (hc : Calls P f args w (fun e w' => (∃ v, e = .returned v ∧ S w' ∧ wpAnyX P ops (PanTo Q R) S st fuel (upTo [i] l) (a.put d v) w') ∨ ∃ c, e = .panicked c ∧ R c w')) : wpAnyX P ops (PanTo Q R) S st F l a w := by
 subst hF
 cases ho : ops[i]? with
 | none => rw [ho] at hd; simp at hd
 | some o =>
  rw [ho] at hd hw hrun
  simp only [Option.map_some, Option.some.injEq] at hd hw hrun
  subst hd
  refine ⟨fun h0 => (by rw [hr] at h0; cases h0), fun j hj => ?_⟩
  rw [hr] at hj
  simp only [List.mem_singleton] at hj
  subst hj
  unfold wpOp
  simp only [ho, hw, if_true]
  refine .inl ?_
  unfold Oper.wp
  rw [hrun]
  simp only [Oper.upon]
  refine hc.mono fun e w' he => ?_
  rcases he with ⟨v, rfl, h1, h2⟩ | ⟨c, rfl, h1⟩
  ·exact ⟨Or.inr h1, h2⟩
  ·exact ⟨hdf, h1⟩

def ThenX (Q : Exit → Act → World → Prop) (R : List PanicEntry → World → Prop) (K : Act → World → Prop) : Exit → Act → World → Prop
 | .normal, a, w => K a w
 | e, a, w => PanTo Q R e a w

theorem ThenX.to {K : Act → World → Prop} {a : Act} {w : World} (h : K a w) : ThenX Q R K .normal a w := h

theorem oneX (i : Nat) (o : Oper) (fuel : Nat) {F : Nat} {l : Array Bool} {a : Act} {w : World} (hF : F = fuel + 1) (ho : ops[i]? = some o) (hr : Region.ready .any ops l = [i])
  (h : wpList P ops (ThenX Q R (fun a' w' => ((upTo [i] l).getD st true = true ∨ S w') ∧ wpAnyX P ops (PanTo Q R) S st fuel (upTo [i] l) a' w')) [o] a w) : wpAnyX P ops (PanTo Q R) S st F l a w := by
 subst hF
 refine ⟨fun h0 => (by rw [hr] at h0; cases h0), fun j hj => ?_⟩
 rw [hr] at hj
 simp only [List.mem_singleton] at hj
 subst hj
 unfold wpOp
 simp only [ho]
 simp only [wpList] at h
 split at h
 ·rename_i hw
  rw [if_pos hw]
  rcases h with h | ⟨h1, h2⟩
  ·left
   unfold Oper.wp at h ⊢
   revert h
   generalize (execOp a.eval o).run P w = r
   intro h
   unfold Oper.upon at h ⊢
   split at h
   ·exact h
   ·exact h
   ·exact h
   ·refine Calls.mono h fun e w' he => ?_
    cases e <;> exact he
   ·exact h
   ·exact h
   ·exact h
  ·exact Or.inr ⟨h1, h2⟩
 ·rename_i hw
  rw [if_neg hw]
  exact h

theorem endX {F : Nat} {l : Array Bool} {a : Act} {w : World} (hr : Region.ready .any ops l = []) (h : Q .normal a w) : wpAnyX P ops (PanTo Q R) S st F l a w := by
 cases F with
 | zero => exact ⟨hr, h⟩
 | succ F => exact ⟨fun _ => h, by rw [hr]; simp⟩

end
end Go.Proofs.YtmgkjcobdmdjmaaGreatDoor
namespace Go.Proofs.YtmgkjcobdmdjmaaGreatDoor
open Go.RowKit
open Go.BigFrame
set_option linter.unusedVariables false
set_option maxRecDepth 100000
set_option linter.unusedSimpArgs false
set_option maxHeartbeats 8000000 in
theorem l6Copy_any (p : InstQ) (w : World) (h : instK.rd w p) (hl : p.n ≤ 1048576) (hne : ∀ t ∈ p.batch, 0 < t.acts.length) (hro : ∀ r ∈ p.rounds, 0 < r.rep.length ∧ 0 < r.pro.length) (hd0 : 0 < p.dec.length) :
  Calls Tryz.prog 96 #[.agg #[.bool p.has, p.vb, p.vr, p.vd]] w fun e w' => ∃ q : InstQ, e = .returned (.agg #[.bool q.has, q.vb, q.vr, q.vd]) ∧ q.e = p.e ∧ instK.own w' q ∧ (instK.foot q).Nodup ∧ (∀ k ∈ instK.foot q, w.heap.size ≤ k) ∧ Below w.heap.size w w' := by
 obtain ⟨has, vb, batch, vr, rounds, vd, dec⟩ := p
 obtain ⟨h1, h2, h3⟩ : txnK.At w vb batch ∧ roundK.At w vr rounds ∧ intK.At w vd dec := h
 obtain ⟨ba, bk, rfl⟩ := h1.shape
 obtain ⟨va, vk, rfl⟩ := h2.shape
 obtain ⟨da, dk, rfl⟩ := h3.shape
 dsimp only [InstQ.n] at hl hne hro hd0
 have hc1 := fun w (hT : txnK.At w (.slice ba batch.length bk) batch) => l2CopyAll_any _ batch w hT hne (by omega)
 have hc3 := fun w (hT : intK.At w (.slice da dec.length dk) dec) => l1Ints_any _ dec w hT hd0 (by omega)
 have hB : Below w.heap.size w ((w.alloc (.cells #[.bool has, .slice ba batch.length bk, .slice va rounds.length vk, .slice da dec.length dk] 28)).alloc (.cells #[.bool false, .slice none 0 0, .slice none 0 0, .slice none 0 0] 28)) := by go_grown
 have Bx := Blk.new w 28 #[.bool has, .slice ba batch.length bk, .slice va rounds.length vk, .slice da dec.length dk]
 have hbb : Below (w.alloc (.cells #[.bool has, .slice ba batch.length bk, .slice va rounds.length vk, .slice da dec.length dk] 28)).heap.size (w.alloc (.cells #[.bool has, .slice ba batch.length bk, .slice va rounds.length vk, .slice da dec.length dk] 28)) ((w.alloc (.cells #[.bool has, .slice ba batch.length bk, .slice va rounds.length vk, .slice da dec.length dk] 28)).alloc (.cells #[.bool false, .slice none 0 0, .slice none 0 0, .slice none 0 0] 28)) := by go_grown
 have Rb := Blk.new (w.alloc (.cells #[.bool has, .slice ba batch.length bk, .slice va rounds.length vk, .slice da dec.length dk] 28)) 28 #[.bool false, .slice none 0 0, .slice none 0 0, .slice none 0 0]
 rw [World.size_alloc] at Rb
 replace Bx := Bx.below hbb
 clear hbb
 have hws : w.heap.size + 2 ≤ ((w.alloc (.cells #[.bool has, .slice ba batch.length bk, .slice va rounds.length vk, .slice da dec.length dk] 28)).alloc (.cells #[.bool false, .slice none 0 0, .slice none 0 0, .slice none 0 0] 28)).heap.size := by simp
 go_enter Tryz.func96, Tryz.ntmps96
 go_wp2_with fail
 generalize ((w.alloc (.cells #[.bool has, .slice ba batch.length bk, .slice va rounds.length vk, .slice da dec.length dk] 28)).alloc (.cells #[.bool false, .slice none 0 0, .slice none 0 0, .slice none 0 0] 28)) = W at *
 refine region_vals [some 5, some 6, some 7, some 8, some 9, some 10, some 11, some 12, some 13, some 3] (fun vs w' => ∃ (s1 : Option Addr) (t1 : Nat) (q1 : List TxnQ) (a3 : Option Addr) (c3 g : Nat), vs = [.pointer (some ⟨w.heap.size, 0, none⟩), .bool has, .pointer (some ⟨w.heap.size, 1, none⟩), .slice ba batch.length bk, .slice s1 q1.length t1, .pointer (some ⟨w.heap.size, 3, none⟩), .slice da dec.length dk, .slice a3 dec.length c3, .agg #[.bool has, .slice s1 q1.length t1, .slice none 0 0, .slice a3 dec.length c3], .pointer (some ⟨g, 0, none⟩)] ∧ W.heap.size ≤ g ∧ Blk w' g 28 #[.bool has, .slice s1 q1.length t1, .slice none 0 0, .slice a3 dec.length c3] ∧ q1.map TxnQ.e = batch.map TxnQ.e ∧ txnK.Own w' (.slice s1 q1.length t1) q1 ∧ (txnK.fp (.slice s1 q1.length t1) q1).Nodup ∧ (∀ k ∈ txnK.fp (.slice s1 q1.length t1) q1, W.heap.size ≤ k) ∧ (∀ k ∈ txnK.fp (.slice s1 q1.length t1) q1, k ≠ g) ∧ intK.Own w' (.slice a3 dec.length c3) dec ∧ (∀ k ∈ intK.fp (.slice a3 dec.length c3) dec, W.heap.size ≤ k) ∧ (∀ k ∈ intK.fp (.slice a3 dec.length c3) dec, k ≠ g) ∧ (∀ x ∈ txnK.fp (.slice s1 q1.length t1) q1, ∀ y ∈ intK.fp (.slice a3 dec.length c3) dec, x ≠ y) ∧ Below W.heap.size W w') ?_ ?_
 ·have hW : Below W.heap.size W W.drew := (Below.refl _ _).drew
  have hnn : Nonempty (Lat W) := ⟨⟨W, Below.refl _ _⟩⟩
  have p0 := Bx.lat 0 _ rfl
  have p1 := Bx.lat 1 _ rfl
  have p3 := Bx.lat 3 _ rfl
  refine text_begin (S := fun w' => ∃ u : Lat W, w' = u.val) (by kernel_rfl) ?_
  refine seg_range [(0, 4), (5, 2)] 5 (by kernel_rfl) (by kernel_rfl) (by kernel_rfl) (by kernel_rfl) (by kernel_rfl) ⟨⟨_, hW⟩, rfl⟩ ?_
  simp only [pickR, List.toList_toArray, List.flatMap_cons, List.flatMap_nil, List.drop_succ_cons, List.drop_zero, List.take_succ_cons, List.take_zero, List.cons_append, List.nil_append, List.append_nil]
  repeat go_big_quiet_step (fail)
  refine wpQuiet_nil ?_
  clear p0 p1 p3
  generalize W.drew = wd at hW ⊢
  refine two_at 4 9 4 (by kernel_rfl) (by kernel_rfl) ?_ ?_
  ·skip
   refine op_call 4 (some 9) 143 #[.slice ba batch.length bk] (by kernel_rfl) (by kernel_rfl) (by kernel_rfl) ?_
   refine (hc1 _ (h1.below (hB.trans (hW.mono hB.size)))).mono ?_
   rintro e x0 ⟨v1, q1, rfl, e1, o1, n1, g1, hb⟩
   obtain ⟨s1, t1, rfl⟩ := o1.shape
   have L1 : ∀ k ∈ txnK.fp (.slice s1 q1.length t1) q1, W.heap.size ≤ k := fun k hk => by have := g1 k hk; have := hW.size; omega
   clear g1
   replace hW := hW.trans (hb.mono hW.size)
   clear hb
   refine ⟨_, rfl, ⟨⟨_, hW⟩, rfl⟩, ?_⟩
   simp only [Act.put, List.getElem_toArray, List.getElem_cons_succ, List.getElem_cons_zero, List.setIfInBounds_toArray, List.set_cons_zero, List.set_cons_succ]
   refine two_at 7 9 3 (by kernel_rfl) (by kernel_rfl) ?_ ?_
   ·skip
    refine op_call 7 (some 12) 156 #[.slice da dec.length dk] (by kernel_rfl) (by kernel_rfl) (by kernel_rfl) ?_
    refine (hc3 _ (h3.below (hB.trans (hW.mono hB.size)))).mono ?_
    rintro e x1 ⟨a3, c3, rfl, o3, g3, hb⟩
    have L3 : ∀ k ∈ intK.fp (.slice a3 dec.length c3) dec, W.heap.size ≤ k := fun k hk => by have := g3 k hk; have := hW.size; omega
    have D13 : ∀ x ∈ txnK.fp (.slice s1 q1.length t1) q1, ∀ y ∈ intK.fp (.slice a3 dec.length c3) dec, x ≠ y := fun x hx y hy e => by have := o1.lt x hx; have := g3 y hy; omega
    replace o1 := o1.below hb
    clear g3
    replace hW := hW.trans (hb.mono hW.size)
    clear hb
    refine ⟨_, rfl, ⟨⟨_, hW⟩, rfl⟩, ?_⟩
    simp only [Act.put, List.getElem_toArray, List.getElem_cons_succ, List.getElem_cons_zero, List.setIfInBounds_toArray, List.set_cons_zero, List.set_cons_succ]
    refine quiet_at 8 (some 13) (.agg #[.bool has, .slice s1 q1.length t1, .slice none 0 0, .slice a3 dec.length c3]) 2 (by kernel_rfl) (by kernel_rfl) (by kernel_rfl) (by kernel_rfl) (by kernel_rfl) (fun u _ => by kernel_rfl) ⟨⟨_, hW⟩, rfl⟩ ?_
    simp only [Act.put, List.getElem_toArray, List.getElem_cons_succ, List.getElem_cons_zero, List.setIfInBounds_toArray, List.set_cons_zero, List.set_cons_succ]
    refine one_at 9 _ 1 (by kernel_rfl) rfl (by kernel_rfl) ?_
    have Bz := Blk.new x1 28 #[.bool false, .slice none 0 0, .slice none 0 0, .slice none 0 0]
    have hzz : W.heap.size ≤ x1.heap.size := hW.size
    have N1 : ∀ k ∈ txnK.fp (.slice s1 q1.length t1) q1, k ≠ x1.heap.size := fun k hk e => by have := o1.lt k hk; omega
    have N3 : ∀ k ∈ intK.fp (.slice a3 dec.length c3) dec, k ≠ x1.heap.size := fun k hk e => by have := o3.lt k hk; omega
    have hba : Below x1.heap.size x1 (x1.alloc (.cells #[.bool false, .slice none 0 0, .slice none 0 0, .slice none 0 0] 28)) := by go_grown
    replace o1 := o1.below hba
    replace o3 := o3.below hba
    replace hW := hW.trans (hba.mono hW.size)
    clear hba
    go_wp2
    refine ThenGo.to ⟨⟨⟨_, hW⟩, rfl⟩, ?_⟩
    generalize hG2 : x1.heap.size = g at *
    clear hG2
    generalize x1.alloc (.cells #[.bool false, .slice none 0 0, .slice none 0 0, .slice none 0 0] 28) = Y2 at *
    refine one_at 10 _ 0 (by kernel_rfl) rfl (by kernel_rfl) ?_
    have hou := out_row Y2 g #[.bool has, .slice s1 q1.length t1, .slice none 0 0, .slice a3 dec.length c3]
    have hgW : W.heap.size ≤ g := by omega
    have Rz := Bz.row #[.bool has, .slice s1 q1.length t1, .slice none 0 0, .slice a3 dec.length c3]
    replace hW := below_row hW hgW #[.bool has, .slice s1 q1.length t1, .slice none 0 0, .slice a3 dec.length c3]
    replace o1 := o1.out hou (fun k hk => by simp only [List.mem_singleton]; exact N1 k hk)
    replace o3 := o3.out hou (fun k hk => by simp only [List.mem_singleton]; exact N3 k hk)
    refine st_row (by kernel_rfl) 28 _ _ rfl _ #[.bool has, .slice s1 q1.length t1, .slice none 0 0, .slice a3 dec.length c3] rfl rfl 28 _ Bz sz_inst rfl (by simp [Value.oneCell']) ?_
    refine ThenGo.to ⟨⟨⟨_, hW⟩, rfl⟩, ?_⟩
    refine text_end (by kernel_rfl) ?_
    refine ⟨rfl, _, ⟨s1, t1, q1, a3, c3, g, rfl, hgW, Rz, e1, o1, n1, L1, N1, o3, L3, N3, D13, hW⟩, ?_⟩
    simp only [putAll, Act.put, List.getElem_toArray, List.getElem_cons_succ, List.getElem_cons_zero, List.setIfInBounds_toArray, List.set_cons_zero, List.set_cons_succ]
    try rfl
   ·skip
    refine op_one 9 _ rfl ?_
    have Bz := Blk.new x0 28 #[.bool false, .slice none 0 0, .slice none 0 0, .slice none 0 0]
    have hzz : W.heap.size ≤ x0.heap.size := hW.size
    have N1 : ∀ k ∈ txnK.fp (.slice s1 q1.length t1) q1, k ≠ x0.heap.size := fun k hk e => by have := o1.lt k hk; omega
    have hba : Below x0.heap.size x0 (x0.alloc (.cells #[.bool false, .slice none 0 0, .slice none 0 0, .slice none 0 0] 28)) := by go_grown
    replace o1 := o1.below hba
    replace hW := hW.trans (hba.mono hW.size)
    clear hba
    go_wp2
    refine ThenGo.to ⟨⟨⟨_, hW⟩, rfl⟩, ?_⟩
    generalize hG1 : x0.heap.size = g at *
    clear hG1
    generalize x0.alloc (.cells #[.bool false, .slice none 0 0, .slice none 0 0, .slice none 0 0] 28) = Y1 at *
    refine call_at 7 (some 12) 156 #[.slice da dec.length dk] 2 (by kernel_rfl) (by kernel_rfl) (by kernel_rfl) (by kernel_rfl) (by kernel_rfl) ?_
    refine (hc3 _ (h3.below (hB.trans (hW.mono hB.size)))).mono ?_
    rintro e x2 ⟨a3, c3, rfl, o3, g3, hb⟩
    have L3 : ∀ k ∈ intK.fp (.slice a3 dec.length c3) dec, W.heap.size ≤ k := fun k hk => by have := g3 k hk; have := hW.size; omega
    have D13 : ∀ x ∈ txnK.fp (.slice s1 q1.length t1) q1, ∀ y ∈ intK.fp (.slice a3 dec.length c3) dec, x ≠ y := fun x hx y hy e => by have := o1.lt x hx; have := g3 y hy; omega
    have N3 : ∀ k ∈ intK.fp (.slice a3 dec.length c3) dec, k ≠ g := fun k hk e => by have := g3 k hk; have := Bz.lt; omega
    replace Bz := Bz.below hb
    replace o1 := o1.below hb
    clear g3
    replace hW := hW.trans (hb.mono hW.size)
    clear hb
    refine ⟨_, rfl, ⟨⟨_, hW⟩, rfl⟩, ?_⟩
    simp only [Act.put, List.getElem_toArray, List.getElem_cons_succ, List.getElem_cons_zero, List.setIfInBounds_toArray, List.set_cons_zero, List.set_cons_succ]
    refine quiet_at 8 (some 13) (.agg #[.bool has, .slice s1 q1.length t1, .slice none 0 0, .slice a3 dec.length c3]) 1 (by kernel_rfl) (by kernel_rfl) (by kernel_rfl) (by kernel_rfl) (by kernel_rfl) (fun u _ => by kernel_rfl) ⟨⟨_, hW⟩, rfl⟩ ?_
    simp only [Act.put, List.getElem_toArray, List.getElem_cons_succ, List.getElem_cons_zero, List.setIfInBounds_toArray, List.set_cons_zero, List.set_cons_succ]
    refine one_at 10 _ 0 (by kernel_rfl) rfl (by kernel_rfl) ?_
    have hou := out_row x2 g #[.bool has, .slice s1 q1.length t1, .slice none 0 0, .slice a3 dec.length c3]
    have hgW : W.heap.size ≤ g := by omega
    have Rz := Bz.row #[.bool has, .slice s1 q1.length t1, .slice none 0 0, .slice a3 dec.length c3]
    replace hW := below_row hW hgW #[.bool has, .slice s1 q1.length t1, .slice none 0 0, .slice a3 dec.length c3]
    replace o1 := o1.out hou (fun k hk => by simp only [List.mem_singleton]; exact N1 k hk)
    replace o3 := o3.out hou (fun k hk => by simp only [List.mem_singleton]; exact N3 k hk)
    refine st_row (by kernel_rfl) 28 _ _ rfl _ #[.bool has, .slice s1 q1.length t1, .slice none 0 0, .slice a3 dec.length c3] rfl rfl 28 _ Bz sz_inst rfl (by simp [Value.oneCell']) ?_
    refine ThenGo.to ⟨⟨⟨_, hW⟩, rfl⟩, ?_⟩
    refine text_end (by kernel_rfl) ?_
    refine ⟨rfl, _, ⟨s1, t1, q1, a3, c3, g, rfl, hgW, Rz, e1, o1, n1, L1, N1, o3, L3, N3, D13, hW⟩, ?_⟩
    simp only [putAll, Act.put, List.getElem_toArray, List.getElem_cons_succ, List.getElem_cons_zero, List.setIfInBounds_toArray, List.set_cons_zero, List.set_cons_succ]
    try rfl
  ·skip
   refine op_one 9 _ rfl ?_
   have Bz := Blk.new wd 28 #[.bool false, .slice none 0 0, .slice none 0 0, .slice none 0 0]
   have hzz : W.heap.size ≤ wd.heap.size := hW.size
   have hba : Below wd.heap.size wd (wd.alloc (.cells #[.bool false, .slice none 0 0, .slice none 0 0, .slice none 0 0] 28)) := by go_grown
   replace hW := hW.trans (hba.mono hW.size)
   clear hba
   go_wp2
   refine ThenGo.to ⟨⟨⟨_, hW⟩, rfl⟩, ?_⟩
   generalize hG0 : wd.heap.size = g at *
   clear hG0
   generalize wd.alloc (.cells #[.bool false, .slice none 0 0, .slice none 0 0, .slice none 0 0] 28) = Y0 at *
   refine call_at 4 (some 9) 143 #[.slice ba batch.length bk] 3 (by kernel_rfl) (by kernel_rfl) (by kernel_rfl) (by kernel_rfl) (by kernel_rfl) ?_
   refine (hc1 _ (h1.below (hB.trans (hW.mono hB.size)))).mono ?_
   rintro e x1 ⟨v1, q1, rfl, e1, o1, n1, g1, hb⟩
   obtain ⟨s1, t1, rfl⟩ := o1.shape
   have L1 : ∀ k ∈ txnK.fp (.slice s1 q1.length t1) q1, W.heap.size ≤ k := fun k hk => by have := g1 k hk; have := hW.size; omega
   have N1 : ∀ k ∈ txnK.fp (.slice s1 q1.length t1) q1, k ≠ g := fun k hk e => by have := g1 k hk; have := Bz.lt; omega
   replace Bz := Bz.below hb
   clear g1
   replace hW := hW.trans (hb.mono hW.size)
   clear hb
   refine ⟨_, rfl, ⟨⟨_, hW⟩, rfl⟩, ?_⟩
   simp only [Act.put, List.getElem_toArray, List.getElem_cons_succ, List.getElem_cons_zero, List.setIfInBounds_toArray, List.set_cons_zero, List.set_cons_succ]
   refine call_at 7 (some 12) 156 #[.slice da dec.length dk] 2 (by kernel_rfl) (by kernel_rfl) (by kernel_rfl) (by kernel_rfl) (by kernel_rfl) ?_
   refine (hc3 _ (h3.below (hB.trans (hW.mono hB.size)))).mono ?_
   rintro e x2 ⟨a3, c3, rfl, o3, g3, hb⟩
   have L3 : ∀ k ∈ intK.fp (.slice a3 dec.length c3) dec, W.heap.size ≤ k := fun k hk => by have := g3 k hk; have := hW.size; omega
   have D13 : ∀ x ∈ txnK.fp (.slice s1 q1.length t1) q1, ∀ y ∈ intK.fp (.slice a3 dec.length c3) dec, x ≠ y := fun x hx y hy e => by have := o1.lt x hx; have := g3 y hy; omega
   have N3 : ∀ k ∈ intK.fp (.slice a3 dec.length c3) dec, k ≠ g := fun k hk e => by have := g3 k hk; have := Bz.lt; omega
   replace Bz := Bz.below hb
   replace o1 := o1.below hb
   clear g3
   replace hW := hW.trans (hb.mono hW.size)
   clear hb
   refine ⟨_, rfl, ⟨⟨_, hW⟩, rfl⟩, ?_⟩
   simp only [Act.put, List.getElem_toArray, List.getElem_cons_succ, List.getElem_cons_zero, List.setIfInBounds_toArray, List.set_cons_zero, List.set_cons_succ]
   refine quiet_at 8 (some 13) (.agg #[.bool has, .slice s1 q1.length t1, .slice none 0 0, .slice a3 dec.length c3]) 1 (by kernel_rfl) (by kernel_rfl) (by kernel_rfl) (by kernel_rfl) (by kernel_rfl) (fun u _ => by kernel_rfl) ⟨⟨_, hW⟩, rfl⟩ ?_
   simp only [Act.put, List.getElem_toArray, List.getElem_cons_succ, List.getElem_cons_zero, List.setIfInBounds_toArray, List.set_cons_zero, List.set_cons_succ]
   refine one_at 10 _ 0 (by kernel_rfl) rfl (by kernel_rfl) ?_
   have hou := out_row x2 g #[.bool has, .slice s1 q1.length t1, .slice none 0 0, .slice a3 dec.length c3]
   have hgW : W.heap.size ≤ g := by omega
   have Rz := Bz.row #[.bool has, .slice s1 q1.length t1, .slice none 0 0, .slice a3 dec.length c3]
   replace hW := below_row hW hgW #[.bool has, .slice s1 q1.length t1, .slice none 0 0, .slice a3 dec.length c3]
   replace o1 := o1.out hou (fun k hk => by simp only [List.mem_singleton]; exact N1 k hk)
   replace o3 := o3.out hou (fun k hk => by simp only [List.mem_singleton]; exact N3 k hk)
   refine st_row (by kernel_rfl) 28 _ _ rfl _ #[.bool has, .slice s1 q1.length t1, .slice none 0 0, .slice a3 dec.length c3] rfl rfl 28 _ Bz sz_inst rfl (by simp [Value.oneCell']) ?_
   refine ThenGo.to ⟨⟨⟨_, hW⟩, rfl⟩, ?_⟩
   refine text_end (by kernel_rfl) ?_
   refine ⟨rfl, _, ⟨s1, t1, q1, a3, c3, g, rfl, hgW, Rz, e1, o1, n1, L1, N1, o3, L3, N3, D13, hW⟩, ?_⟩
   simp only [putAll, Act.put, List.getElem_toArray, List.getElem_cons_succ, List.getElem_cons_zero, List.setIfInBounds_toArray, List.set_cons_zero, List.set_cons_succ]
   try rfl
 rintro vs X ⟨s1, t1, q1, a3, c3, g, rfl, hg, Bg, e1, o1, n1, L1, N1, o3, L3, N3, D13, hX⟩
 simp only [putAll, Act.put, List.setIfInBounds_toArray, List.set_cons_zero, List.set_cons_succ]
 have hBX : Below w.heap.size w X := hB.trans (hX.mono hB.size)
 have RbX := Rb.below hX
 have BxX := Bx.below hX
 have h2X := h2
 have hgX := Bg.lt
 have hXs := hX.size
 obtain ⟨i0, hi, hz0, hz1, hz2⟩ := info_parts infoRound
 obtain ⟨hn1, hn2⟩ := Kind.own_nil (K := roundK) X
 have HN0 : Hid ((roundK.fp (.slice none 0 0) ([] : List RoundQ)).Nodup ∧ ∀ k ∈ roundK.fp (.slice none 0 0) ([] : List RoundQ), X.heap.size ≤ k) := by
  rw [hn2]
  exact ⟨by simp, by simp⟩
 have HQ1 : Hid (q1.map TxnQ.e = batch.map TxnQ.e ∧ txnK.Own X (.slice s1 q1.length t1) q1 ∧ (txnK.fp (.slice s1 q1.length t1) q1).Nodup ∧ (∀ k ∈ txnK.fp (.slice s1 q1.length t1) q1, W.heap.size ≤ k) ∧ (∀ k ∈ txnK.fp (.slice s1 q1.length t1) q1, k ≠ g) ∧ intK.Own X (.slice a3 dec.length c3) dec ∧ (∀ k ∈ intK.fp (.slice a3 dec.length c3) dec, W.heap.size ≤ k) ∧ (∀ k ∈ intK.fp (.slice a3 dec.length c3) dec, k ≠ g) ∧ (∀ x ∈ txnK.fp (.slice s1 q1.length t1) q1, ∀ y ∈ intK.fp (.slice a3 dec.length c3) dec, x ≠ y)) := ⟨e1, o1, n1, L1, N1, o3, L3, N3, D13⟩
 clear hn2 hc1 hc3 Rb Bx hB hX e1 o1 n1 L1 N1 o3 L3 N3 D13 h1 h3
 go_wp2
 go_loopw [4] (fun j wr => ∃ (k : Nat) (v2 : Value) (qs : List RoundQ), k ≤ rounds.length ∧ j = .int .i64 k ∧ Hid (qs.map RoundQ.e = (rounds.take k).map RoundQ.e) ∧ roundK.Own wr v2 qs ∧ Hid ((roundK.fp v2 qs).Nodup ∧ ∀ k ∈ roundK.fp v2 qs, X.heap.size ≤ k) ∧ Hid (Blk wr g 28 #[.bool has, .slice s1 q1.length t1, v2, .slice a3 dec.length c3]) ∧ Hid (Out [g] X wr)) (fun j _ => rounds.length - (intOf j).toNat)
 case atStart => exact ⟨0, .slice none 0 0, [], Nat.zero_le _, rfl, (rfl : _ = _), hn1, HN0, Bg, Out.refl _ _⟩
 case round =>
  clear HN0 hn1 Bg
  obtain ⟨k, v2, qs, hk, rfl, HE, hO, HN, HBg, HO⟩ := hrel
  obtain ⟨sa, sc, rfl⟩ := hO.shape
  have hBr : Below w.heap.size w wr := Out.keep hBX HO.out hBX.size (fun x hx => by simp only [List.mem_singleton] at hx; omega)
  have hXr := HO.out.size
  have Bxr : Blk wr w.heap.size 28 #[.bool has, .slice ba batch.length bk, .slice va rounds.length vk, .slice da dec.length dk] := (HO.out.block _ BxX.lt (by simp only [List.mem_singleton]; omega)).trans BxX
  have HLO : Hid (∀ x ∈ blk (.slice sa qs.length sc), X.heap.size ≤ x) := fun x hx => HN.out.2 x (by simp only [Kind.fp, List.mem_append]; exact Or.inl hx)
  have b2 := Bxr.cell 2 _ rfl
  by_cases hlt : k < rounds.length
  ·obtain ⟨rb, ro, rfl, hbs, hc, hrd⟩ := (h2.below hBr).cell (by decide) k hlt
   have hrbw : rb < w.heap.size := by
    obtain ⟨rb', ro', e', hbs', _, _⟩ := h2.cell (by decide) k hlt
    simp only [Option.some.injEq, Addr.mk.injEq, and_true] at e'
    omega
   have hc' : ∀ j x, (roundK.cells rounds[k])[j]? = some x → wr.cell? ⟨rb, ro + k * 2 + j, none⟩ = some x := hc
   have f0 := hc' 0 (rounds[k].vr) rfl
   have f1 := hc' 1 (rounds[k].vp) rfl
   have n1 := nm_le RoundQ.n rounds k hlt
   have hpos := hro _ (List.getElem_mem hlt)
   have HQL : Hid (qs.length ≤ 1048576) := by
    have := congrArg List.length HE.out
    rw [List.length_map, List.length_map, List.length_take] at this
    show qs.length ≤ 1048576
    omega
   have HPE : Hid (∀ p' : RoundQ, p'.e = RoundQ.e rounds[k] → (qs ++ [p']).map RoundQ.e = (rounds.take (k + 1)).map RoundQ.e) := fun p' hp' => by
    rw [List.take_succ_eq_append_getElem hlt, List.map_append, List.map_append, HE.out, List.map_singleton, List.map_singleton, hp']
   clear HE hc hc'
   generalize rounds[k] = p at *
   obtain ⟨pv, pr, pw, pp⟩ := p
   obtain ⟨u1, u2⟩ : intK.At wr pv pr ∧ intK.At wr pw pp := hrd
   obtain ⟨x1', j1, rfl⟩ := u1.shape
   obtain ⟨x2', j2, rfl⟩ := u2.shape
   dsimp only [RoundQ.n] at f0 f1 n1 hpos
   rw [Nat.add_zero] at f0
   have hcA := fun w (hT : intK.At w (.slice x1' pr.length j1) pr) => l1Ints_any _ pr w hT hpos.1 (by omega)
   have hcB := fun w (hT : intK.At w (.slice x2' pp.length j2) pp) => l1Ints_any _ pp w hT hpos.2 (by omega)
   have hFg : g ∉ blk (.slice sa qs.length sc) := fun hx => by have := HLO.out g hx; omega
   have hFw : w.heap.size ∉ blk (.slice sa qs.length sc) := fun hx => by have := HLO.out _ hx; omega
   have hFr : rb ∉ blk (.slice sa qs.length sc) := fun hx => by have := HLO.out rb hx; omega
   have HF : Hid (∀ x ∈ roundK.fp (.slice sa qs.length sc) qs, x < wr.heap.size) := hO.lt
   have m0 := lato_cell (F := blk (.slice sa qs.length sc)) (HBg.out.cell 2 _ rfl) hFg
   have m1 := lato_cell (F := blk (.slice sa qs.length sc)) b2 hFw
   have m2 := lato_cell (F := blk (.slice sa qs.length sc)) f0 hFr
   have m3 := lato_cell (F := blk (.slice sa qs.length sc)) f1 hFr
   have hlti : (k : Int) < (rounds.length : Int) := by omega
   have hnn : Nonempty (LatO (blk (.slice sa qs.length sc)) wr) := ⟨⟨wr, Out.refl _ _⟩⟩
   have hW : Below wr.heap.size wr wr.drew := (Below.refl _ _).drew
   have hnw : ∀ w', Below wr.heap.size wr w' → ∃ u : LatO (blk (.slice sa qs.length sc)) wr, w' = u.val := fun w' hw' => ⟨⟨w', Out.of_below hw'⟩, rfl⟩
   clear f0 f1
   go_wp2_with fail
   clear b2
   refine beginX (S := fun w' => ∃ u : LatO (blk (.slice sa qs.length sc)) wr, w' = u.val) (R := fun _ _ => False) 20 (by kernel_rfl) (fun _ _ _ _ h => h.elim) ?_
   refine segX [(0, 8), (9, 6)] 7 (by kernel_rfl) (by kernel_rfl) (by kernel_rfl) (by kernel_rfl) (by kernel_rfl) (hnw _ hW) ?_
   simp only [pickR, List.toList_toArray, List.flatMap_cons, List.flatMap_nil, List.drop_succ_cons, List.drop_zero, List.take_succ_cons, List.take_zero, List.cons_append, List.nil_append, List.append_nil]
   repeat go_big_quiet_step (fail)
   refine wpQuiet_nil ?_
   refine callX 8 (some 29) 156 #[.slice x1' pr.length j1] 6 (by kernel_rfl) (by kernel_rfl) (by kernel_rfl) (by kernel_rfl) (by kernel_rfl) rfl ?_
   refine (hcA _ (u1.below hW)).mono ?_
   rintro e w8 ⟨x1, y1, rfl, oa, ga, hb8⟩
   have LA : ∀ x ∈ intK.fp (.slice x1 pr.length y1) pr, wr.heap.size ≤ x := fun x hx => by have := ga x hx; have := hW.size; omega
   have MA := oa.lt
   replace hW := hW.trans (hb8.mono hW.size)
   clear hb8 ga
   refine Or.inl ⟨_, rfl, hnw _ hW, ?_⟩
   simp only [Act.put, List.getElem_toArray, List.getElem_cons_succ, List.getElem_cons_zero, List.setIfInBounds_toArray, List.set_cons_zero, List.set_cons_succ]
   refine callX 15 (some 36) 156 #[.slice x2' pp.length j2] 5 (by kernel_rfl) (by kernel_rfl) (by kernel_rfl) (by kernel_rfl) (by kernel_rfl) rfl ?_
   refine (hcB _ (u2.below hW)).mono ?_
   rintro e w9 ⟨x2, y2, rfl, ob, gb, hb9⟩
   have LB : ∀ x ∈ intK.fp (.slice x2 pp.length y2) pp, wr.heap.size ≤ x := fun x hx => by have := gb x hx; have := hW.size; omega
   have hdis : ∀ x ∈ intK.fp (.slice x1 pr.length y1) pr, ∀ y ∈ intK.fp (.slice x2 pp.length y2) pp, x ≠ y := fun x hx y hy e => by have := MA x hx; have := gb y hy; omega
   replace oa := oa.below hb9
   replace hW := hW.trans (hb9.mono hW.size)
   clear hb9 gb MA
   refine Or.inl ⟨_, rfl, hnw _ hW, ?_⟩
   simp only [Act.put, List.getElem_toArray, List.getElem_cons_succ, List.getElem_cons_zero, List.setIfInBounds_toArray, List.set_cons_zero, List.set_cons_succ]
   refine oneX 16 _ 4 (by kernel_rfl) rfl (by kernel_rfl) ?_
   go_wp2
   refine ThenX.to ⟨Or.inr (hnw _ hW), ?_⟩
   refine oneX 17 _ 3 (by kernel_rfl) rfl (by kernel_rfl) ?_
   have hbA : Below w9.heap.size w9 (w9.alloc (.cells #[.slice x1 pr.length y1, .slice x2 pp.length y2] 125)) := by go_grown
   replace hW := hW.trans (hbA.mono hW.size)
   replace oa := oa.below hbA
   replace ob := ob.below hbA
   have hsrc : ∀ j u, [Value.slice x1 pr.length y1, .slice x2 pp.length y2][j]? = some u → (w9.alloc (.cells #[.slice x1 pr.length y1, .slice x2 pp.length y2] 125)).cell? ((⟨w9.heap.size, 0, none⟩ : Addr).add j) = some u := by
    intro j u hj; match j, hj with | 0, hj => simp at hj; subst hj; simp [Addr.add] | 1, hj => simp at hj; subst hj; simp [Addr.add]
   go_wp2
   refine ThenX.to ⟨Or.inr (hnw _ hW), ?_⟩
   generalize w9.alloc (.cells #[.slice x1 pr.length y1, .slice x2 pp.length y2] 125) = Z at *
   clear hbA
   have hO3 := hO.below hW
   have hrow0 := hO3.1
   have hsZ := hW.size
   refine oneX 18 _ 2 (by kernel_rfl) rfl (by kernel_rfl) ?_
   refine wpList_append_own_at _ rfl _ _ 25 rfl 0 125 i0 (.agg #[.slice none 0 0, .slice none 0 0]) 2 48 Tryz.underlying25 hi hz0 hz1 hz2 rfl (by decide) _ qs.length (roundK.row qs) rfl hrow0 ⟨w9.heap.size, 0, none⟩ 1 1 [.slice x1 pr.length y1, .slice x2 pp.length y2] rfl rfl hsrc ?c2 ?c3 ?c4 ?c5 ?_
   case c2 => intro u hu; simp at hu; rcases hu with rfl | rfl <;> rfl
   case c3 => have := HQL.out; unfold maxLen; omega
   case c4 => have := HQL.out; omega
   case c5 => omega
   intro v' w5 hown hgrow hnil hat
   clear hnil hrow0 hsrc
   obtain ⟨hO5, hn5, hlo5, hou⟩ := hO3.snoc (p := ⟨.slice x1 pr.length y1, pr, .slice x2 pp.length y2, pp⟩) (B := X.heap.size) HN.out.1 HN.out.2 ⟨oa, ob⟩ (List.nodup_append.2 ⟨intK_nodup _ _, intK_nodup _ _, hdis⟩) (fun x hx hx' => by
    have := HF.out x hx'
    rcases List.mem_append.1 hx with hx | hx
    ·have := LA x hx; omega
    ·have := LB x hx; omega) (fun x hx => by
    rcases List.mem_append.1 hx with hx | hx
    ·have := LA x hx; omega
    ·have := LB x hx; omega) (by omega) hown hgrow hat
   obtain ⟨na, nc, rfl⟩ := hO5.shape
   rw [List.length_append, List.length_singleton] at hO5 hn5 hlo5
   have hO9 : Out (blk (.slice sa qs.length sc)) wr w5 := (Out.of_below hW).trans hou
   have Bg5 : Blk w5 g 28 #[.bool has, .slice s1 q1.length t1, .slice sa qs.length sc, .slice a3 dec.length c3] := (hO9.block g (by omega) hFg).trans HBg.out
   have HE5 : Hid ((qs ++ [(⟨.slice x1 pr.length y1, pr, .slice x2 pp.length y2, pp⟩ : RoundQ)]).map RoundQ.e = (rounds.take (k + 1)).map RoundQ.e) := HPE.out _ rfl
   have HN5 : Hid ((roundK.fp (.slice na (qs.length + 1) nc) (qs ++ [(⟨.slice x1 pr.length y1, pr, .slice x2 pp.length y2, pp⟩ : RoundQ)])).Nodup ∧ ∀ k ∈ roundK.fp (.slice na (qs.length + 1) nc) (qs ++ [(⟨.slice x1 pr.length y1, pr, .slice x2 pp.length y2, pp⟩ : RoundQ)]), X.heap.size ≤ k) := ⟨hn5, hlo5⟩
   have hX5 : Out [g] X w5 := by
    refine ⟨hO9.os.trans HO.out.os, hO9.tape.trans HO.out.tape, hO9.output.trans HO.out.output, Nat.le_trans hXr hO9.size, fun x hx hn => ?_⟩
    exact (hO9.block x (by omega) (fun hx' => by have := HLO.out x hx'; omega)).trans (HO.out.block x hx hn)
   clear hn5 hlo5 hou HPE HN HF oa ob LA LB hdis hown hgrow hat hO3 hO m0 m1 m2 m3 hcA hcB
   go_wp2
   refine ThenX.to ⟨Or.inr ⟨⟨_, hO9⟩, rfl⟩, ?_⟩
   simp only [Act.put, List.getElem_toArray, List.getElem_cons_succ, List.getElem_cons_zero, List.setIfInBounds_toArray, List.set_cons_zero, List.set_cons_succ]
   refine oneX 19 _ 1 (by kernel_rfl) rfl (by kernel_rfl) ?_
   go_wp2
   refine ThenX.to ⟨Or.inr ⟨⟨_, hO9⟩, rfl⟩, ?_⟩
   refine oneX 20 _ 0 (by kernel_rfl) rfl (by kernel_rfl) ?_
   have t3 := Bg5.cell 2 _ rfl
   have t4 := Bg5.frozen 2
   have Bg6 := Bg5.set 2 (.slice na (qs.length + 1) nc)
   have hO6 := hO5.out (Out.setCell w5 g 2 (.slice na (qs.length + 1) nc)) (fun x hx => by have := HN5.out.2 x hx; simp only [List.mem_singleton]; omega)
   have hX6 : Out [g] X (w5.setCell ⟨g, 2, none⟩ (.slice na (qs.length + 1) nc)) := hX5.trans (Out.setCell w5 g 2 _)
   have HB6 : Hid (Blk (w5.setCell ⟨g, 2, none⟩ (.slice na (qs.length + 1) nc)) g 28 #[.bool has, .slice s1 q1.length t1, .slice na (qs.length + 1) nc, .slice a3 dec.length c3]) := Bg6
   have HO6 : Hid (Out [g] X (w5.setCell ⟨g, 2, none⟩ (.slice na (qs.length + 1) nc))) := hX6
   clear Bg6 hX6 hX5 hO5 Bg5 HBg HO
   generalize qs ++ [(⟨.slice x1 pr.length y1, pr, .slice x2 pp.length y2, pp⟩ : RoundQ)] = qs' at *
   go_wp2
   refine ThenX.to ⟨Or.inl (by kernel_rfl), ?_⟩
   refine endX (by kernel_rfl) ?_
   clear t3 t4 hO9 hnn hnw hFg hFw hFr
   generalize w5.setCell ⟨g, 2, none⟩ (.slice na (qs.length + 1) nc) = w6 at *
   go_wp2
   go_roundw
   case rel => exact ⟨k + 1, _, qs', by omega, by go_num, HE5, hO6, HN5, HB6, HO6⟩
   case measure => simp [intOf]; omega
  ·have hkl : k = rounds.length := by omega
   subst hkl
   have hE := HE.out
   rw [List.take_length] at hE
   have HE9 : Hid (qs.map RoundQ.e = rounds.map RoundQ.e) := hE
   clear HE hE
   have Rbr : Blk wr (w.heap.size + 1) 28 #[.bool false, .slice none 0 0, .slice none 0 0, .slice none 0 0] := (HO.out.block _ RbX.lt (by simp only [List.mem_singleton]; omega)).trans RbX
   have g0 := HBg.out.cell 0 _ rfl
   have g1 := HBg.out.cell 1 _ rfl
   have g2 := HBg.out.cell 2 _ rfl
   have g3 := HBg.out.cell 3 _ rfl
   have Rz := Rbr.row #[.bool has, .slice s1 q1.length t1, .slice sa qs.length sc, .slice a3 dec.length c3]
   have hou := out_row wr (w.heap.size + 1) #[.bool has, .slice s1 q1.length t1, .slice sa qs.length sc, .slice a3 dec.length c3]
   have hBe := below_row hBr (g := w.heap.size + 1) (by omega) #[.bool has, .slice s1 q1.length t1, .slice sa qs.length sc, .slice a3 dec.length c3]
   obtain ⟨e1, o1, n1, L1, N1, o3, L3, N3, D13⟩ := HQ1.out
   have oa := (o1.out HO.out (fun x hx => by simp only [List.mem_singleton]; exact N1 x hx)).out hou (fun x hx => by have := L1 x hx; simp only [List.mem_singleton]; omega)
   have oc := (o3.out HO.out (fun x hx => by simp only [List.mem_singleton]; exact N3 x hx)).out hou (fun x hx => by have := L3 x hx; simp only [List.mem_singleton]; omega)
   have ob := hO.out hou (fun x hx => by have := HN.out.2 x hx; simp only [List.mem_singleton]; omega)
   have HR : Hid ((InstQ.e ⟨has, .slice s1 q1.length t1, q1, .slice sa qs.length sc, qs, .slice a3 dec.length c3, dec⟩ = InstQ.e ⟨has, .slice ba batch.length bk, batch, .slice va rounds.length vk, rounds, .slice da dec.length dk, dec⟩) ∧ (instK.foot ⟨has, .slice s1 q1.length t1, q1, .slice sa qs.length sc, qs, .slice a3 dec.length c3, dec⟩).Nodup ∧ ∀ x ∈ instK.foot ⟨has, .slice s1 q1.length t1, q1, .slice sa qs.length sc, qs, .slice a3 dec.length c3, dec⟩, w.heap.size ≤ x) := by
    refine ⟨?_, ?_, ?_⟩
    ·simp only [InstQ.e, e1, HE9.out]
    ·refine List.nodup_append.2 ⟨n1, List.nodup_append.2 ⟨HN.out.1, intK_nodup _ _, fun x hx y hy e => ?_⟩, fun x hx y hy e => ?_⟩
     ·have := HN.out.2 x hx; have := o3.lt y hy; omega
     ·rcases List.mem_append.1 hy with hy | hy
      ·have := HN.out.2 y hy; have := o1.lt x hx; omega
      ·exact D13 x hx y hy e
    ·intro x hx
     rcases List.mem_append.1 hx with hx | hx
     ·have := L1 x hx; omega
     ·rcases List.mem_append.1 hx with hx | hx
      ·have := HN.out.2 x hx; omega
      ·have := L3 x hx; omega
   clear e1 o1 n1 L1 N1 o3 L3 N3 D13 hou HQ1 HE9 hO HN HLO
   go_wp2_with (first | (refine st_row (by kernel_rfl) 28 _ _ rfl _ #[.bool has, .slice s1 q1.length t1, .slice sa qs.length sc, .slice a3 dec.length c3] rfl rfl 28 _ Rbr sz_inst rfl (by simp [Value.oneCell']) ?_))
   have k0 := Rz.cell 0 _ rfl
   have k1 := Rz.cell 1 _ rfl
   have k2 := Rz.cell 2 _ rfl
   have k3 := Rz.cell 3 _ rfl
   exact bodyPost_ret (v := .agg #[.bool has, .slice s1 q1.length t1, .slice sa qs.length sc, .slice a3 dec.length c3]) (by simp [results, Tryz.results96, go_sem, k0, k1, k2, k3]) rfl ⟨⟨has, .slice s1 q1.length t1, q1, .slice sa qs.length sc, qs, .slice a3 dec.length c3, dec⟩, rfl, HR.out.1, ⟨oa, ob, oc⟩, HR.out.2.1, HR.out.2.2, hBe⟩

end Go.Proofs.YtmgkjcobdmdjmaaGreatDoor
namespace Go.Proofs.YtmgkjcobdmdjmaaGreatDoor
open Go.RowKit
open Go.BigFrame
set_option linter.unusedVariables false
set_option maxRecDepth 100000
set_option linter.unusedSimpArgs false
set_option maxHeartbeats 2000000 in
theorem l6Bad_any (c : Int) (w : World) :
  Calls Tryz.prog 77 #[.int .i64 c] w fun e w' => e = .returned (.agg #[.int .i64 c, .int .i64 0, .bool false, .bool false, .int .i64 0, .bool false, .slice none 0 0, .slice none 0 0, .slice none 0 0]) ∧ Below w.heap.size w w' := by
 have hB : Below w.heap.size w (w.alloc (.cells #[.int .i64 0, .int .i64 0, .bool false, .bool false, .int .i64 0, .bool false, .slice none 0 0, .slice none 0 0, .slice none 0 0] 34)) := by go_grown
 have Rb := Blk.new w 34 #[.int .i64 0, .int .i64 0, .bool false, .bool false, .int .i64 0, .bool false, .slice none 0 0, .slice none 0 0, .slice none 0 0]
 have Rr := Rb.row #[.int .i64 c, .int .i64 0, .bool false, .bool false, .int .i64 0, .bool false, .slice none 0 0, .slice none 0 0, .slice none 0 0]
 have hBr := below_row hB (g := w.heap.size) (Nat.le_refl _) #[.int .i64 c, .int .i64 0, .bool false, .bool false, .int .i64 0, .bool false, .slice none 0 0, .slice none 0 0, .slice none 0 0]
 have hsr : (Tryz.prog.info? 34).map (·.size) = some (#[.int .i64 c, .int .i64 0, .bool false, .bool false, .int .i64 0, .bool false, .slice none 0 0, .slice none 0 0, .slice none 0 0] : Array Value).size := sz_res
 go_enter Tryz.func77, Tryz.ntmps77
 go_wp2_with (first | (refine st_row (by kernel_rfl) 34 _ _ rfl _ #[.int .i64 c, .int .i64 0, .bool false, .bool false, .int .i64 0, .bool false, .slice none 0 0, .slice none 0 0, .slice none 0 0] rfl rfl 34 _ Rb hsr rfl (by simp [Value.oneCell']) ?_))
 have q0 := Rr.cell 0 _ rfl
 have q1 := Rr.cell 1 _ rfl
 have q2 := Rr.cell 2 _ rfl
 have q3 := Rr.cell 3 _ rfl
 have q4 := Rr.cell 4 _ rfl
 have q5 := Rr.cell 5 _ rfl
 have q6 := Rr.cell 6 _ rfl
 have q7 := Rr.cell 7 _ rfl
 have q8 := Rr.cell 8 _ rfl
 exact bodyPost_ret (v := .agg #[.int .i64 c, .int .i64 0, .bool false, .bool false, .int .i64 0, .bool false, .slice none 0 0, .slice none 0 0, .slice none 0 0]) (by simp [results, Tryz.results77, go_sem, q0, q1, q2, q3, q4, q5, q6, q7, q8]) rfl ⟨rfl, hBr⟩

theorem ins_low {p : InstQ} (h : insF p.e = 0) : (∀ t ∈ p.batch, 0 < t.acts.length) ∧ (∀ r ∈ p.rounds, 0 < r.rep.length ∧ 0 < r.pro.length) ∧ 0 < p.dec.length := by
 obtain ⟨h1, h2, h3, _, h5⟩ := ins_ok h
 obtain ⟨h6, _⟩ := ins_zero h
 obtain ⟨_, _, _, h7, h8⟩ := shp_zero h6
 refine ⟨?_, fun r hr => ?_, by have : p.dec.length = 3 := h3; omega⟩
 ·cases hh : p.has with
  | true => exact bat_pos (h8 hh)
  | false =>
   have : p.batch.map TxnQ.e = [] := h7 hh
   intro t ht
   have : p.batch = [] := List.map_eq_nil_iff.1 this
   rw [this] at ht
   simp at ht
 ·have := h1 (RoundQ.e r) (List.mem_map.2 ⟨r, hr, rfl⟩)
  have h9 : r.rep.length = 3 ∧ r.pro.length = 3 := this
  omega

set_option maxHeartbeats 4000000 in
theorem l6Set_any (b o : Nat) (p : InstQ) (vn : Value) (bt : List TxnQ) (w : World) (hP : InstP w b o p) (hbw : b < w.heap.size) (hl : p.n ≤ 1048576) (h0 : insF p.e = 0) (hT : txnK.At w vn bt) (hl' : bt.length + nmL TxnQ.n bt ≤ 1048576) :
  Calls Tryz.prog 78 #[.pointer (some ⟨b, o, none⟩), vn] w fun e w' => ∃ q : InstQ, e = .returned (.agg (resC (sbC p.e (bt.map TxnQ.e)) 0 false false 0 q)) ∧ q.e = sbI p.e (bt.map TxnQ.e) ∧ instK.own w' q ∧ (instK.foot q).Nodup ∧ (∀ k ∈ instK.foot q, w.heap.size ≤ k) ∧ Below w.heap.size w w' := by
 obtain ⟨hne, hro, hd0⟩ := ins_low h0
 have hco := fun w h => l6Copy_any p w h hl hne hro hd0
 have hba := fun w (hT : txnK.At w vn bt) => l6Batch_any vn (bt.map TxnQ.e) w (txnsAt_of hT) (by rw [List.length_map, sumA_of]; omega)
 have hin := fun (hp : batF (bt.map TxnQ.e) = 0) w (hT : txnK.At w vn bt) => l2CopyAll_any vn bt w hT (bat_pos hp) hl'
 obtain ⟨D, hD⟩ : ∃ D, sbC p.e (bt.map TxnQ.e) = D := ⟨_, rfl⟩
 obtain ⟨E, hE⟩ : ∃ E, sbI p.e (bt.map TxnQ.e) = E := ⟨_, rfl⟩
 have HDE : Hid ((p.has = true → D = 6 ∧ E = ine0) ∧ (p.has = false → batF (bt.map TxnQ.e) ≠ 0 → D = batF (bt.map TxnQ.e) ∧ E = ine0) ∧ (p.has = false → batF (bt.map TxnQ.e) = 0 → D = 0 ∧ E = ⟨true, bt.map TxnQ.e, p.e.rounds, p.dec⟩)) := by
  have hph : p.e.has = p.has := rfl
  refine ⟨fun h1 => ?_, fun h1 h2 => ?_, fun h1 h2 => ?_⟩
  ·have e : D = 6 := by rw [← hD]; unfold sbC; rw [if_pos h0, hph, h1]; rfl
   exact ⟨e, by rw [← hE]; exact if_neg (by rw [hD, e]; decide)⟩
  ·have e : D = batF (bt.map TxnQ.e) := by rw [← hD]; unfold sbC; rw [if_pos h0, hph, h1]; rfl
   exact ⟨e, by rw [← hE]; exact if_neg (by rw [hD, e]; exact h2)⟩
  ·have e : D = 0 := by rw [← hD]; unfold sbC; rw [if_pos h0, hph, h1]; exact h2
   exact ⟨e, by rw [← hE]; exact if_pos (by rw [hD, e])⟩
 rw [hD, hE]
 clear hD hE h0 hne hro hd0
 have HPE : Hid (p.e.rounds = p.rounds.map RoundQ.e ∧ p.e.dec = p.dec) := ⟨rfl, rfl⟩
 generalize hds : bt.map TxnQ.e = dsn at *
 generalize hbf : batF dsn = BF at *
 clear hbf
 have hrd := hP.rd
 have hrb := fun (w' : World) hb => instK.rd_below (w' := w') hrd hb
 generalize hpe : p.e = pe at *
 obtain ⟨has, vb, batch, vr, rounds, vd, dec⟩ := p
 obtain ⟨ba, bk, rfl⟩ : ∃ a c, vb = .slice a batch.length c := hrd.1.shape
 obtain ⟨va, vk, rfl⟩ : ∃ a c, vr = .slice a rounds.length c := hrd.2.1.shape
 obtain ⟨da, dk, rfl⟩ : ∃ a c, vd = .slice a dec.length c := hrd.2.2.shape
 obtain ⟨na, nk, rfl⟩ := hT.shape
 dsimp only at hco hrb HDE HPE
 have hB : Below w.heap.size w (w.alloc (.cells #[.int .i64 0, .int .i64 0, .bool false, .bool false, .int .i64 0, .bool false, .slice none 0 0, .slice none 0 0, .slice none 0 0] 34)) := by go_grown
 have Rb := Blk.new w 34 #[.int .i64 0, .int .i64 0, .bool false, .bool false, .int .i64 0, .bool false, .slice none 0 0, .slice none 0 0, .slice none 0 0]
 have hPW := hP.below hB
 have c0 := hPW.box.c0
 dsimp only at c0
 cases has with
 | true =>
  have E1 : Hid (D = 6 ∧ E = ine0) := HDE.out.1 rfl
  clear HDE hba hin hco
  go_enter Tryz.func78, Tryz.ntmps78
  go_wp2_with fail
  clear c0
  generalize w.alloc (.cells #[.int .i64 0, .int .i64 0, .bool false, .bool false, .int .i64 0, .bool false, .slice none 0 0, .slice none 0 0, .slice none 0 0] 34) = W at *
  refine (l6Bad_any 6 _).mono ?_
  rintro e w8 ⟨rfl, hb8⟩
  replace hB := hB.trans (hb8.mono hB.size)
  replace Rb := Rb.below hb8
  clear hb8
  have Rr := Rb.row #[.int .i64 6, .int .i64 0, .bool false, .bool false, .int .i64 0, .bool false, .slice none 0 0, .slice none 0 0, .slice none 0 0]
  have hBr := below_row hB (g := w.heap.size) (by omega) #[.int .i64 6, .int .i64 0, .bool false, .bool false, .int .i64 0, .bool false, .slice none 0 0, .slice none 0 0, .slice none 0 0]
  have hsr : (Tryz.prog.info? 34).map (·.size) = some (#[.int .i64 6, .int .i64 0, .bool false, .bool false, .int .i64 0, .bool false, .slice none 0 0, .slice none 0 0, .slice none 0 0] : Array Value).size := sz_res
  go_wp2_with (first | (refine st_row (by kernel_rfl) 34 _ _ rfl _ #[.int .i64 6, .int .i64 0, .bool false, .bool false, .int .i64 0, .bool false, .slice none 0 0, .slice none 0 0, .slice none 0 0] rfl rfl 34 _ Rb hsr rfl (by simp [Value.oneCell']) ?_))
  have q0 := Rr.cell 0 _ rfl
  have q1 := Rr.cell 1 _ rfl
  have q2 := Rr.cell 2 _ rfl
  have q3 := Rr.cell 3 _ rfl
  have q4 := Rr.cell 4 _ rfl
  have q5 := Rr.cell 5 _ rfl
  have q6 := Rr.cell 6 _ rfl
  have q7 := Rr.cell 7 _ rfl
  have q8 := Rr.cell 8 _ rfl
  exact bodyPost_ret (v := .agg #[.int .i64 6, .int .i64 0, .bool false, .bool false, .int .i64 0, .bool false, .slice none 0 0, .slice none 0 0, .slice none 0 0]) (by simp [results, Tryz.results78, go_sem, q0, q1, q2, q3, q4, q5, q6, q7, q8]) rfl ⟨inst0, by rw [E1.out.1]; rfl, E1.out.2.symm, inst0_own _, inst0_nd, fun k hk => by rw [inst0_ft] at hk; simp at hk, hBr⟩

 | false =>
  have E4 : Hid ((BF ≠ 0 → D = BF ∧ E = ine0) ∧ (BF = 0 → D = 0 ∧ E = ⟨true, dsn, pe.rounds, dec⟩)) := ⟨HDE.out.2.1 rfl, HDE.out.2.2 rfl⟩
  clear HDE
  go_enter Tryz.func78, Tryz.ntmps78
  go_wp2_with fail
  clear c0
  generalize w.alloc (.cells #[.int .i64 0, .int .i64 0, .bool false, .bool false, .int .i64 0, .bool false, .slice none 0 0, .slice none 0 0, .slice none 0 0] 34) = W at *
  refine (hba W (hT.below hB)).mono ?_
  rintro e w2 ⟨rfl, hb2⟩
  replace Rb := Rb.below hb2
  replace hPW := hPW.below hb2
  replace hB := hB.trans (hb2.mono hB.size)
  clear hb2 hba
  by_cases hbf : BF = 0
  case neg =>
   have E1 : Hid (D = BF ∧ E = ine0) := E4.out.1 hbf
   have h0' : (BF != 0) = true := by simpa using hbf
   clear E4 hbf hin hco
   go_wp2_with fail
   refine (l6Bad_any BF _).mono ?_
   rintro e w8 ⟨rfl, hb8⟩
   replace hB := hB.trans (hb8.mono hB.size)
   replace Rb := Rb.below hb8
   clear hb8
   have Rr := Rb.row #[.int .i64 BF, .int .i64 0, .bool false, .bool false, .int .i64 0, .bool false, .slice none 0 0, .slice none 0 0, .slice none 0 0]
   have hBr := below_row hB (g := w.heap.size) (by omega) #[.int .i64 BF, .int .i64 0, .bool false, .bool false, .int .i64 0, .bool false, .slice none 0 0, .slice none 0 0, .slice none 0 0]
   have hsr : (Tryz.prog.info? 34).map (·.size) = some (#[.int .i64 BF, .int .i64 0, .bool false, .bool false, .int .i64 0, .bool false, .slice none 0 0, .slice none 0 0, .slice none 0 0] : Array Value).size := sz_res
   go_wp2_with (first | (refine st_row (by kernel_rfl) 34 _ _ rfl _ #[.int .i64 BF, .int .i64 0, .bool false, .bool false, .int .i64 0, .bool false, .slice none 0 0, .slice none 0 0, .slice none 0 0] rfl rfl 34 _ Rb hsr rfl (by simp [Value.oneCell']) ?_))
   have q0 := Rr.cell 0 _ rfl
   have q1 := Rr.cell 1 _ rfl
   have q2 := Rr.cell 2 _ rfl
   have q3 := Rr.cell 3 _ rfl
   have q4 := Rr.cell 4 _ rfl
   have q5 := Rr.cell 5 _ rfl
   have q6 := Rr.cell 6 _ rfl
   have q7 := Rr.cell 7 _ rfl
   have q8 := Rr.cell 8 _ rfl
   exact bodyPost_ret (v := .agg #[.int .i64 BF, .int .i64 0, .bool false, .bool false, .int .i64 0, .bool false, .slice none 0 0, .slice none 0 0, .slice none 0 0]) (by simp [results, Tryz.results78, go_sem, q0, q1, q2, q3, q4, q5, q6, q7, q8]) rfl ⟨inst0, by rw [E1.out.1]; rfl, E1.out.2.symm, inst0_own _, inst0_nd, fun k hk => by rw [inst0_ft] at hk; simp at hk, hBr⟩

  case pos =>
   have E1 : Hid (D = 0 ∧ E = ⟨true, dsn, pe.rounds, dec⟩) := E4.out.2 hbf
   subst hbf
   clear E4
   have hw23 : w.heap.size + 1 ≤ w2.heap.size := Rb.lt
   obtain ⟨c0, c1, c2, c3⟩ := hPW.box
   dsimp only at c0 c1 c2 c3
   go_wp2_with fail
   clear c0 c1 c2 c3
   refine (hco w2 (hrb w2 hB)).mono ?_
   rintro e w3 ⟨q, rfl, eq, oq, nq, gq, hb3⟩
   replace Rb := Rb.below hb3
   replace hB := hB.trans (hb3.mono hB.size)
   obtain ⟨qh, qb, qbs, qr, qrs, qd, qds⟩ := q
   obtain ⟨s1, t1, rfl⟩ : ∃ a c, qb = .slice a qbs.length c := oq.1.shape
   obtain ⟨s2, t2, rfl⟩ : ∃ a c, qr = .slice a qrs.length c := oq.2.1.shape
   obtain ⟨s3, t3, rfl⟩ : ∃ a c, qd = .slice a qds.length c := oq.2.2.shape
   have hbA : Below w3.heap.size w3 (w3.alloc (.cells #[.bool true, .slice s1 qbs.length t1, .slice s2 qrs.length t2, .slice s3 qds.length t3] 28)) := by go_grown
   have Gz := Blk.new w3 28 #[.bool true, .slice s1 qbs.length t1, .slice s2 qrs.length t2, .slice s3 qds.length t3]
   have hn23 := (List.nodup_append.1 nq).2.1
   have o2 := oq.2.1
   have o3 := oq.2.2
   have M2 := o2.lt
   have M3 := o3.lt
   have hs23 := hb3.size
   have L2 : ∀ k ∈ roundK.fp (.slice s2 qrs.length t2) qrs, w2.heap.size ≤ k := fun k hk => gq k (List.mem_append_right _ (List.mem_append_left _ hk))
   have L3 : ∀ k ∈ intK.fp (.slice s3 qds.length t3) qds, w2.heap.size ≤ k := fun k hk => gq k (List.mem_append_right _ (List.mem_append_right _ hk))
   have HQE : Hid (pe.rounds = qrs.map RoundQ.e ∧ qds = dec) := by
    have e1 : pe.dec = dec := HPE.out.2
    rw [← eq] at e1 ⊢
    exact ⟨rfl, e1⟩
   replace o2 := o2.below hbA
   replace o3 := o3.below hbA
   replace Rb := Rb.below hbA
   replace hB := hB.trans (hbA.mono hB.size)
   clear hco gq nq oq eq hb3 HPE
   go_wp2_with fail
   have hgz := Gz.lt
   generalize w3.alloc (.cells #[.bool true, .slice s1 qbs.length t1, .slice s2 qrs.length t2, .slice s3 qds.length t3] 28) = W3 at *
   refine (hin (by trivial) W3 (hT.below hB)).mono ?_
   rintro e w4 ⟨v4, qt, rfl, e4, o4, n4, g4, hb4⟩
   obtain ⟨s4, t4, rfl⟩ := o4.shape
   replace o2 := o2.below hb4
   replace o3 := o3.below hb4
   replace Rb := Rb.below hb4
   replace Gz := Gz.below hb4
   replace hB := hB.trans (hb4.mono hB.size)
   have hsb : w3.heap.size ≤ W3.heap.size := hbA.size
   have R5 := Rb.other (b' := w3.heap.size) (by omega) 1 (.slice s4 qt.length t4)
   have G5 : Blk (w4.setCell ⟨w3.heap.size, 1, none⟩ (.slice s4 qt.length t4)) w3.heap.size 28 #[.bool true, .slice s4 qt.length t4, .slice s2 qrs.length t2, .slice s3 qds.length t3] := Gz.set 1 (.slice s4 qt.length t4)
   have hB5 : Below w.heap.size w (w4.setCell ⟨w3.heap.size, 1, none⟩ (.slice s4 qt.length t4)) := hB.setCell (p := ⟨w3.heap.size, 1, none⟩) (by show w.heap.size ≤ w3.heap.size; omega) _
   have U1 := Out.setCell w4 w3.heap.size 1 (.slice s4 qt.length t4)
   have U2 := out_row (w4.setCell ⟨w3.heap.size, 1, none⟩ (.slice s4 qt.length t4)) w.heap.size #[.int .i64 0, .int .i64 0, .bool false, .bool false, .int .i64 0, .bool true, .slice s4 qt.length t4, .slice s2 qrs.length t2, .slice s3 qds.length t3]
   have Rr := R5.row #[.int .i64 0, .int .i64 0, .bool false, .bool false, .int .i64 0, .bool true, .slice s4 qt.length t4, .slice s2 qrs.length t2, .slice s3 qds.length t3]
   have hBr := below_row hB5 (g := w.heap.size) (Nat.le_refl _) #[.int .i64 0, .int .i64 0, .bool false, .bool false, .int .i64 0, .bool true, .slice s4 qt.length t4, .slice s2 qrs.length t2, .slice s3 qds.length t3]
   have hsr : (Tryz.prog.info? 34).map (·.size) = some (#[.int .i64 0, .int .i64 0, .bool false, .bool false, .int .i64 0, .bool true, .slice s4 qt.length t4, .slice s2 qrs.length t2, .slice s3 qds.length t3] : Array Value).size := sz_res
   have K2 := (o2.out U1 (fun k hk => by have := M2 k hk; simp only [List.mem_singleton]; omega)).out U2 (fun k hk => by have := L2 k hk; simp only [List.mem_singleton]; omega)
   have K3 := (o3.out U1 (fun k hk => by have := M3 k hk; simp only [List.mem_singleton]; omega)).out U2 (fun k hk => by have := L3 k hk; simp only [List.mem_singleton]; omega)
   have K4 := (o4.out U1 (fun k hk => by have := g4 k hk; simp only [List.mem_singleton]; omega)).out U2 (fun k hk => by have := g4 k hk; simp only [List.mem_singleton]; omega)
   have HR : Hid (InstQ.e ⟨true, .slice s4 qt.length t4, qt, .slice s2 qrs.length t2, qrs, .slice s3 qds.length t3, qds⟩ = E ∧ (instK.foot ⟨true, .slice s4 qt.length t4, qt, .slice s2 qrs.length t2, qrs, .slice s3 qds.length t3, qds⟩).Nodup ∧ ∀ k ∈ instK.foot ⟨true, .slice s4 qt.length t4, qt, .slice s2 qrs.length t2, qrs, .slice s3 qds.length t3, qds⟩, w.heap.size ≤ k) := by
    refine ⟨?_, ?_, ?_⟩
    ·rw [E1.out.2, HQE.out.1, ← HQE.out.2]
     simp only [InstQ.e, e4]
    ·refine List.nodup_append.2 ⟨n4, hn23, fun x hx y hy e => ?_⟩
     have := g4 x hx
     rcases List.mem_append.1 hy with hy | hy
     ·have := M2 y hy; omega
     ·have := M3 y hy; omega
    ·intro k hk
     rcases List.mem_append.1 hk with hk | hk
     ·have := g4 k hk; omega
     ·rcases List.mem_append.1 hk with hk | hk
      ·have := L2 k hk; omega
      ·have := L3 k hk; omega
   have HD0 : Hid (D = 0) := E1.out.1
   have k0 := Gz.cell 0 _ rfl
   have k1 := Gz.cell 1 _ rfl
   have k2 := Gz.cell 2 _ rfl
   have k3 := Gz.cell 3 _ rfl
   have kf := Gz.frozen 1
   clear hin e4 o4 n4 g4 hb4 o2 o3 M2 M3 L2 L3 hn23 U1 U2 E1 HQE hbA Gz G5 Rb
   go_wp2_with (first | (refine st_row (by kernel_rfl) 34 _ _ rfl _ #[.int .i64 0, .int .i64 0, .bool false, .bool false, .int .i64 0, .bool true, .slice s4 qt.length t4, .slice s2 qrs.length t2, .slice s3 qds.length t3] rfl rfl 34 _ R5 hsr rfl (by simp [Value.oneCell']) ?_))
   have q0 := Rr.cell 0 _ rfl
   have q1 := Rr.cell 1 _ rfl
   have q2 := Rr.cell 2 _ rfl
   have q3 := Rr.cell 3 _ rfl
   have q4 := Rr.cell 4 _ rfl
   have q5 := Rr.cell 5 _ rfl
   have q6 := Rr.cell 6 _ rfl
   have q7 := Rr.cell 7 _ rfl
   have q8 := Rr.cell 8 _ rfl
   exact bodyPost_ret (v := .agg #[.int .i64 0, .int .i64 0, .bool false, .bool false, .int .i64 0, .bool true, .slice s4 qt.length t4, .slice s2 qrs.length t2, .slice s3 qds.length t3]) (by simp [results, Tryz.results78, go_sem, q0, q1, q2, q3, q4, q5, q6, q7, q8]) rfl ⟨⟨true, .slice s4 qt.length t4, qt, .slice s2 qrs.length t2, qrs, .slice s3 qds.length t3, qds⟩, by rw [HD0.out], HR.out.1, ⟨K4, K2, K3⟩, HR.out.2.1, HR.out.2.2, hBr⟩

set_option maxHeartbeats 4000000 in
theorem specSetBatch_any (p : InstQ) (vn : Value) (bt : List TxnQ) (w : World) (h : instK.rd w p) (hl : p.n ≤ 1048576) (hT : txnK.At w vn bt) (hl' : bt.length + nmL TxnQ.n bt ≤ 1048576) :
  Calls Tryz.prog 19 #[.agg #[.bool p.has, p.vb, p.vr, p.vd], vn] w fun e w' => ∃ q : InstQ, e = .returned (.agg (resC (sbC p.e (bt.map TxnQ.e)) 0 false false 0 q)) ∧ q.e = sbI p.e (bt.map TxnQ.e) ∧ instK.own w' q ∧ (instK.foot q).Nodup ∧ (∀ k ∈ instK.foot q, w.heap.size ≤ k) ∧ Below w.heap.size w w' := by
 have hB : Below w.heap.size w ((w.alloc (.cells #[.bool p.has, p.vb, p.vr, p.vd] 28)).alloc (.cells #[.int .i64 0, .int .i64 0, .bool false, .bool false, .int .i64 0, .bool false, .slice none 0 0, .slice none 0 0, .slice none 0 0] 34)) := by go_grown
 have Rb := Blk.new (w.alloc (.cells #[.bool p.has, p.vb, p.vr, p.vd] 28)) 34 #[.int .i64 0, .int .i64 0, .bool false, .bool false, .int .i64 0, .bool false, .slice none 0 0, .slice none 0 0, .slice none 0 0]
 rw [World.size_alloc] at Rb
 have hws : w.heap.size + 2 ≤ ((w.alloc (.cells #[.bool p.has, p.vb, p.vr, p.vd] 28)).alloc (.cells #[.int .i64 0, .int .i64 0, .bool false, .bool false, .int .i64 0, .bool false, .slice none 0 0, .slice none 0 0, .slice none 0 0] 34)).heap.size := by simp
 have hP : InstP ((w.alloc (.cells #[.bool p.has, p.vb, p.vr, p.vd] 28)).alloc (.cells #[.int .i64 0, .int .i64 0, .bool false, .bool false, .int .i64 0, .bool false, .slice none 0 0, .slice none 0 0, .slice none 0 0] 34)) w.heap.size 0 p := ⟨(box4_new w _ _ _ _ 28).below (by go_grown), instK.rd_below h hB⟩
 have hf1 := l6Fault_any w.heap.size 0 p _ hP hl
 have hst := fun w' hP hb h0 hT => l6Set_any w.heap.size 0 p vn bt w' hP hb hl h0 hT hl'
 have HC : Hid (insF p.e ≠ 0 → sbC p.e (bt.map TxnQ.e) = insF p.e ∧ sbI p.e (bt.map TxnQ.e) = ine0) := fun h0 => by
  have e : sbC p.e (bt.map TxnQ.e) = insF p.e := if_neg h0
  exact ⟨e, if_neg (by rw [e]; exact h0)⟩
 generalize sbC p.e (bt.map TxnQ.e) = D at *
 generalize sbI p.e (bt.map TxnQ.e) = E at *
 generalize insF p.e = C at *
 obtain ⟨na, nk, rfl⟩ := hT.shape
 go_enter Tryz.func19, Tryz.ntmps19
 go_wp2_with fail
 generalize (w.alloc (.cells #[.bool p.has, p.vb, p.vr, p.vd] 28)).alloc (.cells #[.int .i64 0, .int .i64 0, .bool false, .bool false, .int .i64 0, .bool false, .slice none 0 0, .slice none 0 0, .slice none 0 0] 34) = W at *
 refine hf1.mono ?_
 rintro e w1 ⟨rfl, hb1⟩
 replace hB := hB.trans (hb1.mono hB.size)
 replace Rb := Rb.below hb1
 have hP1 := hP.below hb1
 have hws1 : w.heap.size + 2 ≤ w1.heap.size := by have := hb1.size; omega
 clear hf1 hb1 hP
 by_cases h0 : C = 0
 case neg =>
  have E1 : Hid (D = C ∧ E = ine0) := HC.out h0
  have h0' : (C != 0) = true := by simpa using h0
  clear HC h0 hst
  go_wp2_with fail
  refine (l6Bad_any C _).mono ?_
  rintro e w8 ⟨rfl, hb8⟩
  replace hB := hB.trans (hb8.mono hB.size)
  replace Rb := Rb.below hb8
  clear hb8
  have Rr := Rb.row #[.int .i64 C, .int .i64 0, .bool false, .bool false, .int .i64 0, .bool false, .slice none 0 0, .slice none 0 0, .slice none 0 0]
  have hBr := below_row hB (g := w.heap.size + 1) (by omega) #[.int .i64 C, .int .i64 0, .bool false, .bool false, .int .i64 0, .bool false, .slice none 0 0, .slice none 0 0, .slice none 0 0]
  have hsr : (Tryz.prog.info? 34).map (·.size) = some (#[.int .i64 C, .int .i64 0, .bool false, .bool false, .int .i64 0, .bool false, .slice none 0 0, .slice none 0 0, .slice none 0 0] : Array Value).size := sz_res
  go_wp2_with (first | (refine st_row (by kernel_rfl) 34 _ _ rfl _ #[.int .i64 C, .int .i64 0, .bool false, .bool false, .int .i64 0, .bool false, .slice none 0 0, .slice none 0 0, .slice none 0 0] rfl rfl 34 _ Rb hsr rfl (by simp [Value.oneCell']) ?_))
  have q0 := Rr.cell 0 _ rfl
  have q1 := Rr.cell 1 _ rfl
  have q2 := Rr.cell 2 _ rfl
  have q3 := Rr.cell 3 _ rfl
  have q4 := Rr.cell 4 _ rfl
  have q5 := Rr.cell 5 _ rfl
  have q6 := Rr.cell 6 _ rfl
  have q7 := Rr.cell 7 _ rfl
  have q8 := Rr.cell 8 _ rfl
  exact bodyPost_ret (v := .agg #[.int .i64 C, .int .i64 0, .bool false, .bool false, .int .i64 0, .bool false, .slice none 0 0, .slice none 0 0, .slice none 0 0]) (by simp [results, Tryz.results19, go_sem, q0, q1, q2, q3, q4, q5, q6, q7, q8]) rfl ⟨inst0, by rw [E1.out.1]; rfl, E1.out.2.symm, inst0_own _, inst0_nd, fun k hk => by rw [inst0_ft] at hk; simp at hk, hBr⟩

 case pos =>
  subst h0
  clear HC
  go_wp2_with fail
  refine (hst w1 hP1 (by omega) (by trivial) (hT.below hB)).mono ?_
  rintro e w2 ⟨q, rfl, eq, oq, nq, gq, hb2⟩
  replace Rb := Rb.below hb2
  replace hB := hB.trans (hb2.mono hB.size)
  have HQ : Hid (q.e = E ∧ (instK.foot q).Nodup ∧ (∀ k ∈ instK.foot q, w.heap.size ≤ k) ∧ ∀ cs, instK.own (w2.setRow (w.heap.size + 1) cs) q) := ⟨eq, nq, fun k hk => by have := gq k hk; omega, fun cs => instK.own_out oq (out_row w2 (w.heap.size + 1) cs) (fun k hk => by have := gq k hk; simp only [List.mem_singleton]; omega)⟩
  clear hst hP1 hb2 eq nq gq
  obtain ⟨qh, qb, qbs, qr, qrs, qd, qds⟩ := q
  obtain ⟨s1, t1, rfl⟩ : ∃ a c, qb = .slice a qbs.length c := oq.1.shape
  obtain ⟨s2, t2, rfl⟩ : ∃ a c, qr = .slice a qrs.length c := oq.2.1.shape
  obtain ⟨s3, t3, rfl⟩ : ∃ a c, qd = .slice a qds.length c := oq.2.2.shape
  have Rr := Rb.row #[.int .i64 D, .int .i64 0, .bool false, .bool false, .int .i64 0, .bool qh, .slice s1 qbs.length t1, .slice s2 qrs.length t2, .slice s3 qds.length t3]
  have hBr := below_row hB (g := w.heap.size + 1) (by omega) #[.int .i64 D, .int .i64 0, .bool false, .bool false, .int .i64 0, .bool qh, .slice s1 qbs.length t1, .slice s2 qrs.length t2, .slice s3 qds.length t3]
  have hsr : (Tryz.prog.info? 34).map (·.size) = some (#[.int .i64 D, .int .i64 0, .bool false, .bool false, .int .i64 0, .bool qh, .slice s1 qbs.length t1, .slice s2 qrs.length t2, .slice s3 qds.length t3] : Array Value).size := sz_res
  clear oq
  go_wp2_with (first | (refine st_row (by kernel_rfl) 34 _ _ rfl _ #[.int .i64 D, .int .i64 0, .bool false, .bool false, .int .i64 0, .bool qh, .slice s1 qbs.length t1, .slice s2 qrs.length t2, .slice s3 qds.length t3] rfl rfl 34 _ Rb hsr rfl (by simp [Value.oneCell']) ?_))
  have q0 := Rr.cell 0 _ rfl
  have q1 := Rr.cell 1 _ rfl
  have q2 := Rr.cell 2 _ rfl
  have q3 := Rr.cell 3 _ rfl
  have q4 := Rr.cell 4 _ rfl
  have q5 := Rr.cell 5 _ rfl
  have q6 := Rr.cell 6 _ rfl
  have q7 := Rr.cell 7 _ rfl
  have q8 := Rr.cell 8 _ rfl
  exact bodyPost_ret (v := .agg #[.int .i64 D, .int .i64 0, .bool false, .bool false, .int .i64 0, .bool qh, .slice s1 qbs.length t1, .slice s2 qrs.length t2, .slice s3 qds.length t3]) (by simp [results, Tryz.results19, go_sem, q0, q1, q2, q3, q4, q5, q6, q7, q8]) rfl ⟨⟨qh, .slice s1 qbs.length t1, qbs, .slice s2 qrs.length t2, qrs, .slice s3 qds.length t3, qds⟩, rfl, HQ.out.1, HQ.out.2.2.2 _, HQ.out.2.1, HQ.out.2.2.1, hBr⟩

end Go.Proofs.YtmgkjcobdmdjmaaGreatDoor
