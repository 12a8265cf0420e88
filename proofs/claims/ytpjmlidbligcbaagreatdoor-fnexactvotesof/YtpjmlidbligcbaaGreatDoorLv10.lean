/- The program's LayVotes. The condition: impl.rules and impl.openRow start as the program's text lays them. -/
import Derived.Test.YtpjmlidbligcbaaGreatDoorLy10
import Derived.Test.YtpjmlidbligcbaaGreatDoorN7s
import Derived.Test.YtpjmlidbligcbaaGreatDoorN6
namespace Go.Proofs.YtpjmlidbligcbaaGreatDoor
open Go.RowKit
open Go.BigFrame
set_option linter.unusedVariables false
set_option maxRecDepth 100000
set_option linter.unusedSimpArgs false

theorem batch_pos {p : InstQ} (h : insF p.e = 0) : ∀ t ∈ p.batch, 0 < t.acts.length := by
  obtain ⟨h6, _⟩ := ins_zero h
  obtain ⟨_, _, _, h7, h8⟩ := shp_zero h6
  cases hh : p.has with
  | true => exact bat_pos (h8 hh)
  | false =>
    have : p.batch.map TxnQ.e = [] := h7 hh
    have : p.batch = [] := by simpa using this
    rw [this]
    intro t ht
    simp at ht
/-- What LayVotes tells, one case beside the other. -/
theorem lv_facts (x : InstE) (L : List VoteD) : (insF x ≠ 0 → lvC x L = insF x ∧ lvI x L = ine0) ∧ (insF x = 0 → 40 < L.length → lvC x L = 2 ∧ lvI x L = ine0) ∧
    (insF x = 0 → ¬ 40 < L.length → (layL x.rounds x.dec L).1 ≠ 0 → lvC x L = (layL x.rounds x.dec L).1 ∧ lvI x L = ine0) ∧
    (insF x = 0 → ¬ 40 < L.length → (layL x.rounds x.dec L).1 = 0 → insF (layE x L) ≠ 0 → lvC x L = insF (layE x L) ∧ lvI x L = ine0) ∧
    (insF x = 0 → ¬ 40 < L.length → (layL x.rounds x.dec L).1 = 0 → insF (layE x L) = 0 → lvC x L = 0 ∧ lvI x L = layE x L) := by
  refine ⟨fun h0 => ?_, fun h0 h1 => ?_, fun h0 h1 h2 => ?_, fun h0 h1 h2 h3 => ?_, fun h0 h1 h2 h3 => ?_⟩
  · have e : lvC x L = insF x := if_neg h0
    exact ⟨e, if_neg (by rw [e]; exact h0)⟩
  · have e : lvC x L = 2 := by unfold lvC; rw [if_pos h0, if_pos h1]
    exact ⟨e, if_neg (by rw [e]; decide)⟩
  · have e : lvC x L = (layL x.rounds x.dec L).1 := by unfold lvC; rw [if_pos h0, if_neg h1, if_neg h2]
    exact ⟨e, if_neg (by rw [e]; exact h2)⟩
  · have e : lvC x L = insF (layE x L) := by unfold lvC; rw [if_pos h0, if_neg h1, if_pos h2]
    exact ⟨e, if_neg (by rw [e]; exact h3)⟩
  · have e : lvC x L = 0 := by unfold lvC; rw [if_pos h0, if_neg h1, if_pos h2, h3]
    exact ⟨e, if_pos e⟩

set_option maxRecDepth 100000 in
set_option maxHeartbeats 8000000 in
theorem implLayVotes_any (p : InstQ) (va0 : Option Addr) (cap0 : Nat) (L : List VoteD) (w : World) (hG : RulO w) (h : instK.rd w p) (hl : p.n ≤ 1048576) (hV : VoteRow w va0 L) (hl' : L.length ≤ 1048576) :
    Calls Tryz.prog 45 #[.agg #[.bool p.has, p.vb, p.vr, p.vd], .slice va0 L.length cap0] w fun e w' => ∃ q : InstQ, e = .returned (.agg (resC (lvC p.e L) 0 false false 0 q)) ∧ q.e = lvI p.e L ∧ instK.own w' q ∧ (instK.foot q).Nodup ∧ (∀ k ∈ instK.foot q, w.heap.size ≤ k) ∧ Below w.heap.size w w' := by
  obtain ⟨hl30, hone⟩ := bd_ok h
  have hbo := fun w hG h => boardOf_any p w hG h hl
  have hrb := fun (w' : World) hb => instK.rd_below (w' := w') h hb
  have hglob := hG.o.glob
  have hin := fun (h0 : insF p.e = 0) (rs : List RoundE) (dec : List Int) w (hT : txnK.At w p.vb p.batch) hw h4 h3 => instance_any p.has p.vb p.batch rs dec w hT (batch_pos h0) (by unfold InstQ.n at hl; omega) hw h4 h3
  change ∀ w hG h, Calls _ _ _ _ fun e w' => e = .returned (.tuple #[.agg (bdOf p).toArray, _]) ∧ _ at hbo
  have HBD : Hid (insF p.e = 0 → bdOf p = brdC p.has p.vb p.e.rounds p.dec ∧ Frm p.e.rounds p.dec ∧ (∀ rs dec, Frm rs dec → InstE.n ⟨p.e.has, p.e.batch, rs, dec⟩ ≤ 60)) := fun h0 => ⟨if_pos h0, frm_of h0, fun rs dec f => form_small h0 f.w f.h4 f.d⟩
  have HDE0 := lv_facts p.e L
  have hdec : p.e.dec = p.dec := rfl
  unfold layE at HDE0
  rw [hdec] at HDE0
  generalize lvC p.e L = D at *
  generalize lvI p.e L = E at *
  have HDE : Hid _ := HDE0
  clear HDE0 hdec
  generalize bdOf p = BD at *
  have hpe : p.e.has = p.has ∧ p.e.batch = p.batch.map TxnQ.e := ⟨rfl, rfl⟩
  rw [hpe.1, hpe.2] at HBD HDE
  clear hpe
  generalize insF p.e = C at *
  generalize p.e.rounds = rs at *
  obtain ⟨has, vb, batch, vr, rounds, vd, dec⟩ := p
  obtain ⟨ba, bk, rfl⟩ : ∃ a c, vb = .slice a batch.length c := h.1.shape
  obtain ⟨va, vk_, rfl⟩ : ∃ a c, vr = .slice a rounds.length c := h.2.1.shape
  obtain ⟨da, dk, rfl⟩ : ∃ a c, vd = .slice a dec.length c := h.2.2.shape
  dsimp only at hbo hrb HBD HDE hin
  have hT0 : txnK.At w (.slice ba batch.length bk) batch := h.1
  have hB : Below w.heap.size w ((w.alloc (.cells #[.bool has, .slice ba batch.length bk, .slice va rounds.length vk_, .slice da dec.length dk] 28)).alloc (.cells #[.int .i64 0, .int .i64 0, .bool false, .bool false, .int .i64 0, .bool false, .slice none 0 0, .slice none 0 0, .slice none 0 0] 34)) := by go_grown
  have Rb := Blk.new (w.alloc (.cells #[.bool has, .slice ba batch.length bk, .slice va rounds.length vk_, .slice da dec.length dk] 28)) 34 #[.int .i64 0, .int .i64 0, .bool false, .bool false, .int .i64 0, .bool false, .slice none 0 0, .slice none 0 0, .slice none 0 0]
  simp only [World.size_alloc] at Rb
  have hszB : (Tryz.prog.info? 104).map (·.size) = some BD.toArray.size := by rw [List.size_toArray, hl30]; exact sz_board
  have hold : (#[.int .i64 0, .int .i64 0, .int .i64 0, .int .i64 0, .int .i64 0, .int .i64 0, .int .i64 0, .int .i64 0, .int .i64 0, .int .i64 0, .int .i64 0, .int .i64 0, .int .i64 0, .int .i64 0, .int .i64 0, .int .i64 0, .int .i64 0, .int .i64 0, .int .i64 0, .int .i64 0, .int .i64 0, .int .i64 0, .int .i64 0, .int .i64 0, .int .i64 0, .bool false, .slice none 0 0, .int .i64 0, .int .i64 0, .int .i64 0] : Array Value).size = BD.toArray.size := (show 30 = BD.length from hl30.symm)
  go_enter Tryz.func45, Tryz.ntmps45
  go_wp2_with fail
  generalize ((w.alloc (.cells #[.bool has, .slice ba batch.length bk, .slice va rounds.length vk_, .slice da dec.length dk] 28)).alloc (.cells #[.int .i64 0, .int .i64 0, .bool false, .bool false, .int .i64 0, .bool false, .slice none 0 0, .slice none 0 0, .slice none 0 0] 34)) = W at *
  refine (hbo W (hG.r.below hB) (hrb W hB)).mono ?_
  rintro e w1 ⟨rfl, hb1⟩
  replace hB := hB.trans (hb1.mono hB.size)
  replace Rb := Rb.below hb1
  have Bz := Blk.new w1 104 #[.int .i64 0, .int .i64 0, .int .i64 0, .int .i64 0, .int .i64 0, .int .i64 0, .int .i64 0, .int .i64 0, .int .i64 0, .int .i64 0, .int .i64 0, .int .i64 0, .int .i64 0, .int .i64 0, .int .i64 0, .int .i64 0, .int .i64 0, .int .i64 0, .int .i64 0, .int .i64 0, .int .i64 0, .int .i64 0, .int .i64 0, .int .i64 0, .int .i64 0, .bool false, .slice none 0 0, .int .i64 0, .int .i64 0, .int .i64 0]
  have hB2 := below_row (hB.alloc hB.size (.cells #[.int .i64 0, .int .i64 0, .int .i64 0, .int .i64 0, .int .i64 0, .int .i64 0, .int .i64 0, .int .i64 0, .int .i64 0, .int .i64 0, .int .i64 0, .int .i64 0, .int .i64 0, .int .i64 0, .int .i64 0, .int .i64 0, .int .i64 0, .int .i64 0, .int .i64 0, .int .i64 0, .int .i64 0, .int .i64 0, .int .i64 0, .int .i64 0, .int .i64 0, .bool false, .slice none 0 0, .int .i64 0, .int .i64 0, .int .i64 0] 104)) (g := w1.heap.size) hB.size BD.toArray
  have Rb2 : Blk ((w1.alloc (.cells #[.int .i64 0, .int .i64 0, .int .i64 0, .int .i64 0, .int .i64 0, .int .i64 0, .int .i64 0, .int .i64 0, .int .i64 0, .int .i64 0, .int .i64 0, .int .i64 0, .int .i64 0, .int .i64 0, .int .i64 0, .int .i64 0, .int .i64 0, .int .i64 0, .int .i64 0, .int .i64 0, .int .i64 0, .int .i64 0, .int .i64 0, .int .i64 0, .int .i64 0, .bool false, .slice none 0 0, .int .i64 0, .int .i64 0, .int .i64 0] 104)).setRow w1.heap.size BD.toArray) (w.heap.size + 1) 34 #[.int .i64 0, .int .i64 0, .bool false, .bool false, .int .i64 0, .bool false, .slice none 0 0, .slice none 0 0, .slice none 0 0] := (setRow_other _ _ _ _ (by have := Rb.lt; omega)).trans (Rb.below ((Below.refl _ _).alloc (Nat.le_refl _) _))
  have B2 := Bz.row BD.toArray
  have hlt2 := Rb.lt
  clear hbo hrb hb1 Rb
  by_cases h0 : C = 0
  case neg =>
    have E1 : Hid (D = C ∧ E = ine0) := HDE.out.1 h0
    have h0' : (C != 0) = true := by simpa using h0
    clear HDE HBD h0 B2 hin
    have Rr := Rb2.row #[.int .i64 C, .int .i64 0, .bool false, .bool false, .int .i64 0, .bool false, .slice none 0 0, .slice none 0 0, .slice none 0 0]
    have hBr := below_row hB2 (g := w.heap.size + 1) (by omega) #[.int .i64 C, .int .i64 0, .bool false, .bool false, .int .i64 0, .bool false, .slice none 0 0, .slice none 0 0, .slice none 0 0]
    have hsr : (Tryz.prog.info? 34).map (·.size) = some (#[.int .i64 C, .int .i64 0, .bool false, .bool false, .int .i64 0, .bool false, .slice none 0 0, .slice none 0 0, .slice none 0 0] : Array Value).size := sz_res
    go_wp2_with (first | (refine st_row (by kernel_rfl) 104 _ _ rfl _ BD.toArray rfl rfl 104 _ Bz hszB hold hone ?_) | (refine st_row (by kernel_rfl) 34 _ _ rfl _ #[.int .i64 C, .int .i64 0, .bool false, .bool false, .int .i64 0, .bool false, .slice none 0 0, .slice none 0 0, .slice none 0 0] rfl rfl 34 _ Rb2 hsr rfl (by simp [Value.oneCell']) ?_))
    have q0 := Rr.cell 0 _ rfl
    have q1 := Rr.cell 1 _ rfl
    have q2 := Rr.cell 2 _ rfl
    have q3 := Rr.cell 3 _ rfl
    have q4 := Rr.cell 4 _ rfl
    have q5 := Rr.cell 5 _ rfl
    have q6 := Rr.cell 6 _ rfl
    have q7 := Rr.cell 7 _ rfl
    have q8 := Rr.cell 8 _ rfl
    exact bodyPost_ret (v := .agg #[.int .i64 C, .int .i64 0, .bool false, .bool false, .int .i64 0, .bool false, .slice none 0 0, .slice none 0 0, .slice none 0 0]) (by simp [results, Tryz.results45, go_sem, q0, q1, q2, q3, q4, q5, q6, q7, q8]) rfl ⟨inst0, by rw [E1.out.1]; rfl, E1.out.2.symm, inst0_own _, inst0_nd, fun k hk => by rw [inst0_ft] at hk; simp at hk, hBr⟩

  case pos =>
    obtain ⟨hBD, hFr, hSm⟩ := HBD.out h0
    subst h0
    have HB9 : Hid (BD = brdC has (.slice ba batch.length bk) rs dec) := hBD
    have HSM : Hid (∀ rs dec, Frm rs dec → InstE.n ⟨has, batch.map TxnQ.e, rs, dec⟩ ≤ 60) := hSm
    have HDF : Hid ((40 < L.length → D = 2 ∧ E = ine0) ∧ (¬ 40 < L.length → (layL rs dec L).1 ≠ 0 → D = (layL rs dec L).1 ∧ E = ine0) ∧ (¬ 40 < L.length → (layL rs dec L).1 = 0 → insF ⟨has, batch.map TxnQ.e, (layL rs dec L).2.1, (layL rs dec L).2.2⟩ ≠ 0 → D = insF ⟨has, batch.map TxnQ.e, (layL rs dec L).2.1, (layL rs dec L).2.2⟩ ∧ E = ine0) ∧ (¬ 40 < L.length → (layL rs dec L).1 = 0 → insF ⟨has, batch.map TxnQ.e, (layL rs dec L).2.1, (layL rs dec L).2.2⟩ = 0 → D = 0 ∧ E = ⟨has, batch.map TxnQ.e, (layL rs dec L).2.1, (layL rs dec L).2.2⟩)) := ⟨HDE.out.2.1 rfl, HDE.out.2.2.1 rfl, HDE.out.2.2.2.1 rfl, HDE.out.2.2.2.2 rfl⟩
    clear HDE HBD hBD hSm
    have hLi : (L.length : Int) ≤ 1048576 := by omega
    by_cases h40 : 40 < L.length
    case pos =>
      have E1 : Hid (D = 2 ∧ E = ine0) := HDF.out.1 h40
      have h40' : (40 : Int) < (L.length : Int) := by omega
      clear HDF B2 hin HB9
      have Rr := Rb2.row #[.int .i64 2, .int .i64 0, .bool false, .bool false, .int .i64 0, .bool false, .slice none 0 0, .slice none 0 0, .slice none 0 0]
      have hBr := below_row hB2 (g := w.heap.size + 1) (by omega) #[.int .i64 2, .int .i64 0, .bool false, .bool false, .int .i64 0, .bool false, .slice none 0 0, .slice none 0 0, .slice none 0 0]
      have hsr : (Tryz.prog.info? 34).map (·.size) = some (#[.int .i64 2, .int .i64 0, .bool false, .bool false, .int .i64 0, .bool false, .slice none 0 0, .slice none 0 0, .slice none 0 0] : Array Value).size := sz_res
      go_wp2_with (first | (refine st_row (by kernel_rfl) 104 _ _ rfl _ BD.toArray rfl rfl 104 _ Bz hszB hold hone ?_) | (refine st_row (by kernel_rfl) 34 _ _ rfl _ #[.int .i64 2, .int .i64 0, .bool false, .bool false, .int .i64 0, .bool false, .slice none 0 0, .slice none 0 0, .slice none 0 0] rfl rfl 34 _ Rb2 hsr rfl (by simp [Value.oneCell']) ?_))
      have q0 := Rr.cell 0 _ rfl
      have q1 := Rr.cell 1 _ rfl
      have q2 := Rr.cell 2 _ rfl
      have q3 := Rr.cell 3 _ rfl
      have q4 := Rr.cell 4 _ rfl
      have q5 := Rr.cell 5 _ rfl
      have q6 := Rr.cell 6 _ rfl
      have q7 := Rr.cell 7 _ rfl
      have q8 := Rr.cell 8 _ rfl
      exact bodyPost_ret (v := .agg #[.int .i64 2, .int .i64 0, .bool false, .bool false, .int .i64 0, .bool false, .slice none 0 0, .slice none 0 0, .slice none 0 0]) (by simp [results, Tryz.results45, go_sem, q0, q1, q2, q3, q4, q5, q6, q7, q8]) rfl ⟨inst0, by rw [E1.out.1]; rfl, E1.out.2.symm, inst0_own _, inst0_nd, fun k hk => by rw [inst0_ft] at hk; simp at hk, hBr⟩

    case neg =>
      have h40' : ¬ (40 : Int) < (L.length : Int) := by omega
      have HDG : Hid (((layL rs dec L).1 ≠ 0 → D = (layL rs dec L).1 ∧ E = ine0) ∧ ((layL rs dec L).1 = 0 → insF ⟨has, batch.map TxnQ.e, (layL rs dec L).2.1, (layL rs dec L).2.2⟩ ≠ 0 → D = insF ⟨has, batch.map TxnQ.e, (layL rs dec L).2.1, (layL rs dec L).2.2⟩ ∧ E = ine0) ∧ ((layL rs dec L).1 = 0 → insF ⟨has, batch.map TxnQ.e, (layL rs dec L).2.1, (layL rs dec L).2.2⟩ = 0 → D = 0 ∧ E = ⟨has, batch.map TxnQ.e, (layL rs dec L).2.1, (layL rs dec L).2.2⟩)) := ⟨HDF.out.2.1 h40, HDF.out.2.2.1 h40, HDF.out.2.2.2 h40⟩
      clear HDF
      go_wp2_with (first | (refine st_row (by kernel_rfl) 104 _ _ rfl _ BD.toArray rfl rfl 104 _ Bz hszB hold hone ?_))
      have hgo : w1.heap.size ≠ 0 := by have := hB.size; omega
      generalize ((w1.alloc (.cells #[.int .i64 0, .int .i64 0, .int .i64 0, .int .i64 0, .int .i64 0, .int .i64 0, .int .i64 0, .int .i64 0, .int .i64 0, .int .i64 0, .int .i64 0, .int .i64 0, .int .i64 0, .int .i64 0, .int .i64 0, .int .i64 0, .int .i64 0, .int .i64 0, .int .i64 0, .int .i64 0, .int .i64 0, .int .i64 0, .int .i64 0, .int .i64 0, .int .i64 0, .bool false, .slice none 0 0, .int .i64 0, .int .i64 0, .int .i64 0] 104)).setRow w1.heap.size BD.toArray) = X at *
      rw [HB9.out] at B2
      clear Bz hszB hold hone hl30 HB9
      go_loopw [27] (fun j wr => ∃ m : Nat, m ≤ L.length ∧ j = .int .i64 m ∧ Hid ((layL rs dec (L.take m)).1 = 0) ∧ Blk wr w1.heap.size 104 (brdC has (.slice ba batch.length bk) (layL rs dec (L.take m)).2.1 (layL rs dec (L.take m)).2.2).toArray ∧ Blk wr (w.heap.size + 1) 34 #[.int .i64 0, .int .i64 0, .bool false, .bool false, .int .i64 0, .bool false, .slice none 0 0, .slice none 0 0, .slice none 0 0] ∧ Below w.heap.size w wr) (fun j _ => L.length - (intOf j).toNat)
      case atStart => exact ⟨0, Nat.zero_le _, rfl, (rfl : (0 : Int) = 0), by simpa [layL] using B2, Rb2, hB2⟩
      case round =>
        obtain ⟨m, hm, rfl, HM, B3, R3, hb⟩ := hrel
        clear B2 Rb2 hB2
        have hFm : Frm (layL rs dec (L.take m)).2.1 (layL rs dec (L.take m)).2.2 := hFr.all _
        have hR3 := R3.lt
        have hg3 := B3.lt
        have hgs := hB.size
        by_cases hlt : m < L.length
        · obtain ⟨bb, off, rfl, hbs, c0, c1, c2, c3⟩ := (hV.below hb).at m hlt
          have HT := layL_take (rs := rs) (dec := dec) m hlt HM.out
          have HST := fun h => layL_stop (rs := rs) (dec := dec) (L := L) (m + 1) h
          generalize (layL rs dec (L.take m)).2.1 = ra at *
          generalize (layL rs dec (L.take m)).2.2 = rb at *
          generalize L.getD m voteNo = z at *
          obtain ⟨vk, vr, vn, vv⟩ := z
          dsimp only at c0 c1 c2 c3 HT
          have HHT : Hid (_ ∧ _) := ⟨HT, HST⟩
          clear HT HST HM
          have V := Blk.new wr 79 #[.int .i64 vk, .int .i64 vr, .int .i64 vn, .int .i64 vv]
          have hba : Below wr.heap.size wr (wr.alloc (.cells #[.int .i64 vk, .int .i64 vr, .int .i64 vn, .int .i64 vv] 79)) := by go_grown
          have hO3 := hG.o.below hb
          have hly := lay_any w1.heap.size has (.slice ba batch.length bk) ra rb vk vr vn vv _ (hO3.below hba) hgo (B3.below hba) hFm
          replace R3 := R3.below hba
          replace hb := hb.trans (hba.mono hb.size)
          clear B3 hba hO3
          have p0 := V.cell 0 _ rfl
          have p1 := V.cell 1 _ rfl
          have p2 := V.cell 2 _ rfl
          have p3 := V.cell 3 _ rfl
          have hki : (m : Int) < (L.length : Int) := by omega
          clear V
          generalize lay1 ra rb ⟨vk, vr, vn, vv⟩ = L1 at *
          go_wp2_with fail
          clear p0 p1 p2 p3 c0 c1 c2 c3
          generalize wr.alloc (.cells #[.int .i64 vk, .int .i64 vr, .int .i64 vn, .int .i64 vv] 79) = wv at *
          refine hly.mono ?_
          rintro e w4 ⟨rfl, hB4, hU4⟩
          clear hly
          replace R3 := R3.outs hU4 (by simp only [List.mem_singleton]; omega)
          replace hb := Out.keep hb hU4 hb.size (fun k hk => by simp only [List.mem_singleton] at hk; omega)
          clear hU4
          by_cases h1 : L1 = 0
          · subst h1
            have h5 := HHT.out.1
            rw [if_pos rfl] at h5
            have HM' : Hid ((layL rs dec (L.take (m + 1))).1 = 0) := by show _ = _; rw [h5]
            have hB5 : Blk w4 w1.heap.size 104 (brdC has (.slice ba batch.length bk) (layL rs dec (L.take (m + 1))).2.1 (layL rs dec (L.take (m + 1))).2.2).toArray := by
              rw [h5]
              exact hB4 rfl
            clear HHT h5 hB4
            go_wp2
            go_roundw
            case rel => exact ⟨m + 1, by omega, by go_num, HM', hB5, R3, hb⟩
            case measure => simp [intOf]; omega
          · have h1' : (L1 != 0) = true := by simpa using h1
            have h5 := HHT.out.1
            rw [if_neg h1] at h5
            have h6 := HHT.out.2 (by rw [h5]; exact h1)
            have E1 : Hid (D = L1 ∧ E = ine0) := by
              have := HDG.out.1 (by rw [h6, h5]; exact h1)
              rw [h6, h5] at this
              exact this
            clear HHT h5 h6 hB4 HDG hin
            have Rr := R3.row #[.int .i64 L1, .int .i64 0, .bool false, .bool false, .int .i64 0, .bool false, .slice none 0 0, .slice none 0 0, .slice none 0 0]
            have hBr := below_row hb (g := w.heap.size + 1) (by omega) #[.int .i64 L1, .int .i64 0, .bool false, .bool false, .int .i64 0, .bool false, .slice none 0 0, .slice none 0 0, .slice none 0 0]
            have hsr : (Tryz.prog.info? 34).map (·.size) = some (#[.int .i64 L1, .int .i64 0, .bool false, .bool false, .int .i64 0, .bool false, .slice none 0 0, .slice none 0 0, .slice none 0 0] : Array Value).size := sz_res
            go_wp2_with (first | (refine st_row (by kernel_rfl) 34 _ _ rfl _ #[.int .i64 L1, .int .i64 0, .bool false, .bool false, .int .i64 0, .bool false, .slice none 0 0, .slice none 0 0, .slice none 0 0] rfl rfl 34 _ R3 hsr rfl (by simp [Value.oneCell']) ?_))
            have q0 := Rr.cell 0 _ rfl
            have q1 := Rr.cell 1 _ rfl
            have q2 := Rr.cell 2 _ rfl
            have q3 := Rr.cell 3 _ rfl
            have q4 := Rr.cell 4 _ rfl
            have q5 := Rr.cell 5 _ rfl
            have q6 := Rr.cell 6 _ rfl
            have q7 := Rr.cell 7 _ rfl
            have q8 := Rr.cell 8 _ rfl
            exact bodyPost_ret (v := .agg #[.int .i64 L1, .int .i64 0, .bool false, .bool false, .int .i64 0, .bool false, .slice none 0 0, .slice none 0 0, .slice none 0 0]) (by simp [results, Tryz.results45, go_sem, q0, q1, q2, q3, q4, q5, q6, q7, q8]) rfl ⟨inst0, by rw [E1.out.1]; rfl, E1.out.2.symm, inst0_own _, inst0_nd, fun k hk => by rw [inst0_ft] at hk; simp at hk, hBr⟩

        · have hml : m = L.length := by omega
          subst hml
          rw [List.take_length] at HM B3 hFm
          have HE := HDG.out.2
          have hin' := fun w hT => hin (by trivial) (layL rs dec L).2.1 (layL rs dec L).2.2 w hT hFm.w hFm.h4 hFm.d
          have hsm := HSM.out _ _ hFm
          have hs30 : (Tryz.prog.info? 104).map (·.size) = some (brdC has (.slice ba batch.length bk) (layL rs dec L).2.1 (layL rs dec L).2.2).length := by rw [brdC_length hFm.w hFm.h4 hFm.d]; exact sz_board
          have HE2 : Hid ((insF ⟨has, batch.map TxnQ.e, (layL rs dec L).2.1, (layL rs dec L).2.2⟩ ≠ 0 → D = insF ⟨has, batch.map TxnQ.e, (layL rs dec L).2.1, (layL rs dec L).2.2⟩ ∧ E = ine0) ∧ (insF ⟨has, batch.map TxnQ.e, (layL rs dec L).2.1, (layL rs dec L).2.2⟩ = 0 → D = 0 ∧ E = ⟨has, batch.map TxnQ.e, (layL rs dec L).2.1, (layL rs dec L).2.2⟩)) := ⟨HE.1 HM.out, HE.2 HM.out⟩
          clear HE HDG HSM hin hFm HM
          generalize (layL rs dec L).2.1 = ra at *
          generalize (layL rs dec L).2.2 = rb at *
          have X4 := rng B3 (brdC has (.slice ba batch.length bk) ra rb) (o := 0) (fun j v hv => by rw [Nat.zero_add, List.getElem?_toArray]; exact hv)
          have hki : ¬ (L.length : Int) < (L.length : Int) := by omega
          clear B3
          go_wp2_with (first | (refine ld_g (by kernel_rfl) 104 _ rfl _ _ rfl (brdC has (.slice ba batch.length bk) ra rb) _ X4 Tryz.underlying104 rfl hs30 ?_))
          clear X4 hs30
          refine (hin' wr (hT0.below hb)).mono ?_
          rintro e w5 ⟨q, rfl, eq, oq, nq, gq, hb5⟩
          clear hin'
          have hqn : q.n ≤ 1048576 := by rw [inst_ne, eq]; omega
          have L5 : ∀ k ∈ instK.foot q, w.heap.size + 2 ≤ k := fun k hk => by have := gq k hk; omega
          have U5 : ∀ k ∈ instK.foot q, k < w5.heap.size := fun k hk => instK.own_lt oq k hk
          replace R3 := R3.below hb5
          replace hb := hb.trans (hb5.mono hb.size)
          clear gq hb5 hsm
          have hIF := fun w hG h => implInstanceFault_any q w hG h hqn
          rw [eq] at hIF
          have HQ0 : Hid (q.e = ⟨has, batch.map TxnQ.e, ra, rb⟩ ∧ (instK.foot q).Nodup) := ⟨eq, nq⟩
          clear eq nq hqn
          generalize insF ⟨has, batch.map TxnQ.e, ra, rb⟩ = IF at *
          obtain ⟨qh, qb, qbs, qr, qrs, qd, qds⟩ := q
          obtain ⟨s1, t1, rfl⟩ : ∃ a c, qb = .slice a qbs.length c := oq.1.shape
          obtain ⟨s2, t2, rfl⟩ : ∃ a c, qr = .slice a qrs.length c := oq.2.1.shape
          obtain ⟨s3, t3, rfl⟩ : ∃ a c, qd = .slice a qds.length c := oq.2.2.shape
          dsimp only at hIF
          have BI := Blk.new w5 28 #[.bool qh, .slice s1 qbs.length t1, .slice s2 qrs.length t2, .slice s3 qds.length t3]
          have hba : Below w5.heap.size w5 (w5.alloc (.cells #[.bool qh, .slice s1 qbs.length t1, .slice s2 qrs.length t2, .slice s3 qds.length t3] 28)) := by go_grown
          replace oq := instK.own_out (F := []) oq (Out.of_below hba) (fun _ _ => by simp)
          replace R3 := R3.below hba
          replace hb := hb.trans (hba.mono hb.size)
          have hrd := instK.own_rd oq
          clear hba
          have p0 := BI.cell 0 _ rfl
          have p1 := BI.cell 1 _ rfl
          have p2 := BI.cell 2 _ rfl
          have p3 := BI.cell 3 _ rfl
          go_wp2_with fail
          clear p0 p1 p2 p3
          generalize w5.alloc (.cells #[.bool qh, .slice s1 qbs.length t1, .slice s2 qrs.length t2, .slice s3 qds.length t3] 28) = w6 at *
          refine (hIF w6 (hG.r.below hb) hrd).mono ?_
          rintro e w7 ⟨rfl, hb7⟩
          clear hIF hrd
          replace BI := BI.below hb7
          replace oq := instK.own_out (F := []) oq (Out.of_below hb7) (fun _ _ => by simp)
          replace R3 := R3.below hb7
          replace hb := hb.trans (hb7.mono hb.size)
          clear hb7
          by_cases hI : IF = 0
          case neg =>
            have hI' : (IF != 0) = true := by simpa using hI
            have E1 : Hid (D = IF ∧ E = ine0) := HE2.out.1 hI
            clear HE2 oq
            have Rr := R3.row #[.int .i64 IF, .int .i64 0, .bool false, .bool false, .int .i64 0, .bool false, .slice none 0 0, .slice none 0 0, .slice none 0 0]
            have hBr := below_row hb (g := w.heap.size + 1) (by omega) #[.int .i64 IF, .int .i64 0, .bool false, .bool false, .int .i64 0, .bool false, .slice none 0 0, .slice none 0 0, .slice none 0 0]
            have hsr : (Tryz.prog.info? 34).map (·.size) = some (#[.int .i64 IF, .int .i64 0, .bool false, .bool false, .int .i64 0, .bool false, .slice none 0 0, .slice none 0 0, .slice none 0 0] : Array Value).size := sz_res
            go_wp2_with (first | (refine st_row (by kernel_rfl) 34 _ _ rfl _ #[.int .i64 IF, .int .i64 0, .bool false, .bool false, .int .i64 0, .bool false, .slice none 0 0, .slice none 0 0, .slice none 0 0] rfl rfl 34 _ R3 hsr rfl (by simp [Value.oneCell']) ?_))
            have q0 := Rr.cell 0 _ rfl
            have q1 := Rr.cell 1 _ rfl
            have q2 := Rr.cell 2 _ rfl
            have q3 := Rr.cell 3 _ rfl
            have q4 := Rr.cell 4 _ rfl
            have q5 := Rr.cell 5 _ rfl
            have q6 := Rr.cell 6 _ rfl
            have q7 := Rr.cell 7 _ rfl
            have q8 := Rr.cell 8 _ rfl
            exact bodyPost_ret (v := .agg #[.int .i64 IF, .int .i64 0, .bool false, .bool false, .int .i64 0, .bool false, .slice none 0 0, .slice none 0 0, .slice none 0 0]) (by simp [results, Tryz.results45, go_sem, q0, q1, q2, q3, q4, q5, q6, q7, q8]) rfl ⟨inst0, by rw [E1.out.1]; rfl, E1.out.2.symm, inst0_own _, inst0_nd, fun k hk => by rw [inst0_ft] at hk; simp at hk, hBr⟩

          case pos =>
            obtain ⟨eD, eE⟩ := HE2.out.2 hI
            subst hI
            have hous : ∀ cs, instK.own (w7.setRow (w.heap.size + 1) cs) (⟨qh, .slice s1 qbs.length t1, qbs, .slice s2 qrs.length t2, qrs, .slice s3 qds.length t3, qds⟩ : InstQ) := fun cs => instK.own_out oq (out_row w7 (w.heap.size + 1) cs) (fun k hk => by have := L5 k hk; simp only [List.mem_singleton]; omega)
            have HQ : Hid (((⟨qh, .slice s1 qbs.length t1, qbs, .slice s2 qrs.length t2, qrs, .slice s3 qds.length t3, qds⟩ : InstQ)).e = E ∧ (instK.foot (⟨qh, .slice s1 qbs.length t1, qbs, .slice s2 qrs.length t2, qrs, .slice s3 qds.length t3, qds⟩ : InstQ)).Nodup ∧ (∀ k ∈ instK.foot (⟨qh, .slice s1 qbs.length t1, qbs, .slice s2 qrs.length t2, qrs, .slice s3 qds.length t3, qds⟩ : InstQ), w.heap.size ≤ k) ∧ ∀ cs, instK.own (w7.setRow (w.heap.size + 1) cs) (⟨qh, .slice s1 qbs.length t1, qbs, .slice s2 qrs.length t2, qrs, .slice s3 qds.length t3, qds⟩ : InstQ)) := ⟨by rw [HQ0.out.1, eE], HQ0.out.2, fun k hk => by have := L5 k hk; omega, hous⟩
            have HD0 : Hid (D = 0) := eD
            clear HE2 HQ0 eD eE hous L5 U5 oq
            have p0 := BI.cell 0 _ rfl
            have p1 := BI.cell 1 _ rfl
            have p2 := BI.cell 2 _ rfl
            have p3 := BI.cell 3 _ rfl
            have Rr := R3.row #[.int .i64 0, .int .i64 0, .bool false, .bool false, .int .i64 0, .bool qh, .slice s1 qbs.length t1, .slice s2 qrs.length t2, .slice s3 qds.length t3]
            have hBr := below_row hb (g := w.heap.size + 1) (by omega) #[.int .i64 0, .int .i64 0, .bool false, .bool false, .int .i64 0, .bool qh, .slice s1 qbs.length t1, .slice s2 qrs.length t2, .slice s3 qds.length t3]
            have hsr : (Tryz.prog.info? 34).map (·.size) = some (#[.int .i64 0, .int .i64 0, .bool false, .bool false, .int .i64 0, .bool qh, .slice s1 qbs.length t1, .slice s2 qrs.length t2, .slice s3 qds.length t3] : Array Value).size := sz_res
            go_wp2_with (first | (refine st_row (by kernel_rfl) 34 _ _ rfl _ #[.int .i64 0, .int .i64 0, .bool false, .bool false, .int .i64 0, .bool qh, .slice s1 qbs.length t1, .slice s2 qrs.length t2, .slice s3 qds.length t3] rfl rfl 34 _ R3 hsr rfl (by simp [Value.oneCell']) ?_))
            have q0 := Rr.cell 0 _ rfl
            have q1 := Rr.cell 1 _ rfl
            have q2 := Rr.cell 2 _ rfl
            have q3 := Rr.cell 3 _ rfl
            have q4 := Rr.cell 4 _ rfl
            have q5 := Rr.cell 5 _ rfl
            have q6 := Rr.cell 6 _ rfl
            have q7 := Rr.cell 7 _ rfl
            have q8 := Rr.cell 8 _ rfl
            exact bodyPost_ret (v := .agg #[.int .i64 0, .int .i64 0, .bool false, .bool false, .int .i64 0, .bool qh, .slice s1 qbs.length t1, .slice s2 qrs.length t2, .slice s3 qds.length t3]) (by simp [results, Tryz.results45, go_sem, q0, q1, q2, q3, q4, q5, q6, q7, q8]) rfl ⟨(⟨qh, .slice s1 qbs.length t1, qbs, .slice s2 qrs.length t2, qrs, .slice s3 qds.length t3, qds⟩ : InstQ), by rw [HD0.out], HQ.out.1, HQ.out.2.2.2 _, HQ.out.2.1, HQ.out.2.2.1, hBr⟩

end Go.Proofs.YtpjmlidbligcbaaGreatDoor
