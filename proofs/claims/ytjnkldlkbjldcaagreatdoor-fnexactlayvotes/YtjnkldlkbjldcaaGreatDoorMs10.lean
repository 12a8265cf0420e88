/- The model's LayVotes. No condition. -/
import Derived.Test.YtjnkldlkbjldcaaGreatDoorMl10
import Derived.Test.YtjnkldlkbjldcaaGreatDoorLv10
namespace Go.Proofs.YtjnkldlkbjldcaaGreatDoor
open Go.RowKit
open Go.BigFrame
set_option linter.unusedVariables false
set_option maxRecDepth 100000
set_option linter.unusedSimpArgs false

set_option maxRecDepth 100000 in
set_option maxHeartbeats 8000000 in
theorem specLayVotes_any (p : InstQ) (va0 : Option Addr) (cap0 : Nat) (L : List VoteD) (w : World) (h : instK.rd w p) (hl : p.n ≤ 1048576) (hV : VoteRow w va0 L) (hl' : L.length ≤ 1048576) :
    Calls Tryz.prog 17 #[.agg #[.bool p.has, p.vb, p.vr, p.vd], .slice va0 L.length cap0] w fun e w' => ∃ q : InstQ, e = .returned (.agg (resC (lvC p.e L) 0 false false 0 q)) ∧ q.e = lvI p.e L ∧ instK.own w' q ∧ (instK.foot q).Nodup ∧ (∀ k ∈ instK.foot q, w.heap.size ≤ k) ∧ Below w.heap.size w w' := by
  have hB : Below w.heap.size w ((w.alloc (.cells #[.bool p.has, p.vb, p.vr, p.vd] 28)).alloc (.cells #[.int .i64 0, .int .i64 0, .bool false, .bool false, .int .i64 0, .bool false, .slice none 0 0, .slice none 0 0, .slice none 0 0] 39)) := by go_grown
  have Rb := Blk.new (w.alloc (.cells #[.bool p.has, p.vb, p.vr, p.vd] 28)) 39 #[.int .i64 0, .int .i64 0, .bool false, .bool false, .int .i64 0, .bool false, .slice none 0 0, .slice none 0 0, .slice none 0 0]
  rw [World.size_alloc] at Rb
  have hws : w.heap.size + 2 ≤ ((w.alloc (.cells #[.bool p.has, p.vb, p.vr, p.vd] 28)).alloc (.cells #[.int .i64 0, .int .i64 0, .bool false, .bool false, .int .i64 0, .bool false, .slice none 0 0, .slice none 0 0, .slice none 0 0] 39)).heap.size := by simp
  have hP : InstP ((w.alloc (.cells #[.bool p.has, p.vb, p.vr, p.vd] 28)).alloc (.cells #[.int .i64 0, .int .i64 0, .bool false, .bool false, .int .i64 0, .bool false, .slice none 0 0, .slice none 0 0, .slice none 0 0] 39)) w.heap.size 0 p := ⟨(box4_new w _ _ _ _ 28).below (by go_grown), instK.rd_below h hB⟩
  have hf1 := l6Fault_any w.heap.size 0 p _ hP hl
  have hcp := fun (h0 : insF p.e = 0) w h => l6Copy_any p w h hl (ins_low h0).1 (ins_low h0).2.1 (ins_low h0).2.2
  have HFR : Hid (insF p.e = 0 → Frm p.e.rounds p.e.dec ∧ (∀ rs dec, Frm rs dec → InstE.n ⟨p.e.has, p.e.batch, rs, dec⟩ ≤ 60)) := fun h0 => ⟨frm_of h0, fun rs dec f => form_small h0 f.w f.h4 f.d⟩
  have HDE : Hid _ := lv_facts p.e L
  generalize lvC p.e L = D at *
  generalize lvI p.e L = E at *
  generalize hpe : p.e = pe at *
  generalize insF pe = C at *
  have hLi : (L.length : Int) ≤ 1048576 := by omega
  go_enter Tryz.func17, Tryz.ntmps17
  go_wp2_with fail
  generalize ((w.alloc (.cells #[.bool p.has, p.vb, p.vr, p.vd] 28)).alloc (.cells #[.int .i64 0, .int .i64 0, .bool false, .bool false, .int .i64 0, .bool false, .slice none 0 0, .slice none 0 0, .slice none 0 0] 39)) = W at *
  refine hf1.mono ?_
  rintro e w1 ⟨rfl, hb1⟩
  replace hB := hB.trans (hb1.mono hB.size)
  replace Rb := Rb.below hb1
  have hP1 := hP.below hb1
  have hws1 : w.heap.size + 2 ≤ w1.heap.size := by have := hb1.size; omega
  clear hf1 hb1 hP
  by_cases h0 : C = 0
  case neg =>
    have E1 : Hid (D = C ∧ E = ine0) := HDE.out.1 h0
    have h0' : (C != 0) = true := by simpa using h0
    clear HDE h0 hcp HFR
    go_wp2_with fail
    refine (l6Bad_any C _).mono ?_
    rintro e w8 ⟨rfl, hb8⟩
    replace hB := hB.trans (hb8.mono hB.size)
    replace Rb := Rb.below hb8
    clear hb8
    have Rr := Rb.row #[.int .i64 C, .int .i64 0, .bool false, .bool false, .int .i64 0, .bool false, .slice none 0 0, .slice none 0 0, .slice none 0 0]
    have hBr := below_row hB (g := w.heap.size + 1) (by omega) #[.int .i64 C, .int .i64 0, .bool false, .bool false, .int .i64 0, .bool false, .slice none 0 0, .slice none 0 0, .slice none 0 0]
    have hsr : (Tryz.prog.info? 39).map (·.size) = some (#[.int .i64 C, .int .i64 0, .bool false, .bool false, .int .i64 0, .bool false, .slice none 0 0, .slice none 0 0, .slice none 0 0] : Array Value).size := sz_res
    go_wp2_with (first | (refine st_row (by kernel_rfl) 39 _ _ rfl _ #[.int .i64 C, .int .i64 0, .bool false, .bool false, .int .i64 0, .bool false, .slice none 0 0, .slice none 0 0, .slice none 0 0] rfl rfl 39 _ Rb hsr rfl (by simp [Value.oneCell']) ?_))
    have q0 := Rr.cell 0 _ rfl
    have q1 := Rr.cell 1 _ rfl
    have q2 := Rr.cell 2 _ rfl
    have q3 := Rr.cell 3 _ rfl
    have q4 := Rr.cell 4 _ rfl
    have q5 := Rr.cell 5 _ rfl
    have q6 := Rr.cell 6 _ rfl
    have q7 := Rr.cell 7 _ rfl
    have q8 := Rr.cell 8 _ rfl
    exact bodyPost_ret (v := .agg #[.int .i64 C, .int .i64 0, .bool false, .bool false, .int .i64 0, .bool false, .slice none 0 0, .slice none 0 0, .slice none 0 0]) (by simp [results, Tryz.results17, go_sem, q0, q1, q2, q3, q4, q5, q6, q7, q8]) rfl ⟨inst0, by rw [E1.out.1]; rfl, E1.out.2.symm, inst0_own _, inst0_nd, fun k hk => by rw [inst0_ft] at hk; simp at hk, hBr⟩

  case pos =>
    subst h0
    obtain ⟨hFr, hSm⟩ := HFR.out rfl
    have HSM : Hid (∀ rs dec, Frm rs dec → InstE.n ⟨pe.has, pe.batch, rs, dec⟩ ≤ 60) := hSm
    have HDF : Hid ((40 < L.length → D = 2 ∧ E = ine0) ∧ (¬ 40 < L.length → (layL pe.rounds pe.dec L).1 ≠ 0 → D = (layL pe.rounds pe.dec L).1 ∧ E = ine0) ∧ (¬ 40 < L.length → (layL pe.rounds pe.dec L).1 = 0 → insF (layE pe L) ≠ 0 → D = insF (layE pe L) ∧ E = ine0) ∧ (¬ 40 < L.length → (layL pe.rounds pe.dec L).1 = 0 → insF (layE pe L) = 0 → D = 0 ∧ E = layE pe L)) := ⟨HDE.out.2.1 rfl, HDE.out.2.2.1 rfl, HDE.out.2.2.2.1 rfl, HDE.out.2.2.2.2 rfl⟩
    clear HDE HFR hSm
    by_cases h40 : 40 < L.length
    case pos =>
      have E1 : Hid (D = 2 ∧ E = ine0) := HDF.out.1 h40
      have h40' : (40 : Int) < (L.length : Int) := by omega
      clear HDF hcp
      go_wp2_with fail
      refine (l6Bad_any 2 _).mono ?_
      rintro e w8 ⟨rfl, hb8⟩
      replace hB := hB.trans (hb8.mono hB.size)
      replace Rb := Rb.below hb8
      clear hb8
      have Rr := Rb.row #[.int .i64 2, .int .i64 0, .bool false, .bool false, .int .i64 0, .bool false, .slice none 0 0, .slice none 0 0, .slice none 0 0]
      have hBr := below_row hB (g := w.heap.size + 1) (by omega) #[.int .i64 2, .int .i64 0, .bool false, .bool false, .int .i64 0, .bool false, .slice none 0 0, .slice none 0 0, .slice none 0 0]
      have hsr : (Tryz.prog.info? 39).map (·.size) = some (#[.int .i64 2, .int .i64 0, .bool false, .bool false, .int .i64 0, .bool false, .slice none 0 0, .slice none 0 0, .slice none 0 0] : Array Value).size := sz_res
      go_wp2_with (first | (refine st_row (by kernel_rfl) 39 _ _ rfl _ #[.int .i64 2, .int .i64 0, .bool false, .bool false, .int .i64 0, .bool false, .slice none 0 0, .slice none 0 0, .slice none 0 0] rfl rfl 39 _ Rb hsr rfl (by simp [Value.oneCell']) ?_))
      have q0 := Rr.cell 0 _ rfl
      have q1 := Rr.cell 1 _ rfl
      have q2 := Rr.cell 2 _ rfl
      have q3 := Rr.cell 3 _ rfl
      have q4 := Rr.cell 4 _ rfl
      have q5 := Rr.cell 5 _ rfl
      have q6 := Rr.cell 6 _ rfl
      have q7 := Rr.cell 7 _ rfl
      have q8 := Rr.cell 8 _ rfl
      exact bodyPost_ret (v := .agg #[.int .i64 2, .int .i64 0, .bool false, .bool false, .int .i64 0, .bool false, .slice none 0 0, .slice none 0 0, .slice none 0 0]) (by simp [results, Tryz.results17, go_sem, q0, q1, q2, q3, q4, q5, q6, q7, q8]) rfl ⟨inst0, by rw [E1.out.1]; rfl, E1.out.2.symm, inst0_own _, inst0_nd, fun k hk => by rw [inst0_ft] at hk; simp at hk, hBr⟩

    case neg =>
      have h40' : ¬ (40 : Int) < (L.length : Int) := by omega
      have HDG : Hid (((layL pe.rounds pe.dec L).1 ≠ 0 → D = (layL pe.rounds pe.dec L).1 ∧ E = ine0) ∧ ((layL pe.rounds pe.dec L).1 = 0 → insF (layE pe L) ≠ 0 → D = insF (layE pe L) ∧ E = ine0) ∧ ((layL pe.rounds pe.dec L).1 = 0 → insF (layE pe L) = 0 → D = 0 ∧ E = layE pe L)) := ⟨HDF.out.2.1 h40, HDF.out.2.2.1 h40, HDF.out.2.2.2 h40⟩
      clear HDF
      obtain ⟨pa, pk, hpb⟩ : ∃ a c, p.vb = .slice a p.batch.length c := h.1.shape
      obtain ⟨pa2, pk2, hpr⟩ : ∃ a c, p.vr = .slice a p.rounds.length c := h.2.1.shape
      obtain ⟨pa3, pk3, hpd⟩ : ∃ a c, p.vd = .slice a p.dec.length c := h.2.2.shape
      obtain ⟨c0, c1, c2, c3⟩ := hP1.box.zero
      have hrd1 := hP1.rd
      rw [hpb] at c1
      rw [hpr] at c2
      rw [hpd] at c3
      have hcp1 := hcp (by trivial) w1 hrd1
      rw [hpb, hpr, hpd] at hcp1
      go_wp2_with fail
      clear c0 c1 c2 c3
      refine hcp1.mono ?_
      rintro e w3 ⟨q, rfl, eq, oq, nq, gq, hb3⟩
      clear hcp hcp1 hrd1 hP1
      replace hB := hB.trans (hb3.mono hB.size)
      replace Rb := Rb.below hb3
      have U3 := fun k hk => instK.own_lt oq k hk
      have L3 : ∀ k ∈ instK.foot q, w.heap.size + 2 ≤ k := fun k hk => by have := gq k hk; omega
      have hs3 : w.heap.size + 2 ≤ w3.heap.size := by have := hb3.size; omega
      clear hb3 gq
      obtain ⟨qh, qb, qbs, qr, qrs, qd, qds⟩ := q
      obtain ⟨s1, t1, rfl⟩ : ∃ a c, qb = .slice a qbs.length c := oq.1.shape
      obtain ⟨s2, t2, rfl⟩ : ∃ a c, qr = .slice a qrs.length c := oq.2.1.shape
      obtain ⟨s3, t3, rfl⟩ : ∃ a c, qd = .slice a qds.length c := oq.2.2.shape
      have BI := Blk.new w3 28 #[.bool qh, .slice s1 qbs.length t1, .slice s2 qrs.length t2, .slice s3 qds.length t3]
      have hba : Below w3.heap.size w3 (w3.alloc (.cells #[.bool qh, .slice s1 qbs.length t1, .slice s2 qrs.length t2, .slice s3 qds.length t3] 28)) := by go_grown
      replace oq := instK.own_out (F := []) oq (Out.of_below hba) (fun _ _ => by simp)
      replace Rb := Rb.below hba
      replace hB := hB.trans (hba.mono hB.size)
      have hgk : ∀ k ∈ instK.foot (⟨qh, .slice s1 qbs.length t1, qbs, .slice s2 qrs.length t2, qrs, .slice s3 qds.length t3, qds⟩ : InstQ), w.heap.size + 2 ≤ k ∧ k ≠ w3.heap.size := fun k hk => ⟨L3 k hk, by have := U3 k hk; omega⟩
      clear hba U3 L3
      have HQ0 : Hid (((⟨qh, .slice s1 qbs.length t1, qbs, .slice s2 qrs.length t2, qrs, .slice s3 qds.length t3, qds⟩ : InstQ)).e = pe) := eq
      clear eq
      go_wp2_with fail
      generalize w3.alloc (.cells #[.bool qh, .slice s1 qbs.length t1, .slice s2 qrs.length t2, .slice s3 qds.length t3] 28) = w4 at *
      have hg4 := BI.lt
      go_loopw [7] (fun j wr => ∃ (m : Nat) (q1 : InstQ), m ≤ L.length ∧ j = .int .i64 m ∧ Hid ((layL pe.rounds pe.dec (L.take m)).1 = 0) ∧ Hid (q1.e = ⟨pe.has, pe.batch, (layL pe.rounds pe.dec (L.take m)).2.1, (layL pe.rounds pe.dec (L.take m)).2.2⟩) ∧ Blk wr w3.heap.size 28 #[.bool q1.has, q1.vb, q1.vr, q1.vd] ∧ instK.own wr q1 ∧ Hid ((instK.foot q1).Nodup ∧ ∀ k ∈ instK.foot q1, w.heap.size + 2 ≤ k ∧ k ≠ w3.heap.size) ∧ Blk wr (w.heap.size + 1) 39 #[.int .i64 0, .int .i64 0, .bool false, .bool false, .int .i64 0, .bool false, .slice none 0 0, .slice none 0 0, .slice none 0 0] ∧ Below w.heap.size w wr) (fun j _ => L.length - (intOf j).toNat)
      case atStart => exact ⟨0, (⟨qh, .slice s1 qbs.length t1, qbs, .slice s2 qrs.length t2, qrs, .slice s3 qds.length t3, qds⟩ : InstQ), Nat.zero_le _, rfl, (rfl : (0 : Int) = 0), HQ0.out, BI, oq, ⟨nq, hgk⟩, Rb, hB⟩
      case round =>
        obtain ⟨m, q1, hm, rfl, HM, HE1, B1, o1, HN1, R1, hb⟩ := hrel
        clear BI oq nq hgk HQ0 Rb hB
        have hR1 := R1.lt
        have hg1 := B1.lt
        have hFm : Frm (layL pe.rounds pe.dec (L.take m)).2.1 (layL pe.rounds pe.dec (L.take m)).2.2 := hFr.all _
        by_cases hlt : m < L.length
        · obtain ⟨bb, off, rfl, hbs, c0, c1, c2, c3⟩ := hV.at m hlt
          have HT := layL_take (rs := pe.rounds) (dec := pe.dec) m hlt HM.out
          have HST := fun h => layL_stop (rs := pe.rounds) (dec := pe.dec) (L := L) (m + 1) h
          have he1 := HE1.out
          generalize (layL pe.rounds pe.dec (L.take m)).2.1 = ra at *
          generalize (layL pe.rounds pe.dec (L.take m)).2.2 = rb at *
          generalize L.getD m voteNo = z at *
          obtain ⟨vk, vr, vn, vv⟩ := z
          dsimp only at c0 c1 c2 c3 HT
          have hX : Box4 wr bb (off + m * 4) (.int .i64 vk) (.int .i64 vr) (.int .i64 vn) (.int .i64 vv) := ⟨cellB c0 hb, cellB c1 hb, cellB c2 hb, cellB c3 hb⟩
          have hlf := fun w hX => l10Fault_any bb (off + m * 4) vk vr vn vv w hX
          have e5 : q1.e.rounds = ra := by rw [he1]
          have e6 : q1.e.dec = rb := by rw [he1]
          have e7 : q1.e.has = pe.has := by rw [he1]
          have e8 : q1.e.batch = pe.batch := by rw [he1]
          have hone := fun w hG oq hB hv => l10One_any w3.heap.size q1 bb (off + m * 4) vk vr vn vv w hG oq HN1.out.1 (fun hh => (HN1.out.2 _ hh).2 rfl) (by rw [e5, e6]; exact hFm) hB (by omega) (fun hh => by have := (HN1.out.2 _ hh).1; omega) hv
          rw [e5, e6, e7, e8] at hone
          have HV0 : Hid (voteF ⟨vk, vr, vn, vv⟩ ≠ 0 → lay1 ra rb ⟨vk, vr, vn, vv⟩ = voteF ⟨vk, vr, vn, vv⟩) := fun hh => if_neg hh
          have HHT : Hid (_ ∧ _) := ⟨HT, HST⟩
          have hki : (m : Int) < (L.length : Int) := by omega
          clear HT HST HM c0 c1 c2 c3 HE1 he1 e5 e6 e7 e8
          generalize lay1 ra rb ⟨vk, vr, vn, vv⟩ = L1 at *
          generalize hVF : voteF ⟨vk, vr, vn, vv⟩ = VF at *
          go_wp2_with fail
          refine (hlf wr hX).mono ?_
          rintro e w5 ⟨rfl, hw5⟩
          replace hw5 := hw5.symm
          subst hw5
          clear hlf
          by_cases hvf : VF = 0
          case neg =>
            have hvf' : (VF != 0) = true := by simpa using hvf
            have e9 := HV0.out hvf
            have h5 := HHT.out.1
            rw [e9, if_neg hvf] at h5
            have h6 := HHT.out.2 (by rw [h5]; exact hvf)
            have E1 : Hid (D = VF ∧ E = ine0) := by
              have := HDG.out.1 (by rw [h6, h5]; exact hvf)
              rw [h6, h5] at this
              exact this
            clear HHT h5 h6 HDG hone HV0 hVF
            go_wp2_with fail
            refine (l6Bad_any VF _).mono ?_
            rintro e w8 ⟨rfl, hb8⟩
            replace hb := hb.trans (hb8.mono hb.size)
            replace R1 := R1.below hb8
            clear hb8
            have Rr := R1.row #[.int .i64 VF, .int .i64 0, .bool false, .bool false, .int .i64 0, .bool false, .slice none 0 0, .slice none 0 0, .slice none 0 0]
            have hBr := below_row hb (g := w.heap.size + 1) (by omega) #[.int .i64 VF, .int .i64 0, .bool false, .bool false, .int .i64 0, .bool false, .slice none 0 0, .slice none 0 0, .slice none 0 0]
            have hsr : (Tryz.prog.info? 39).map (·.size) = some (#[.int .i64 VF, .int .i64 0, .bool false, .bool false, .int .i64 0, .bool false, .slice none 0 0, .slice none 0 0, .slice none 0 0] : Array Value).size := sz_res
            go_wp2_with (first | (refine st_row (by kernel_rfl) 39 _ _ rfl _ #[.int .i64 VF, .int .i64 0, .bool false, .bool false, .int .i64 0, .bool false, .slice none 0 0, .slice none 0 0, .slice none 0 0] rfl rfl 39 _ R1 hsr rfl (by simp [Value.oneCell']) ?_))
            have q0 := Rr.cell 0 _ rfl
            have q1 := Rr.cell 1 _ rfl
            have q2 := Rr.cell 2 _ rfl
            have q3 := Rr.cell 3 _ rfl
            have q4 := Rr.cell 4 _ rfl
            have q5 := Rr.cell 5 _ rfl
            have q6 := Rr.cell 6 _ rfl
            have q7 := Rr.cell 7 _ rfl
            have q8 := Rr.cell 8 _ rfl
            exact bodyPost_ret (v := .agg #[.int .i64 VF, .int .i64 0, .bool false, .bool false, .int .i64 0, .bool false, .slice none 0 0, .slice none 0 0, .slice none 0 0]) (by simp [results, Tryz.results17, go_sem, q0, q1, q2, q3, q4, q5, q6, q7, q8]) rfl ⟨inst0, by rw [E1.out.1]; rfl, E1.out.2.symm, inst0_own _, inst0_nd, fun k hk => by rw [inst0_ft] at hk; simp at hk, hBr⟩

          case pos =>
            subst hvf
            go_wp2_with fail
            refine (hone wr B1 o1 hX (by first | exact hVF | trivial)).mono ?_
            rintro e w6 ⟨rfl, hq6, hU6⟩
            have hws6 := hU6.size
            replace R1 := R1.outs hU6 (fun hh => by
              rcases List.mem_cons.1 hh with hh | hh
              · omega
              · have := (HN1.out.2 _ hh).1; omega)
            replace hb := Out.keep hb hU6 hb.size (fun k hk => by
              rcases List.mem_cons.1 hk with rfl | hk
              · omega
              · have := (HN1.out.2 _ hk).1; omega)
            clear hone hU6 HV0 B1 o1 hX hVF
            by_cases h1 : L1 = 0
            · subst h1
              obtain ⟨q2, e2, B2, o2, n2, f2⟩ := hq6 rfl
              have h5 := HHT.out.1
              rw [if_pos rfl] at h5
              have HM' : Hid ((layL pe.rounds pe.dec (L.take (m + 1))).1 = 0) := by show _ = _; rw [h5]
              have HE2 : Hid (q2.e = ⟨pe.has, pe.batch, (layL pe.rounds pe.dec (L.take (m + 1))).2.1, (layL pe.rounds pe.dec (L.take (m + 1))).2.2⟩) := by show _ = _; rw [h5]; exact e2
              have HN2 : Hid ((instK.foot q2).Nodup ∧ ∀ k ∈ instK.foot q2, w.heap.size + 2 ≤ k ∧ k ≠ w3.heap.size) := ⟨n2, fun k hk => by
                rcases f2 k hk with hk | hk
                · exact HN1.out.2 k hk
                · exact ⟨by omega, by omega⟩⟩
              clear HHT h5 hq6 e2 n2 f2 HN1
              go_wp2
              go_roundw
              case rel => exact ⟨m + 1, q2, by omega, by go_num, HM', HE2, B2, o2, HN2, R1, hb⟩
              case measure => simp [intOf]; omega
            · have h1' : (L1 != 0) = true := by simpa using h1
              have h5 := HHT.out.1
              rw [if_neg h1] at h5
              have h6 := HHT.out.2 (by rw [h5]; exact h1)
              have E1 : Hid (D = L1 ∧ E = ine0) := by
                have := HDG.out.1 (by rw [h6, h5]; exact h1)
                rw [h6, h5] at this
                exact this
              clear HHT h5 h6 hq6 HDG HN1
              go_wp2_with fail
              refine (l6Bad_any L1 _).mono ?_
              rintro e w8 ⟨rfl, hb8⟩
              replace hb := hb.trans (hb8.mono hb.size)
              replace R1 := R1.below hb8
              clear hb8
              have Rr := R1.row #[.int .i64 L1, .int .i64 0, .bool false, .bool false, .int .i64 0, .bool false, .slice none 0 0, .slice none 0 0, .slice none 0 0]
              have hBr := below_row hb (g := w.heap.size + 1) (by omega) #[.int .i64 L1, .int .i64 0, .bool false, .bool false, .int .i64 0, .bool false, .slice none 0 0, .slice none 0 0, .slice none 0 0]
              have hsr : (Tryz.prog.info? 39).map (·.size) = some (#[.int .i64 L1, .int .i64 0, .bool false, .bool false, .int .i64 0, .bool false, .slice none 0 0, .slice none 0 0, .slice none 0 0] : Array Value).size := sz_res
              go_wp2_with (first | (refine st_row (by kernel_rfl) 39 _ _ rfl _ #[.int .i64 L1, .int .i64 0, .bool false, .bool false, .int .i64 0, .bool false, .slice none 0 0, .slice none 0 0, .slice none 0 0] rfl rfl 39 _ R1 hsr rfl (by simp [Value.oneCell']) ?_))
              have q0 := Rr.cell 0 _ rfl
              have q1 := Rr.cell 1 _ rfl
              have q2 := Rr.cell 2 _ rfl
              have q3 := Rr.cell 3 _ rfl
              have q4 := Rr.cell 4 _ rfl
              have q5 := Rr.cell 5 _ rfl
              have q6 := Rr.cell 6 _ rfl
              have q7 := Rr.cell 7 _ rfl
              have q8 := Rr.cell 8 _ rfl
              exact bodyPost_ret (v := .agg #[.int .i64 L1, .int .i64 0, .bool false, .bool false, .int .i64 0, .bool false, .slice none 0 0, .slice none 0 0, .slice none 0 0]) (by simp [results, Tryz.results17, go_sem, q0, q1, q2, q3, q4, q5, q6, q7, q8]) rfl ⟨inst0, by rw [E1.out.1]; rfl, E1.out.2.symm, inst0_own _, inst0_nd, fun k hk => by rw [inst0_ft] at hk; simp at hk, hBr⟩

        · have hml : m = L.length := by omega
          subst hml
          rw [List.take_length] at HM HE1 hFm
          have hq1n : q1.n ≤ 1048576 := by rw [inst_ne, HE1.out]; exact Nat.le_trans (HSM.out _ _ hFm) (by omega)
          have hki : ¬ (L.length : Int) < (L.length : Int) := by omega
          have he2 : q1.e = layE pe L := HE1.out
          have hP6 : InstP wr w3.heap.size 0 q1 := ⟨⟨B1.cell 0 _ rfl, B1.cell 1 _ rfl, B1.cell 2 _ rfl, B1.cell 3 _ rfl⟩, instK.own_rd o1⟩
          have hf6 := l6Fault_any w3.heap.size 0 q1 wr hP6 hq1n
          rw [he2] at hf6
          have HE3 : Hid ((insF (layE pe L) ≠ 0 → D = insF (layE pe L) ∧ E = ine0) ∧ (insF (layE pe L) = 0 → D = 0 ∧ E = q1.e)) := ⟨HDG.out.2.1 HM.out, fun hh => by rw [he2]; exact HDG.out.2.2 HM.out hh⟩
          clear HDG HM HE1 HSM hFm he2 hP6
          generalize insF (layE pe L) = IF at *
          go_wp2_with fail
          refine hf6.mono ?_
          rintro e w7 ⟨rfl, hb7⟩
          replace B1 := B1.below hb7
          replace o1 := instK.own_out (F := []) o1 (Out.of_below hb7) (fun _ _ => by simp)
          replace R1 := R1.below hb7
          replace hb := hb.trans (hb7.mono hb.size)
          clear hf6 hb7
          by_cases hI : IF = 0
          case neg =>
            have hI' : (IF != 0) = true := by simpa using hI
            have E1 : Hid (D = IF ∧ E = ine0) := HE3.out.1 hI
            clear HE3 o1
            go_wp2_with fail
            refine (l6Bad_any IF _).mono ?_
            rintro e w8 ⟨rfl, hb8⟩
            replace hb := hb.trans (hb8.mono hb.size)
            replace R1 := R1.below hb8
            clear hb8
            have Rr := R1.row #[.int .i64 IF, .int .i64 0, .bool false, .bool false, .int .i64 0, .bool false, .slice none 0 0, .slice none 0 0, .slice none 0 0]
            have hBr := below_row hb (g := w.heap.size + 1) (by omega) #[.int .i64 IF, .int .i64 0, .bool false, .bool false, .int .i64 0, .bool false, .slice none 0 0, .slice none 0 0, .slice none 0 0]
            have hsr : (Tryz.prog.info? 39).map (·.size) = some (#[.int .i64 IF, .int .i64 0, .bool false, .bool false, .int .i64 0, .bool false, .slice none 0 0, .slice none 0 0, .slice none 0 0] : Array Value).size := sz_res
            go_wp2_with (first | (refine st_row (by kernel_rfl) 39 _ _ rfl _ #[.int .i64 IF, .int .i64 0, .bool false, .bool false, .int .i64 0, .bool false, .slice none 0 0, .slice none 0 0, .slice none 0 0] rfl rfl 39 _ R1 hsr rfl (by simp [Value.oneCell']) ?_))
            have q0 := Rr.cell 0 _ rfl
            have q1 := Rr.cell 1 _ rfl
            have q2 := Rr.cell 2 _ rfl
            have q3 := Rr.cell 3 _ rfl
            have q4 := Rr.cell 4 _ rfl
            have q5 := Rr.cell 5 _ rfl
            have q6 := Rr.cell 6 _ rfl
            have q7 := Rr.cell 7 _ rfl
            have q8 := Rr.cell 8 _ rfl
            exact bodyPost_ret (v := .agg #[.int .i64 IF, .int .i64 0, .bool false, .bool false, .int .i64 0, .bool false, .slice none 0 0, .slice none 0 0, .slice none 0 0]) (by simp [results, Tryz.results17, go_sem, q0, q1, q2, q3, q4, q5, q6, q7, q8]) rfl ⟨inst0, by rw [E1.out.1]; rfl, E1.out.2.symm, inst0_own _, inst0_nd, fun k hk => by rw [inst0_ft] at hk; simp at hk, hBr⟩

          case pos =>
            obtain ⟨eD, eE⟩ := HE3.out.2 hI
            subst hI
            have HD0 : Hid (D = 0) := eD
            have HQ : Hid (q1.e = E ∧ (instK.foot q1).Nodup ∧ (∀ k ∈ instK.foot q1, w.heap.size ≤ k) ∧ ∀ cs, instK.own (w7.setRow (w.heap.size + 1) cs) q1) := ⟨eE.symm, HN1.out.1, fun k hk => by have := (HN1.out.2 k hk).1; omega, fun cs => instK.own_out o1 (out_row w7 (w.heap.size + 1) cs) (fun k hk => by have := (HN1.out.2 k hk).1; simp only [List.mem_singleton]; omega)⟩
            clear HE3 HN1 eD eE
            obtain ⟨qh, qb, qbs, qr, qrs, qd, qds⟩ := q1
            obtain ⟨s1, t1, rfl⟩ : ∃ a c, qb = .slice a qbs.length c := o1.1.shape
            obtain ⟨s2, t2, rfl⟩ : ∃ a c, qr = .slice a qrs.length c := o1.2.1.shape
            obtain ⟨s3, t3, rfl⟩ : ∃ a c, qd = .slice a qds.length c := o1.2.2.shape
            have p0 := B1.cell 0 _ rfl
            have p1 := B1.cell 1 _ rfl
            have p2 := B1.cell 2 _ rfl
            have p3 := B1.cell 3 _ rfl
            have Rr := R1.row #[.int .i64 0, .int .i64 0, .bool false, .bool false, .int .i64 0, .bool qh, .slice s1 qbs.length t1, .slice s2 qrs.length t2, .slice s3 qds.length t3]
            have hBr := below_row hb (g := w.heap.size + 1) (by omega) #[.int .i64 0, .int .i64 0, .bool false, .bool false, .int .i64 0, .bool qh, .slice s1 qbs.length t1, .slice s2 qrs.length t2, .slice s3 qds.length t3]
            have hsr : (Tryz.prog.info? 39).map (·.size) = some (#[.int .i64 0, .int .i64 0, .bool false, .bool false, .int .i64 0, .bool qh, .slice s1 qbs.length t1, .slice s2 qrs.length t2, .slice s3 qds.length t3] : Array Value).size := sz_res
            clear o1
            go_wp2_with (first | (refine st_row (by kernel_rfl) 39 _ _ rfl _ #[.int .i64 0, .int .i64 0, .bool false, .bool false, .int .i64 0, .bool qh, .slice s1 qbs.length t1, .slice s2 qrs.length t2, .slice s3 qds.length t3] rfl rfl 39 _ R1 hsr rfl (by simp [Value.oneCell']) ?_))
            have q0 := Rr.cell 0 _ rfl
            have q1 := Rr.cell 1 _ rfl
            have q2 := Rr.cell 2 _ rfl
            have q3 := Rr.cell 3 _ rfl
            have q4 := Rr.cell 4 _ rfl
            have q5 := Rr.cell 5 _ rfl
            have q6 := Rr.cell 6 _ rfl
            have q7 := Rr.cell 7 _ rfl
            have q8 := Rr.cell 8 _ rfl
            exact bodyPost_ret (v := .agg #[.int .i64 0, .int .i64 0, .bool false, .bool false, .int .i64 0, .bool qh, .slice s1 qbs.length t1, .slice s2 qrs.length t2, .slice s3 qds.length t3]) (by simp [results, Tryz.results17, go_sem, q0, q1, q2, q3, q4, q5, q6, q7, q8]) rfl ⟨(⟨qh, .slice s1 qbs.length t1, qbs, .slice s2 qrs.length t2, qrs, .slice s3 qds.length t3, qds⟩ : InstQ), by rw [HD0.out], HQ.out.1, HQ.out.2.2.2 _, HQ.out.2.1, HQ.out.2.2.1, hBr⟩

end Go.Proofs.YtjnkldlkbjldcaaGreatDoor
