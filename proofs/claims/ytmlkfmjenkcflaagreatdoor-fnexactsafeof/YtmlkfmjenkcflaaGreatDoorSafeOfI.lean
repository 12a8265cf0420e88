/- SafeOf, of the program and of its model. No condition. -/
import Derived.Test.YtmlkfmjenkcflaaGreatDoorI6j
import Derived.Test.YtmlkfmjenkcflaaGreatDoorGJ
import Derived.Test.YtmlkfmjenkcflaaGreatDoorM6a
import Derived.Test.YtmlkfmjenkcflaaGreatDoorGD
namespace Go.Proofs.YtmlkfmjenkcflaaGreatDoor
open Go.RowKit
open Go.BigFrame
set_option linter.unusedVariables false
set_option maxRecDepth 100000
set_option linter.unusedSimpArgs false

/-- No round has both 0 and 1 proposed, no two values are decided, and there is no fault. -/
def splR (r : RoundE) : Bool := both r.pro
def safE (x : InstE) : Bool := (insF x == 0) && !(x.rounds.any splR) && !both x.dec

theorem idx_cnt {L : List Int} (h : L.length = 3) (v : Int) : decide (0 ≤ idxI L v) = decide (0 < cnt 7 L v) := by
  obtain ⟨x, y, z, rfl⟩ := three h
  rw [cnt7]
  have s1 : ∀ q r, 0 < sum3 true q r := by intro q r; cases q <;> cases r <;> decide
  have s2 : ∀ p r, 0 < sum3 p true r := by intro p r; cases p <;> cases r <;> decide
  have s3 : ∀ p q, 0 < sum3 p q true := by intro p q; cases p <;> cases q <;> decide
  have s0 : ¬ 0 < sum3 false false false := by decide
  by_cases hm : v ∈ [x, y, z]
  · have h1 : 0 ≤ idxI [x, y, z] v := idxI_in hm
    rw [decide_eq_true h1]
    symm
    apply decide_eq_true
    simp only [List.mem_cons, List.not_mem_nil, or_false] at hm
    simp only [List.getD_cons_zero, List.getD_cons_succ]
    rcases hm with rfl | rfl | rfl
    · rw [beq_self_eq_true]; exact s1 _ _
    · rw [beq_self_eq_true]; exact s2 _ _
    · rw [beq_self_eq_true]; exact s3 _ _
  · have h1 : idxI [x, y, z] v = -1 := idxI_out hm
    rw [h1]
    have h2 : ¬ (0 : Int) ≤ -1 := by decide
    rw [decide_eq_false h2]
    symm
    apply decide_eq_false
    simp only [List.mem_cons, List.not_mem_nil, or_false, not_or] at hm
    obtain ⟨a1, a2, a3⟩ := hm
    simp only [List.getD_cons_zero, List.getD_cons_succ]
    have e1 : (x == v) = false := by simpa using fun e => a1 e.symm
    have e2 : (y == v) = false := by simpa using fun e => a2 e.symm
    have e3 : (z == v) = false := by simpa using fun e => a3 e.symm
    rw [e1, e2, e3]
    exact s0

set_option maxHeartbeats 1000000 in
theorem contains_any (a : Option Addr) (cap : Nat) (L : List Int) (x : Int) (w : World) (h : Row .i64 w a L) (hl : L.length ≤ 1048576) :
    Calls Tryz.prog 34 #[.slice a L.length cap, .int .i64 x] w fun e w' => e = .returned (.bool (decide (0 ≤ idxI L x))) ∧ Below w.heap.size w w' := by
  have hq := index_any a cap L x w h hl
  generalize idxI L x = r at *
  go_enter Tryz.func34, Tryz.ntmps34
  go_wp2_with fail
  refine hq.mono ?_
  rintro e w2 ⟨rfl, rfl⟩
  clear hq
  by_cases h0 : 0 ≤ r
  · go_wp2
    go_ret
    exact ⟨by simp [h0], Below.refl _ _⟩
  · go_wp2
    go_ret
    exact ⟨by simp [h0], Below.refl _ _⟩

set_option maxHeartbeats 1000000 in
theorem hasBoth_any (a : Option Addr) (cap : Nat) (zs : List Int) (w : World) (h : Row .i64 w a zs) (hl : zs.length = 3) :
    Calls Tryz.prog 20 #[.slice a 3 cap] w fun e w' => e = .returned (.bool (both zs)) ∧ Below w.heap.size w w' := by
  have hc0 := contains_any a cap zs 0 w h (by omega)
  have hc1 := fun w h => contains_any a cap zs 1 w h (by omega)
  unfold both
  rw [← idx_cnt hl 0, ← idx_cnt hl 1]
  rw [hl] at hc0 hc1
  generalize decide (0 ≤ idxI zs 0) = z at *
  generalize decide (0 ≤ idxI zs 1) = o at *
  cases z with
  | true =>
    go_enter Tryz.func20, Tryz.ntmps20
    go_wp2_with fail
    refine hc0.mono ?_
    rintro e w1 ⟨rfl, b1⟩
    have h1 := hc1 w1 (h.below b1)
    clear hc0 hc1
    go_wp2_with fail
    refine h1.mono ?_
    rintro e w2 ⟨rfl, b2⟩
    replace b2 := b1.trans (b2.mono b1.size)
    clear h1
    go_wp2
    go_ret
    exact ⟨by simp, b2⟩
  | false =>
    clear hc1
    go_enter Tryz.func20, Tryz.ntmps20
    go_wp2_with fail
    refine hc0.mono ?_
    rintro e w1 ⟨rfl, b1⟩
    clear hc0
    go_wp2
    go_ret
    exact ⟨by simp, b1⟩

set_option maxHeartbeats 1000000 in
theorem isSplit_any (a a' : Option Addr) (n cap cap' : Nat) (zs : List Int) (w : World) (h : Row .i64 w a zs) (hl : zs.length = 3) :
    Calls Tryz.prog 19 #[.agg #[.slice a' n cap', .slice a 3 cap]] w fun e w' => e = .returned (.bool (both zs)) ∧ Below w.heap.size w w' := by
  have hB : Below w.heap.size w (w.alloc (.cells #[.slice a' n cap', .slice a 3 cap] 43)) := by go_grown
  have hq := hasBoth_any a cap zs _ (h.below hB) hl
  generalize both zs = E at *
  go_enter Tryz.func19, Tryz.ntmps19
  go_wp2_with fail
  refine hq.mono ?_
  rintro e w2 ⟨rfl, hb⟩
  replace hb := hB.trans (hb.mono hB.size)
  go_wp2
  go_ret
  exact ⟨rfl, hb⟩

theorem spl_yes (rs : List RoundQ) (k : Nat) (hk : k < rs.length) (h : both rs[k].pro = true) : (rs.map RoundQ.e).any splR = true := by
  rw [List.any_eq_true]
  exact ⟨_, List.mem_map_of_mem (List.getElem_mem hk), h⟩
theorem spl_no (rs : List RoundQ) (h : ∀ j, (hj : j < rs.length) → both rs[j].pro = false) : (rs.map RoundQ.e).any splR = false := by
  rw [List.any_eq_false]
  intro r hr
  obtain ⟨q, hq, rfl⟩ := List.mem_map.1 hr
  obtain ⟨j, hj, rfl⟩ := List.getElem_of_mem hq
  have := h j hj
  simp only [splR, RoundQ.e]
  rw [this]
  decide

set_option maxHeartbeats 2000000 in
theorem indexFuncR_any (a : Option Addr) (cap : Nat) (ps : List RoundQ) (w : World) (h : roundK.At w (.slice a ps.length cap) ps) (hl : ps.length ≤ 1048576) (hF : rndsF (ps.map RoundQ.e) = 0) :
    Calls Tryz.prog 33 #[.slice a ps.length cap, .func (.func 19) #[] #[]] w fun e w' => ∃ r : Int, e = .returned (.int .i64 r) ∧ ((ps.map RoundQ.e).any splR = true → 0 ≤ r) ∧ ((ps.map RoundQ.e).any splR = false → r < 0) ∧ Below w.heap.size w w' := by
  have HE : Hid (∀ k (hk : k < ps.length), both ps[k].pro = true → (ps.map RoundQ.e).any splR = true) := fun k hk h1 => spl_yes ps k hk h1
  have HG : Hid ((∀ j, (hj : j < ps.length) → both ps[j].pro = false) → (ps.map RoundQ.e).any splR = false) := fun h => spl_no ps h
  generalize (ps.map RoundQ.e).any splR = E at *
  go_enter Tryz.func33, Tryz.ntmps33
  go_wp2
  go_loopw [8] (fun j wr => ∃ k : Nat, k ≤ ps.length ∧ j = .int .i64 k ∧ Below w.heap.size w wr ∧ Hid (∀ j, (hj : j < ps.length) → j < k → both ps[j].pro = false)) (fun j _ => ps.length - (intOf j).toNat)
  case atStart => exact ⟨0, Nat.zero_le _, rfl, Below.refl _ _, fun j hj hk => absurd hk (Nat.not_lt_zero _)⟩
  case round =>
    obtain ⟨k, hk, rfl, hb, HA⟩ := hrel
    by_cases hlt : k < ps.length
    · obtain ⟨b', off, rfl, hbs, hc, hrd⟩ := (h.below hb).cell (by decide) k hlt
      have hc' : ∀ j x, (roundK.cells ps[k])[j]? = some x → wr.cell? ⟨b', off + k * 2 + j, none⟩ = some x := hc
      have c0 := hc' 0 (ps[k].vr) rfl
      have c1 := hc' 1 (ps[k].vp) rfl
      rw [Nat.add_zero] at c0
      have HY : Hid (both ps[k].pro = true → E = true) := HE.out k hlt
      have HN : Hid (both ps[k].pro = false → ∀ j, (hj : j < ps.length) → j < k + 1 → both ps[j].pro = false) := by
        intro h0 j hj hjk
        by_cases e : j = k
        · subst e; exact h0
        · exact HA.out j hj (by omega)
      have hv2 := (rndsF_at hF k (by rw [List.length_map]; exact hlt)).2
      rw [rnd_at ps k hlt] at hv2
      have hv2 : vf ps[k].pro 2 = 0 := hv2
      have hA2 : intK.At wr ps[k].vp ps[k].pro := hrd.2
      have hA1 : intK.At wr ps[k].vr ps[k].rep := hrd.1
      clear HA hc hc' hrd
      generalize ps[k].vp = qw at *
      generalize ps[k].pro = qp at *
      generalize ps[k].vr = qv at *
      generalize ps[k].rep = qr at *
      obtain ⟨ra, rc, rfl⟩ := hA1.shape
      obtain ⟨pa, pc, pb, po, rfl, hpa, pcell, pRow⟩ := vf_row hA2 hv2 0 (by omega)
      subst hpa
      have hq := isSplit_any (some ⟨pb, po, none⟩) ra qr.length pc rc qp wr pRow (vf_len hv2)
      generalize both qp = S at *
      clear hA1 hA2 hv2 pcell pRow
      have hlti : (k : Int) < (ps.length : Int) := by omega
      go_wp2_with fail
      refine hq.mono ?_
      rintro e w2 ⟨rfl, hb2⟩
      replace hb := hb.trans (hb2.mono hb.size)
      clear hq c0 c1 hb2 hbs
      cases S with
      | true =>
        have E1 : Hid (E = true) := HY.out rfl
        clear HY HN
        go_wp2
        go_ret
        refine ⟨_, rfl, fun _ => by omega, fun h0 => ?_, hb⟩
        rw [E1.out] at h0
        exact absurd h0 (by decide)
      | false =>
        have HR' : Hid _ := HN.out rfl
        clear HY HN
        go_wp2
        go_roundw
        case rel => exact ⟨k + 1, by omega, by go_num, hb, HR'.out⟩
        case measure => simp [intOf]; omega
    · have hkl : k = ps.length := by omega
      subst hkl
      have E1 : Hid (E = false) := HG.out (fun j hj => HA.out j hj hj)
      have hlti : ¬ (ps.length : Int) < (ps.length : Int) := by omega
      clear HA HE HG
      go_wp2
      go_ret
      refine ⟨_, rfl, fun h0 => ?_, fun _ => by omega, hb⟩
      rw [E1.out] at h0
      exact absurd h0 (by decide)

set_option maxHeartbeats 1000000 in
theorem containsFuncR_any (a : Option Addr) (cap : Nat) (ps : List RoundQ) (w : World) (h : roundK.At w (.slice a ps.length cap) ps) (hl : ps.length ≤ 1048576) (hF : rndsF (ps.map RoundQ.e) = 0) :
    Calls Tryz.prog 18 #[.slice a ps.length cap, .func (.func 19) #[] #[]] w fun e w' => e = .returned (.bool ((ps.map RoundQ.e).any splR)) ∧ Below w.heap.size w w' := by
  have hq := indexFuncR_any a cap ps w h hl hF
  generalize (ps.map RoundQ.e).any splR = E at *
  go_enter Tryz.func18, Tryz.ntmps18
  go_wp2_with fail
  refine hq.mono ?_
  rintro e w2 ⟨r, rfl, h1, h2, hb⟩
  cases E with
  | true =>
    have h0 : 0 ≤ r := h1 rfl
    clear h1 h2
    go_wp2
    go_ret
    exact ⟨by simp [h0], hb⟩
  | false =>
    have h0 : r < 0 := h2 rfl
    have h3 : ¬ 0 ≤ r := by omega
    clear h1 h2
    go_wp2
    go_ret
    exact ⟨by simp [h3], hb⟩

theorem insF_shp {x : InstE} (h : insF x = 0) : shpF x = 0 := by
  unfold insF at h
  by_cases hs : shpF x = 0
  · exact hs
  · rw [if_neg hs] at h
    exact h

set_option maxHeartbeats 4000000 in
theorem implSafeOf_any (p : InstQ) (w : World) (hG : Rul w) (h : instK.rd w p) (hl : p.n ≤ 1048576) :
    Calls Tryz.prog 7 #[.agg #[.bool p.has, p.vb, p.vr, p.vd]] w fun e w' => e = .returned (.bool (safE p.e)) ∧ Below w.heap.size w w' := by
  have hq := fun w hG h => implInstanceFault_any p w hG h hl
  have hrb := fun (w' : World) hb => instK.rd_below (w' := w') h hb
  have HS : Hid (insF p.e = 0 → shpF p.e = 0) := fun h => insF_shp h
  unfold safE
  by_cases h0 : insF p.e = 0
  · have hs := HS.out h0
    obtain ⟨⟨hr1, hr4⟩, hF, hv, _⟩ := shp_zero hs
    rw [h0] at hq ⊢
    have hz : ((0 : Int) == 0) = true := rfl
    rw [hz, Bool.true_and]
    clear HS hs hz h0 hr1
    obtain ⟨has, vb, batch, vr, rounds, vd, dec⟩ := p
    replace hF : rndsF (rounds.map RoundQ.e) = 0 := hF
    replace hv : vf dec 1 = 0 := hv
    replace hr4 : rounds.length ≤ 4 := by simpa [InstQ.e] using hr4
    obtain ⟨ba, bk, rfl⟩ : ∃ a c, vb = .slice a batch.length c := h.1.shape
    obtain ⟨va, vk, rfl⟩ : ∃ a c, vr = .slice a rounds.length c := h.2.1.shape
    have hcf := fun w h => containsFuncR_any va vk rounds w h (by omega) hF
    obtain ⟨da, dk, db, dof, rfl, hda, dcell, dRow⟩ := vf_row h.2.2 hv 0 (by omega)
    subst hda
    have hhb := fun w h => hasBoth_any (some ⟨db, dof, none⟩) dk dec w h (vf_len hv)
    show Calls _ _ _ _ fun e w' => e = .returned (.bool (!((rounds.map RoundQ.e).any splR) && !both dec)) ∧ _
    dsimp only at hq hrb
    generalize (rounds.map RoundQ.e).any splR = E at *
    generalize both dec = D at *
    clear dcell hr4 hF hv
    have hB : Below w.heap.size w (w.alloc (.cells #[.bool has, .slice ba batch.length bk, .slice va rounds.length vk, .slice (some ⟨db, dof, none⟩) 3 dk] 32)) := by go_grown
    have B0 := Blk.new w 32 #[.bool has, .slice ba batch.length bk, .slice va rounds.length vk, .slice (some ⟨db, dof, none⟩) 3 dk]
    cases E with
    | true =>
      clear hhb
      go_enter Tryz.func7, Tryz.ntmps7
      go_wp2_with fail
      generalize w.alloc (.cells #[.bool has, .slice ba batch.length bk, .slice va rounds.length vk, .slice (some ⟨db, dof, none⟩) 3 dk] 32) = W at *
      refine (hq W (hG.below hB) (hrb W hB)).mono ?_
      rintro e w1 ⟨rfl, hb⟩
      replace B0 := B0.below hb
      replace hb := hB.trans (hb.mono hB.size)
      have hh := hcf w1 (hrb w1 hb).2.1
      obtain ⟨p0, p1, p2, p3⟩ := B0.cel4
      clear hq hcf hrb
      go_wp2_with fail
      clear p0 p1 p2 p3
      refine hh.mono ?_
      rintro e w2 ⟨rfl, hb2⟩
      replace hb := hb.trans (hb2.mono hb.size)
      clear hh hb2
      go_wp2
      go_ret
      exact ⟨rfl, hb⟩
    | false =>
      go_enter Tryz.func7, Tryz.ntmps7
      go_wp2_with fail
      generalize w.alloc (.cells #[.bool has, .slice ba batch.length bk, .slice va rounds.length vk, .slice (some ⟨db, dof, none⟩) 3 dk] 32) = W at *
      refine (hq W (hG.below hB) (hrb W hB)).mono ?_
      rintro e w1 ⟨rfl, hb⟩
      replace B0 := B0.below hb
      replace hb := hB.trans (hb.mono hB.size)
      have hh := hcf w1 (hrb w1 hb).2.1
      obtain ⟨p0, p1, p2, p3⟩ := B0.cel4
      clear hq hcf hrb
      go_wp2_with fail
      clear p0 p1 p2 p3
      refine hh.mono ?_
      rintro e w2 ⟨rfl, hb2⟩
      replace B0 := B0.below hb2
      replace hb := hb.trans (hb2.mono hb.size)
      have hd := hhb w2 (dRow.below hb)
      obtain ⟨p0, p1, p2, p3⟩ := B0.cel4
      clear hh hb2 hhb
      go_wp2_with fail
      clear p0 p1 p2 p3
      refine hd.mono ?_
      rintro e w3 ⟨rfl, hb3⟩
      replace hb := hb.trans (hb3.mono hb.size)
      clear hd hb3
      go_wp2
      go_ret
      exact ⟨by simp, hb⟩
  · have hz : (insF p.e == 0) = false := by simpa using h0
    rw [hz, Bool.false_and, Bool.false_and]
    generalize insF p.e = F at *
    clear HS hrb
    obtain ⟨has, vb, batch, vr, rounds, vd, dec⟩ := p
    obtain ⟨ba, bk, rfl⟩ : ∃ a c, vb = .slice a batch.length c := h.1.shape
    obtain ⟨va, vk, rfl⟩ : ∃ a c, vr = .slice a rounds.length c := h.2.1.shape
    obtain ⟨da, dk, rfl⟩ : ∃ a c, vd = .slice a dec.length c := h.2.2.shape
    have hB : Below w.heap.size w (w.alloc (.cells #[.bool has, .slice ba batch.length bk, .slice va rounds.length vk, .slice da dec.length dk] 32)) := by go_grown
    go_enter Tryz.func7, Tryz.ntmps7
    go_wp2_with fail
    refine (hq _ (hG.below hB) (instK.rd_below h hB)).mono ?_
    rintro e w1 ⟨rfl, hb⟩
    replace hb := hB.trans (hb.mono hB.size)
    clear hq
    go_wp2
    go_ret
    exact ⟨rfl, hb⟩

set_option maxHeartbeats 4000000 in
theorem specSafeOf_any (p : InstQ) (w : World) (h : instK.rd w p) (hl : p.n ≤ 1048576) :
    Calls Tryz.prog 5 #[.agg #[.bool p.has, p.vb, p.vr, p.vd]] w fun e w' => e = .returned (.bool (safE p.e)) ∧ Below w.heap.size w w' := by
  have hB : Below w.heap.size w (w.alloc (.cells #[.bool p.has, p.vb, p.vr, p.vd] 32)) := by go_grown
  have hP : InstP (w.alloc (.cells #[.bool p.has, p.vb, p.vr, p.vd] 32)) w.heap.size 0 p := ⟨box4_new w _ _ _ _ 32, instK.rd_below h hB⟩
  have hq := l6Fault_any w.heap.size 0 p _ hP hl
  have HS : Hid (insF p.e = 0 → shpF p.e = 0) := fun h => insF_shp h
  unfold safE
  by_cases h0 : insF p.e = 0
  · have hs := HS.out h0
    obtain ⟨⟨hr1, hr4⟩, hF, hv, _⟩ := shp_zero hs
    rw [h0] at hq ⊢
    have hz : ((0 : Int) == 0) = true := rfl
    rw [hz, Bool.true_and]
    clear HS hs hz h0 hr1 h
    obtain ⟨has, vb, batch, vr, rounds, vd, dec⟩ := p
    replace hF : rndsF (rounds.map RoundQ.e) = 0 := hF
    replace hv : vf dec 1 = 0 := hv
    replace hr4 : rounds.length ≤ 4 := by simpa [InstQ.e] using hr4
    obtain ⟨va, vk, rfl⟩ : ∃ a c, vr = .slice a rounds.length c := hP.rounds.shape
    obtain ⟨da, dk, db, dof, rfl, hda, dcell, dRow⟩ := vf_row hP.dec hv 0 (by omega)
    subst hda
    have hhb := fun w h => l5Both_any (some ⟨db, dof, none⟩) dk dec w h (vf_len hv)
    show Calls _ _ _ _ fun e w' => e = .returned (.bool (!((rounds.map RoundQ.e).any splR) && !both dec)) ∧ _
    have HE : Hid (∀ k (hk : k < rounds.length), both rounds[k].pro = true → (rounds.map RoundQ.e).any splR = true) := fun k hk h1 => spl_yes rounds k hk h1
    have HG : Hid ((∀ j, (hj : j < rounds.length) → both rounds[j].pro = false) → (rounds.map RoundQ.e).any splR = false) := fun h => spl_no rounds h
    generalize (rounds.map RoundQ.e).any splR = E at *
    clear dcell
    go_enter Tryz.func5, Tryz.ntmps5
    go_wp2_with fail
    generalize hbx : w.heap.size = bx at *
    generalize w.alloc (.cells #[.bool has, vb, .slice va rounds.length vk, .slice (some ⟨db, dof, none⟩) 3 dk] 32) = W at *
    refine hq.mono ?_
    rintro e w1 ⟨rfl, hb⟩
    have hP1 := hP.below hb
    have dR1 := dRow.below hb
    replace hB := hB.trans (hb.mono (by rw [← hbx]; exact hB.size))
    rw [← hbx] at hB
    clear hq hb hP dRow
    go_wp2
    go_loopw [3] (fun j wr => ∃ k : Nat, k ≤ rounds.length ∧ j = .int .i64 k ∧ Below w1.heap.size w1 wr ∧ Hid (∀ j, (hj : j < rounds.length) → j < k → both rounds[j].pro = false)) (fun j _ => rounds.length - (intOf j).toNat)
    case atStart => exact ⟨0, Nat.zero_le _, rfl, Below.refl _ _, fun j hj hk => absurd hk (Nat.not_lt_zero _)⟩
    case round =>
      obtain ⟨k, hk, rfl, hb, HA⟩ := hrel
      have hPr := hP1.below hb
      obtain ⟨c0, c1, c2, c3⟩ := hPr.box
      dsimp only at c0 c1 c2 c3
      by_cases hlt : k < rounds.length
      · obtain ⟨rb, ro, rfl, hbs, hc, hrd⟩ := hPr.rounds.cell (by decide) k hlt
        have hc' : ∀ j x, (roundK.cells rounds[k])[j]? = some x → wr.cell? ⟨rb, ro + k * 2 + j, none⟩ = some x := hc
        have r1 := hc' 1 (rounds[k].vp) rfl
        have HY : Hid (both rounds[k].pro = true → E = true) := HE.out k hlt
        have HN : Hid (both rounds[k].pro = false → ∀ j, (hj : j < rounds.length) → j < k + 1 → both rounds[j].pro = false) := by
          intro h0 j hj hjk
          by_cases e : j = k
          · subst e; exact h0
          · exact HA.out j hj (by omega)
        have hv2 := (rndsF_at hF k (by rw [List.length_map]; exact hlt)).2
        rw [rnd_at rounds k hlt] at hv2
        have hv2 : vf rounds[k].pro 2 = 0 := hv2
        have hA2 : intK.At wr rounds[k].vp rounds[k].pro := hrd.2
        clear HA hc hc' hrd HE HG
        generalize rounds[k].vp = qw at *
        generalize rounds[k].pro = qp at *
        obtain ⟨pa, pc, pb, po, rfl, hpa, pcell, pRow⟩ := vf_row hA2 hv2 0 (by omega)
        subst hpa
        have hct := l5Both_any (some ⟨pb, po, none⟩) pc qp wr pRow (vf_len hv2)
        generalize both qp = S at *
        clear hA2 hv2 pcell pRow
        have hlti : (k : Int) < (rounds.length : Int) := by omega
        go_wp2_with fail
        refine hct.mono ?_
        rintro e w2 ⟨rfl, hb2⟩
        replace hb := hb.trans (hb2.mono hb.size)
        clear hct c0 c1 c2 c3 r1 hb2 hPr
        cases S with
        | true =>
          have E1 : Hid (E = true) := HY.out rfl
          clear HY HN
          go_wp2
          go_ret
          rw [E1.out]
          exact ⟨rfl, hB.trans (hb.mono hB.size)⟩
        | false =>
          have HR' : Hid _ := HN.out rfl
          clear HY HN
          go_wp2
          go_roundw
          case rel => exact ⟨k + 1, by omega, by go_num, hb, HR'.out⟩
          case measure => simp [intOf]; omega
      · have hkl : k = rounds.length := by omega
        subst hkl
        have E1 : Hid (E = false) := HG.out (fun j hj => HA.out j hj hj)
        have hlti : ¬ (rounds.length : Int) < (rounds.length : Int) := by omega
        have hd := hhb wr (dR1.below hb)
        clear HA HE HG hhb
        go_wp2_with fail
        refine hd.mono ?_
        rintro e w2 ⟨rfl, hb2⟩
        replace hb := hb.trans (hb2.mono hb.size)
        clear hd hb2 c0 c1 c2 c3
        go_wp2
        go_ret
        rw [E1.out]
        exact ⟨by simp, hB.trans (hb.mono hB.size)⟩
  · have hz : (insF p.e == 0) = false := by simpa using h0
    rw [hz, Bool.false_and, Bool.false_and]
    generalize insF p.e = F at *
    clear HS
    go_enter Tryz.func5, Tryz.ntmps5
    go_wp2_with fail
    refine hq.mono ?_
    rintro e w1 ⟨rfl, hb⟩
    replace hB := hB.trans (hb.mono hB.size)
    clear hq hb
    go_wp2
    go_ret
    exact ⟨rfl, hB⟩

end Go.Proofs.YtmlkfmjenkcflaaGreatDoor
