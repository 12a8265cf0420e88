/- Texts joined, with what the law reaches alone. -/
import Derived.Test.YtdcjefgafckmgaaGreatDoorSAJ
import Derived.Test.YtdcjefgafckmgaaGreatDoorSAI
namespace Go.Proofs.YtdcjefgafckmgaaGreatDoor
open Go.RowKit
open Go.BigFrame
set_option linter.unusedVariables false
set_option maxRecDepth 100000
set_option linter.unusedSimpArgs false
end Go.Proofs.YtdcjefgafckmgaaGreatDoor
namespace Go.Proofs.YtdcjefgafckmgaaGreatDoor
open Go.RowKit
open Go.BigFrame
set_option linter.unusedVariables false
set_option maxRecDepth 100000
set_option linter.unusedSimpArgs false
theorem allF_mem {ds : List TxnD} (h : allF ds = 0) : ∀ d ∈ ds, d.F = 0 := by
  induction ds with
  | nil => intro d hd; simp at hd
  | cons x r ih =>
    intro d hd
    simp only [allF] at h
    by_cases hx : x.F = 0
    · rw [if_pos hx] at h
      rcases List.mem_cons.1 hd with rfl | hd
      · exact hx
      · exact ih h d hd
    · rw [if_neg hx] at h
      exact absurd h hx

end Go.Proofs.YtdcjefgafckmgaaGreatDoor
namespace Go.Proofs.YtdcjefgafckmgaaGreatDoor
open Go.RowKit
open Go.BigFrame
set_option linter.unusedVariables false
set_option maxRecDepth 100000
set_option linter.unusedSimpArgs false
def dfC (ds : List InstE) (n : Int) : Int := if ordF ds = 0 then (if 0 ≤ n ∧ n ≤ (decN ds : Int) then 0 else 3) else ordF ds

def dfT (ds : List InstE) (n : Int) : List TxnD := if dfC ds n = 0 then defL ds n.toNat else []

theorem df_ways (ds : List InstE) (n : Int) : (ordF ds ≠ 0 ∧ dfC ds n = ordF ds ∧ dfT ds n = []) ∨ (ordF ds = 0 ∧ ¬ (0 ≤ n ∧ n ≤ (decN ds : Int)) ∧ dfC ds n = 3 ∧ dfT ds n = []) ∨ (ordF ds = 0 ∧ (0 ≤ n ∧ n ≤ (decN ds : Int)) ∧ dfC ds n = 0 ∧ dfT ds n = defL ds n.toNat) := by
  unfold dfT dfC
  by_cases h0 : ordF ds = 0
  · by_cases h1 : 0 ≤ n ∧ n ≤ (decN ds : Int)
    · right; right
      refine ⟨h0, h1, ?_, ?_⟩
      · rw [if_pos h0, if_pos h1]
      · rw [if_pos h0, if_pos h1, if_pos rfl]
    · right; left
      refine ⟨h0, h1, ?_, ?_⟩
      · rw [if_pos h0, if_neg h1]
      · rw [if_pos h0, if_neg h1, if_neg (by decide)]
  · left
    simp [h0]

theorem bat4 {p : InstQ} (h : insF (InstQ.e p) = 0) : p.batch.length ≤ 4 := by
  obtain ⟨h0, _⟩ := ins_zero h
  obtain ⟨_, _, _, hb0, hb1⟩ := shp_zero h0
  cases hh : (InstQ.e p).has with
  | false =>
    have := hb0 hh
    have h2 : p.batch.map TxnQ.e = [] := this
    have : p.batch = [] := by simpa using h2
    rw [this]; simp
  | true =>
    have := hb1 hh
    unfold batF at this
    by_cases hl : (InstQ.e p).batch.length < 1 ∨ 4 < (InstQ.e p).batch.length
    · rw [if_pos hl] at this
      exact absurd this (by decide)
    · have h2 : (InstQ.e p).batch.length = p.batch.length := by show (p.batch.map TxnQ.e).length = _; simp
      omega

set_option maxHeartbeats 8000000 in
theorem specDefiniteOf_any (v : Value) (ps : List InstQ) (n : Int) (w : World) (h : instK.At w v ps) (hl : (ps.length + nmL InstQ.n ps) ≤ 1048576) :
    Calls Tryz.prog 19 #[v, .int .i64 n] w fun e w' => ∃ (v' : Value) (qs : List TxnQ), e = .returned (.agg #[.int .i64 (dfC (ps.map InstQ.e) n), v']) ∧ qs.map TxnQ.e = dfT (ps.map InstQ.e) n ∧ txnK.Own w' v' qs ∧ (txnK.fp v' qs).Nodup ∧ (∀ k ∈ txnK.fp v' qs, w.heap.size ≤ k) ∧ Below w.heap.size w w' := by
  have hof := fun w h => l7Fault_any v ps w h hl
  have hld := fun w h h1 h4 => l7Decided_any v ps w h hl h1 h4
  have HO : Hid (ordF (ps.map InstQ.e) = 0 → 1 ≤ ps.length ∧ ps.length ≤ 4 ∧ ∀ q ∈ ps, insF (InstQ.e q) = 0) := fun h0 => by
    have := ((ord_iff _).1 h0).1
    rw [List.length_map] at this
    exact ⟨this.1, this.2, fun q hq => ord_mem h0 _ (List.mem_map.2 ⟨q, hq, rfl⟩)⟩
  have hdd := fun (m : Nat) w h hlow hbat hn h4 => l7Definite_any v ps m w h hlow hbat hn h4 hl
  obtain ⟨a, cap, rfl⟩ := h.shape
  have hw := df_ways (ps.map InstQ.e) n
  have hdl := decN_le (ps.map InstQ.e)
  rw [List.length_map] at hdl
  generalize dfC (ps.map InstQ.e) n = D at *
  generalize dfT (ps.map InstQ.e) n = O at *
  generalize ordF (ps.map InstQ.e) = C at *
  generalize decN (ps.map InstQ.e) = M at *
  have hB : Below w.heap.size w (w.alloc (.cells #[.int .i64 0, .slice none 0 0] 29)) := by go_grown
  have Rb := Blk.new w 29 #[.int .i64 0, .slice none 0 0]
  go_enter Tryz.func19, Tryz.ntmps19
  go_wp2_with fail
  generalize w.alloc (.cells #[.int .i64 0, .slice none 0 0] 29) = W at *
  refine (hof W (h.below hB)).mono ?_
  rintro e w1 ⟨rfl, hb⟩
  replace hB := hB.trans (hb.mono hB.size)
  replace Rb := Rb.below hb
  clear hb hof
  by_cases hC : C = 0
  case neg =>
    have hC' : (C != 0) = true := by simpa using hC
    have E1 : Hid (D = C ∧ O = []) := by
      rcases hw with ⟨_, e1, e2⟩ | ⟨h1, _⟩ | ⟨h1, _⟩
      · exact ⟨e1, e2⟩
      · exact absurd h1 hC
      · exact absurd h1 hC
    clear hw HO hC
    have q0 := Rb.cell 0 _ rfl
    have q1 := Rb.cell 1 _ rfl
    have f0 := Rb.frozen 0
    have f1 := Rb.frozen 1
    obtain ⟨hn1, hn2⟩ := Kind.own_nil (K := txnK) w
    clear hn1
    go_wp2
    exact bodyPost_ret (v := .agg #[.int .i64 C, .slice none 0 0]) (by simp [results, Tryz.results19, go_sem, q0, q1]) rfl ⟨.slice none 0 0, [], by rw [E1.out.1], by rw [E1.out.2]; rfl, (Kind.own_nil _).1, by rw [hn2]; simp, by rw [hn2]; simp, (hB.setCell (p := ⟨w.heap.size, 0, none⟩) (Nat.le_refl _) _).setCell (p := ⟨w.heap.size, 1, none⟩) (Nat.le_refl _) _⟩
  case pos =>
  obtain ⟨p1, p4, hin⟩ := HO.out hC
  have hlow : (∀ p ∈ ps, (∀ t ∈ p.batch, 0 < t.acts.length) ∧ (∀ r ∈ p.rounds, 0 < r.rep.length ∧ 0 < r.pro.length) ∧ 0 < p.dec.length) := fun q hq => ins_low (hin q hq)
  have hbat : ∀ p ∈ ps, p.batch.length ≤ 4 := fun q hq => bat4 (hin q hq)
  subst hC
  clear HO hin
  go_wp2_with fail
  refine (hld w1 (h.below hB) p1 p4).mono ?_
  rintro e w2 ⟨rfl, hb⟩
  replace hB := hB.trans (hb.mono hB.size)
  replace Rb := Rb.below hb
  clear hb hld
  have hin1 := fun w => l1In_any n 0 (M : Int) w
  by_cases hr : 0 ≤ n ∧ n ≤ (M : Int)
  case neg =>
    have E1 : Hid (D = 3 ∧ O = []) := by
      rcases hw with ⟨h1, _⟩ | ⟨_, _, e1, e2⟩ | ⟨_, h1, _⟩
      · exact absurd rfl h1
      · exact ⟨e1, e2⟩
      · exact absurd h1 hr
    have hrd : inB n 0 (M : Int) = false := decide_eq_false hr
    rw [hrd] at hin1
    go_wp2_with fail
    refine (hin1 w2).mono ?_
    rintro e w' ⟨rfl, hw9⟩
    replace hw9 := hw9.symm
    subst hw9
    clear hw hr hin1 hrd hdd
    have q0 := Rb.cell 0 _ rfl
    have q1 := Rb.cell 1 _ rfl
    have f0 := Rb.frozen 0
    have f1 := Rb.frozen 1
    obtain ⟨hn1, hn2⟩ := Kind.own_nil (K := txnK) w
    clear hn1
    go_wp2
    exact bodyPost_ret (v := .agg #[.int .i64 3, .slice none 0 0]) (by simp [results, Tryz.results19, go_sem, q0, q1]) rfl ⟨.slice none 0 0, [], by rw [E1.out.1], by rw [E1.out.2]; rfl, (Kind.own_nil _).1, by rw [hn2]; simp, by rw [hn2]; simp, (hB.setCell (p := ⟨w.heap.size, 0, none⟩) (Nat.le_refl _) _).setCell (p := ⟨w.heap.size, 1, none⟩) (Nat.le_refl _) _⟩
  case pos =>
    obtain ⟨e1, e2⟩ : D = 0 ∧ O = defL (ps.map InstQ.e) n.toNat := by
      rcases hw with ⟨h1, _⟩ | ⟨_, h1, _⟩ | ⟨_, _, e1, e2⟩
      · exact absurd rfl h1
      · exact absurd hr h1
      · exact ⟨e1, e2⟩
    have HC0 : Hid (D = 0) := e1
    have hrd : inB n 0 (M : Int) = true := decide_eq_true hr
    rw [hrd] at hin1
    obtain ⟨m, rfl⟩ : ∃ m : Nat, n = (m : Int) := ⟨n.toNat, by omega⟩
    rw [Int.toNat_natCast] at e2
    have hd1 := fun w h => hdd m w h hlow hbat (by omega) p4
    rw [← e2] at hd1
    go_wp2_with fail
    refine (hin1 w2).mono ?_
    rintro e w' ⟨rfl, hw9⟩
    replace hw9 := hw9.symm
    subst hw9
    clear hw hin1 hrd hdd e1 e2 hlow hbat
    have hlt := Rb.lt
    go_wp2_with fail
    refine (hd1 w2 (h.below hB)).mono ?_
    rintro e w5 ⟨v', Q5, rfl, HQ, hO5, hn5, hlo5, hb5⟩
    obtain ⟨xa, xc, rfl⟩ := hO5.shape
    have R5 := Rb.below hb5
    have q0 := R5.cell 0 _ rfl
    have q1 := R5.cell 1 _ rfl
    have f0 := R5.frozen 0
    have f1 := R5.frozen 1
    have HQ5 : Hid (_ = O) := HQ
    have HFIN : Hid (∀ u u', txnK.Own ((w5.setCell ⟨w.heap.size, 0, none⟩ u).setCell ⟨w.heap.size, 1, none⟩ u') (.slice xa Q5.length xc) Q5 ∧ Below w.heap.size w ((w5.setCell ⟨w.heap.size, 0, none⟩ u).setCell ⟨w.heap.size, 1, none⟩ u')) := fun u u' => by
      refine ⟨hO5.out (((Out.refl [w.heap.size] w5).set (b := w.heap.size) (j := 0) (u := u) (by simp)).set (b := w.heap.size) (j := 1) (u := u') (by simp)) (fun k hk => by have := hlo5 k hk; simp only [List.mem_singleton]; omega), ?_⟩
      have hbb := hB.trans (hb5.mono hB.size)
      exact (hbb.setCell (p := ⟨w.heap.size, 0, none⟩) (Nat.le_refl _) _).setCell (p := ⟨w.heap.size, 1, none⟩) (Nat.le_refl _) _
    have HL5 : Hid ((txnK.fp (.slice xa Q5.length xc) Q5).Nodup ∧ ∀ k ∈ txnK.fp (.slice xa Q5.length xc) Q5, w.heap.size ≤ k) := ⟨hn5, fun k hk => by have := hlo5 k hk; omega⟩
    clear hO5 hn5 hlo5 hb5 hB Rb R5 HQ
    go_wp2
    exact bodyPost_ret (v := .agg #[.int .i64 0, .slice xa Q5.length xc]) (by simp [results, Tryz.results19, go_sem, q0, q1]) rfl ⟨.slice xa Q5.length xc, Q5, by rw [HC0.out], HQ5.out, (HFIN.out _ _).1, HL5.out.1, HL5.out.2, (HFIN.out _ _).2⟩

end Go.Proofs.YtdcjefgafckmgaaGreatDoor
