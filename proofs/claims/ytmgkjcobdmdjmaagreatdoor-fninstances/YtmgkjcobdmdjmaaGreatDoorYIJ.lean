/- Texts joined, with what the law reaches alone. -/
import Derived.Test.YtmgkjcobdmdjmaaGreatDoorYII
import Derived.Test.YtmgkjcobdmdjmaaGreatDoorYIH
namespace Go.Proofs.YtmgkjcobdmdjmaaGreatDoor
open Go.RowKit
open Go.BigFrame
set_option linter.unusedVariables false
set_option maxRecDepth 100000
set_option linter.unusedSimpArgs false
/-- A report, a proposal that is laid in a round. -/
def rstR (rs : List RoundE) (r n : Nat) (v : Int) : List RoundE := rs.set r ⟨(rs.getD r rnd0).rep.set n v, (rs.getD r rnd0).pro⟩

def rstP (rs : List RoundE) (r n : Nat) (v : Int) : List RoundE := rs.set r ⟨(rs.getD r rnd0).rep, (rs.getD r rnd0).pro.set n v⟩

theorem rstR_length (rs : List RoundE) (r n : Nat) (v : Int) : (rstR rs r n v).length = rs.length := by simp [rstR]

theorem rstP_length (rs : List RoundE) (r n : Nat) (v : Int) : (rstP rs r n v).length = rs.length := by simp [rstP]

theorem rowsV_set {rs : List RoundE} (h : Wel rs) (r : Nat) (hr : r < rs.length) (j : Nat) (hj : j < 6) (x : Value) (q : RoundE) (hq : rowC q = (rowC (rs.getD r rnd0)).set j x) : (rowsV rs).set (r * 6 + j) x = rowsV (rs.set r q) := by
 induction rs generalizing r with
 | nil => simp at hr
 | cons a t ih =>
  have ha := rowC_length (h a (by simp))
  cases r with
  | zero =>
   simp only [rowsV, List.set_cons_zero, List.flatMap_cons] at hq ⊢
   have e : (a :: t).getD 0 rnd0 = a := rfl
   rw [e] at hq
   rw [List.set_append_left _ _ (by omega), hq, Nat.zero_mul, Nat.zero_add]
  | succ r =>
   have e : (a :: t).getD (r + 1) rnd0 = t.getD r rnd0 := by simp [List.getD]
   rw [e] at hq
   have := ih (fun y hy => h y (List.mem_cons_of_mem _ hy)) r (by simpa using hr) hq
   simp only [rowsV, List.set_cons_succ, List.flatMap_cons] at this ⊢
   rw [List.set_append_right _ _ (by omega), ha, show (r + 1) * 6 + j - 6 = r * 6 + j by omega, this]

theorem rnd_set {rs : List RoundE} (h : Wel rs) (r : Nat) (hr : r < rs.length) (j : Nat) (hj : j < 6) (x : Value) (q : RoundE) (hq : rowC q = (rowC (rs.getD r rnd0)).set j x) : (rndC rs).set (1 + r * 6 + j) x = rndC (rs.set r q) := by
 have hl := rowsV_length h
 unfold rndC
 rw [show 1 + r * 6 + j = (r * 6 + j) + 1 by omega, List.set_cons_succ, List.set_append_left _ _ (by omega), rowsV_set h r hr j hj x q hq, List.length_set]

theorem brd_set {has : Bool} {vb : Value} {rs : List RoundE} {dec : List Int} (h : Wel rs) (h4 : rs.length ≤ 4) (r : Nat) (hr : r < rs.length) (j : Nat) (hj : j < 6) (x : Value) (q : RoundE) (hq : rowC q = (rowC (rs.getD r rnd0)).set j x) : (brdC has vb rs dec).set (1 + r * 6 + j) x = brdC has vb (rs.set r q) dec := by
 have hl := rndC_length h h4
 unfold brdC
 rw [List.set_append_left _ _ (by omega), rnd_set h r hr j hj x q hq]

theorem rowC_setR {q : RoundE} (h : q.rep.length = 3 ∧ q.pro.length = 3) (n : Nat) (hn : n < 3) (v : Int) : rowC ⟨q.rep.set n v, q.pro⟩ = (rowC q).set n (iv v) := by
 unfold rowC
 rw [← List.map_set, List.set_append_left _ _ (by omega)]

theorem rowC_setP {q : RoundE} (h : q.rep.length = 3 ∧ q.pro.length = 3) (n : Nat) (hn : n < 3) (v : Int) : rowC ⟨q.rep, q.pro.set n v⟩ = (rowC q).set (3 + n) (iv v) := by
 unfold rowC
 rw [← List.map_set, List.set_append_right _ _ (by omega), h.1, show 3 + n - 3 = n by omega]

theorem rnd_setR {rs : List RoundE} (h : Wel rs) (r : Nat) (hr : r < rs.length) (n : Nat) (hn : n < 3) (v : Int) : (rndC rs).set (1 + r * 6 + n) (iv v) = rndC (rstR rs r n v) :=
 rnd_set h r hr n (by omega) _ _ (rowC_setR (wel_at h r hr) n hn v)

theorem brd_setP {has : Bool} {vb : Value} {rs : List RoundE} {dec : List Int} (h : Wel rs) (h4 : rs.length ≤ 4) (r : Nat) (hr : r < rs.length) (n : Nat) (hn : n < 3) (v : Int) : (brdC has vb rs dec).set (1 + r * 6 + 3 + n) (iv v) = brdC has vb (rstP rs r n v) dec := by
 rw [show 1 + r * 6 + 3 + n = 1 + r * 6 + (3 + n) by omega]
 exact brd_set h h4 r hr (3 + n) (by omega) _ _ (rowC_setP (wel_at h r hr) n hn v)

theorem brd_setD {has : Bool} {vb : Value} {rs : List RoundE} {dec : List Int} (h : Wel rs) (h4 : rs.length ≤ 4) (n : Nat) (v : Int) : (brdC has vb rs dec).set (27 + n) (iv v) = brdC has vb rs (dec.set n v) := by
 have hl := rndC_length h h4
 unfold brdC
 rw [List.set_append_right _ _ (by omega), hl, show 27 + n - 25 = n + 2 by omega]
 simp [List.map_set]

theorem wel_set {rs : List RoundE} (h : Wel rs) (r : Nat) (q : RoundE) (hq : q.rep.length = 3 ∧ q.pro.length = 3) : Wel (rs.set r q) := fun x hx => by
 rcases List.mem_or_eq_of_mem_set hx with hx | rfl
 ·exact h x hx
 ·exact hq

theorem wel_rstR {rs : List RoundE} (h : Wel rs) (r n : Nat) (hr : r < rs.length) (v : Int) : Wel (rstR rs r n v) := wel_set h r _ (by have := wel_at h r hr; simpa using this)

theorem wel_rstP {rs : List RoundE} (h : Wel rs) (r n : Nat) (hr : r < rs.length) (v : Int) : Wel (rstP rs r n v) := wel_set h r _ (by have := wel_at h r hr; simpa using this)

/-- The same in memory. -/
def InstQ.setP (q : InstQ) (r n : Nat) (x : Int) (hr : r < q.rounds.length) : InstQ := ⟨q.has, q.vb, q.batch, q.vr, q.rounds.set r ⟨q.rounds[r].vr, q.rounds[r].rep, q.rounds[r].vp, q.rounds[r].pro.set n x⟩, q.vd, q.dec⟩

def InstQ.setR (q : InstQ) (r n : Nat) (x : Int) (hr : r < q.rounds.length) : InstQ := ⟨q.has, q.vb, q.batch, q.vr, q.rounds.set r ⟨q.rounds[r].vr, q.rounds[r].rep.set n x, q.rounds[r].vp, q.rounds[r].pro⟩, q.vd, q.dec⟩

def InstQ.setD (q : InstQ) (n : Nat) (x : Int) : InstQ := ⟨q.has, q.vb, q.batch, q.vr, q.rounds, q.vd, q.dec.set n x⟩

theorem getD_mapE (qs : List RoundQ) (r : Nat) (hr : r < qs.length) : (qs.map RoundQ.e).getD r rnd0 = qs[r].e := by simp [List.getD, hr]

theorem setP_e (q : InstQ) (r n : Nat) (x : Int) (hr : r < q.rounds.length) : (q.setP r n x hr).e = ⟨q.e.has, q.e.batch, rstP q.e.rounds r n x, q.e.dec⟩ := by
 show InstE.mk _ _ _ _ = _
 unfold rstP
 rw [show q.e.rounds = q.rounds.map RoundQ.e from rfl, getD_mapE _ _ hr]
 simp only [InstQ.setP, List.map_set]
 rfl

theorem setR_e (q : InstQ) (r n : Nat) (x : Int) (hr : r < q.rounds.length) : (q.setR r n x hr).e = ⟨q.e.has, q.e.batch, rstR q.e.rounds r n x, q.e.dec⟩ := by
 show InstE.mk _ _ _ _ = _
 unfold rstR
 rw [show q.e.rounds = q.rounds.map RoundQ.e from rfl, getD_mapE _ _ hr]
 simp only [InstQ.setR, List.map_set]
 rfl

theorem setD_e (q : InstQ) (n : Nat) (x : Int) : (q.setD n x).e = ⟨q.e.has, q.e.batch, q.e.rounds, q.e.dec.set n x⟩ := rfl

theorem intK_foot (zs : List Int) : zs.flatMap intK.foot = [] := by
 rw [List.flatMap_eq_nil_iff]
 intro _ _
 rfl

theorem own_int_set {w : World} {g n cap k : Nat} {zs : List Int} (h : intK.Own w (.slice (some ⟨g, 0, none⟩) n cap) zs) (hk : k < zs.length) (x : Int) :
  intK.Own (w.setCell ⟨g, k, none⟩ (iv x)) (.slice (some ⟨g, 0, none⟩) n cap) (zs.set k x) ∧ w.cell? ⟨g, k, none⟩ = some (iv zs[k]) ∧ w.frozen? ⟨g, k, none⟩ = false := by
 have hnd : (intK.fp (.slice (some ⟨g, 0, none⟩) n cap) zs).Nodup := intK_nodup _ _
 have h1 := (h.store hnd k hk x 0 (iv x) (by show 0 < 1; omega) rfl rfl (fun _ _ => trivial)).1
 have h2 := h.cell k hk 0 (iv zs[k]) rfl
 have e : k * intK.size + 0 = k := by show k * 1 + 0 = k; omega
 rw [e] at h1 h2
 exact ⟨h1, h2⟩

theorem fp_int {g n cap : Nat} (zs : List Int) : intK.fp (.slice (some ⟨g, 0, none⟩) n cap) zs = [g] := by
 simp [Kind.fp, intK_foot, blk, Value.ownBlock]

theorem nodup_flat {A B : Type} {f : A → List B} {l : List A} (h : (l.flatMap f).Nodup) {a : A} (ha : a ∈ l) : (f a).Nodup := by
 induction l with
 | nil => simp at ha
 | cons x t ih =>
  rw [List.flatMap_cons, List.nodup_append] at h
  rcases List.mem_cons.1 ha with rfl | ha
  ·exact h.1
  ·exact ih h.2.1 ha

theorem own_setP {w : World} {q : InstQ} (h : instK.own w q) (hnd : (instK.foot q).Nodup) (r n : Nat) (hr : r < q.rounds.length) (hn : n < q.rounds[r].pro.length) (x : Int) :
  ∃ g cap, q.rounds[r].vp = .slice (some ⟨g, 0, none⟩) q.rounds[r].pro.length cap ∧ g ∈ instK.foot q ∧ w.cell? ⟨g, n, none⟩ = some (iv q.rounds[r].pro[n]) ∧ w.frozen? ⟨g, n, none⟩ = false ∧
   instK.own (w.setCell ⟨g, n, none⟩ (iv x)) (q.setP r n x hr) ∧ instK.foot (q.setP r n x hr) = instK.foot q := by
 obtain ⟨o1, o2, o3⟩ := h
 obtain ⟨hn1, hn23, hd1⟩ := List.nodup_append.1 hnd
 obtain ⟨hn2, hn3, hd2⟩ := List.nodup_append.1 hn23
 have hmem := o2.2 _ (List.getElem_mem hr)
 obtain ⟨oR, oP⟩ := hmem
 obtain ⟨a, cap, hv⟩ := oP.shape
 rw [hv] at oP
 obtain ⟨g, rfl⟩ := oP.blkOf (by omega)
 obtain ⟨k1, k2, k3⟩ := own_int_set oP hn x
 have hgP : g ∈ roundK.foot q.rounds[r] := List.mem_append_right _ (by rw [hv, fp_int]; simp)
 have hg2 : g ∈ roundK.fp q.vr q.rounds := List.mem_append_right _ (List.mem_flatMap.2 ⟨_, List.getElem_mem hr, hgP⟩)
 have hg : g ∈ instK.foot q := List.mem_append_right _ (List.mem_append_left _ hg2)
 have hU := Out.setCell w g n (iv x)
 have hfr : (roundK.foot q.rounds[r]).Nodup := nodup_flat (List.nodup_append.1 hn2).2.1 (List.getElem_mem hr)
 have hRP : ∀ k ∈ intK.fp q.rounds[r].vr q.rounds[r].rep, k ∉ [g] := fun k hk hk' => by
  simp only [List.mem_singleton] at hk'
  subst hk'
  have := (List.nodup_append.1 hfr).2.2 k hk k (by rw [hv, fp_int]; simp)
  exact this rfl
 have ht := o2.turn hn2 r hr ⟨q.rounds[r].vr, q.rounds[r].rep, q.rounds[r].vp, q.rounds[r].pro.set n x⟩ hU (fun k hk => by simp only [List.mem_singleton] at hk; rw [hk]; exact hgP) rfl (by show intK.fp _ _ ++ intK.fp _ _ = intK.fp _ _ ++ intK.fp _ _; rw [hv, fp_int, fp_int]) ⟨oR.out hU hRP, by rw [hv]; exact k1⟩
 refine ⟨g, cap, hv, hg, k2, k3, ⟨o1.out hU (fun k hk hk' => ?_), ht.1, o3.out hU (fun k hk hk' => ?_)⟩, ?_⟩
 ·simp only [List.mem_singleton] at hk'
  subst hk'
  exact hd1 k hk k (List.mem_append_left _ hg2) rfl
 ·simp only [List.mem_singleton] at hk'
  subst hk'
  exact hd2 k hg2 k hk rfl
 ·show txnK.fp _ _ ++ (roundK.fp _ _ ++ intK.fp _ _) = _
  rw [show (q.setP r n x hr).rounds = q.rounds.set r ⟨q.rounds[r].vr, q.rounds[r].rep, q.rounds[r].vp, q.rounds[r].pro.set n x⟩ from rfl]
  rw [show (q.setP r n x hr).vr = q.vr from rfl, ht.2]
  rfl

theorem own_setR {w : World} {q : InstQ} (h : instK.own w q) (hnd : (instK.foot q).Nodup) (r n : Nat) (hr : r < q.rounds.length) (hn : n < q.rounds[r].rep.length) (x : Int) :
  ∃ g cap, q.rounds[r].vr = .slice (some ⟨g, 0, none⟩) q.rounds[r].rep.length cap ∧ g ∈ instK.foot q ∧ w.cell? ⟨g, n, none⟩ = some (iv q.rounds[r].rep[n]) ∧ w.frozen? ⟨g, n, none⟩ = false ∧
   instK.own (w.setCell ⟨g, n, none⟩ (iv x)) (q.setR r n x hr) ∧ instK.foot (q.setR r n x hr) = instK.foot q := by
 obtain ⟨o1, o2, o3⟩ := h
 obtain ⟨hn1, hn23, hd1⟩ := List.nodup_append.1 hnd
 obtain ⟨hn2, hn3, hd2⟩ := List.nodup_append.1 hn23
 have hmem := o2.2 _ (List.getElem_mem hr)
 obtain ⟨oR, oP⟩ := hmem
 obtain ⟨a, cap, hv⟩ := oR.shape
 rw [hv] at oR
 obtain ⟨g, rfl⟩ := oR.blkOf (by omega)
 obtain ⟨k1, k2, k3⟩ := own_int_set oR hn x
 have hgR : g ∈ roundK.foot q.rounds[r] := List.mem_append_left _ (by rw [hv, fp_int]; simp)
 have hg2 : g ∈ roundK.fp q.vr q.rounds := List.mem_append_right _ (List.mem_flatMap.2 ⟨_, List.getElem_mem hr, hgR⟩)
 have hg : g ∈ instK.foot q := List.mem_append_right _ (List.mem_append_left _ hg2)
 have hU := Out.setCell w g n (iv x)
 have hfr : (roundK.foot q.rounds[r]).Nodup := nodup_flat (List.nodup_append.1 hn2).2.1 (List.getElem_mem hr)
 have hRP : ∀ k ∈ intK.fp q.rounds[r].vp q.rounds[r].pro, k ∉ [g] := fun k hk hk' => by
  simp only [List.mem_singleton] at hk'
  subst hk'
  have := (List.nodup_append.1 hfr).2.2 k (by rw [hv, fp_int]; simp) k hk
  exact this rfl
 have ht := o2.turn hn2 r hr ⟨q.rounds[r].vr, q.rounds[r].rep.set n x, q.rounds[r].vp, q.rounds[r].pro⟩ hU (fun k hk => by simp only [List.mem_singleton] at hk; rw [hk]; exact hgR) rfl (by show intK.fp _ _ ++ intK.fp _ _ = intK.fp _ _ ++ intK.fp _ _; rw [hv, fp_int, fp_int]) ⟨by rw [hv]; exact k1, oP.out hU hRP⟩
 refine ⟨g, cap, hv, hg, k2, k3, ⟨o1.out hU (fun k hk hk' => ?_), ht.1, o3.out hU (fun k hk hk' => ?_)⟩, ?_⟩
 ·simp only [List.mem_singleton] at hk'
  subst hk'
  exact hd1 k hk k (List.mem_append_left _ hg2) rfl
 ·simp only [List.mem_singleton] at hk'
  subst hk'
  exact hd2 k hg2 k hk rfl
 ·show txnK.fp _ _ ++ (roundK.fp _ _ ++ intK.fp _ _) = _
  rw [show (q.setR r n x hr).rounds = q.rounds.set r ⟨q.rounds[r].vr, q.rounds[r].rep.set n x, q.rounds[r].vp, q.rounds[r].pro⟩ from rfl]
  rw [show (q.setR r n x hr).vr = q.vr from rfl, ht.2]
  rfl

theorem own_setD {w : World} {q : InstQ} (h : instK.own w q) (hnd : (instK.foot q).Nodup) (n : Nat) (hn : n < q.dec.length) (x : Int) :
  ∃ g cap, q.vd = .slice (some ⟨g, 0, none⟩) q.dec.length cap ∧ g ∈ instK.foot q ∧ w.cell? ⟨g, n, none⟩ = some (iv q.dec[n]) ∧ w.frozen? ⟨g, n, none⟩ = false ∧
   instK.own (w.setCell ⟨g, n, none⟩ (iv x)) (q.setD n x) ∧ instK.foot (q.setD n x) = instK.foot q := by
 obtain ⟨o1, o2, o3⟩ := h
 obtain ⟨hn1, hn23, hd1⟩ := List.nodup_append.1 hnd
 obtain ⟨hn2, hn3, hd2⟩ := List.nodup_append.1 hn23
 obtain ⟨a, cap, hv⟩ := o3.shape
 rw [hv] at o3
 obtain ⟨g, rfl⟩ := o3.blkOf (by omega)
 obtain ⟨k1, k2, k3⟩ := own_int_set o3 hn x
 have hg3 : g ∈ intK.fp q.vd q.dec := by rw [hv, fp_int]; simp
 have hg : g ∈ instK.foot q := List.mem_append_right _ (List.mem_append_right _ hg3)
 have hU := Out.setCell w g n (iv x)
 refine ⟨g, cap, hv, hg, k2, k3, ⟨o1.out hU (fun k hk hk' => ?_), o2.out hU (fun k hk hk' => ?_), ?_⟩, ?_⟩
 ·simp only [List.mem_singleton] at hk'
  subst hk'
  exact hd1 k hk k (List.mem_append_right _ hg3) rfl
 ·simp only [List.mem_singleton] at hk'
  subst hk'
  exact hd2 k hk k hg3 rfl
 ·show intK.Own _ q.vd _
  rw [hv]
  exact k1
 ·show txnK.fp _ _ ++ (roundK.fp _ _ ++ intK.fp q.vd _) = txnK.fp _ _ ++ (roundK.fp _ _ ++ intK.fp q.vd _)
  rw [hv, fp_int, fp_int]
  rfl

end Go.Proofs.YtmgkjcobdmdjmaaGreatDoor
namespace Go.Proofs.YtmgkjcobdmdjmaaGreatDoor
open Go.RowKit
open Go.BigFrame
set_option linter.unusedVariables false
set_option maxRecDepth 100000
set_option linter.unusedSimpArgs false
/-- The code for who says something. -/
def atC (x : InstE) (node round : Int) : Int := if insF x = 0 then (if inB node 0 2 && inB round 0 ((x.rounds.length : Int) - 1) then 0 else 3) else insF x

def bdAt (p : InstQ) (node round : Int) : List Value := if atC p.e node round = 0 then brdC p.has p.vb p.e.rounds p.dec else brd0

theorem at_zero {x : InstE} {node round : Int} (h : atC x node round = 0) : insF x = 0 ∧ ∃ n r : Nat, node = (n : Int) ∧ round = (r : Int) ∧ n < 3 ∧ r < x.rounds.length := by
 unfold atC at h
 by_cases h0 : insF x = 0
 ·rw [if_pos h0] at h
  by_cases h1 : (inB node 0 2 && inB round 0 ((x.rounds.length : Int) - 1)) = true
  ·rw [Bool.and_eq_true] at h1
   obtain ⟨h1, h2⟩ := h1
   unfold inB at h1 h2
   rw [decide_eq_true_eq] at h1 h2
   exact ⟨h0, node.toNat, round.toNat, by omega, by omega, by omega, by omega⟩
  ·rw [if_neg h1] at h
   exact absurd h (by decide)
 ·rw [if_neg h0] at h
  exact absurd h h0

theorem bdAt_ok {w : World} {p : InstQ} (node round : Int) (h : instK.rd w p) : (bdAt p node round).length = 30 ∧ (bdAt p node round).toArray.all (·.oneCell') = true := by
 by_cases h0 : atC p.e node round = 0
 ·have h1 := bd_ok h
  unfold bdOf at h1
  rw [if_pos (at_zero h0).1] at h1
  unfold bdAt
  rw [if_pos h0]
  exact h1
 ·unfold bdAt
  rw [if_neg h0]
  exact ⟨rfl, by kernel_rfl⟩

set_option maxHeartbeats 4000000 in
theorem boardAt_any (p : InstQ) (node round : Int) (w : World) (hG : Rul w) (h : instK.rd w p) (hl : p.n ≤ 1048576) :
  Calls Tryz.prog 66 #[.agg #[.bool p.has, p.vb, p.vr, p.vd], .int .i64 node, .int .i64 round] w fun e w' => e = .returned (.tuple #[.agg (bdAt p node round).toArray, .int .i64 (atC p.e node round)]) ∧ Below w.heap.size w w' := by
 obtain ⟨hl30, hone⟩ := bd_ok h
 have hbo := fun w hG h => boardOf_any p w hG h hl
 have hrb := fun (w' : World) hb => instK.rd_below (w' := w') h hb
 change ∀ w hG h, Calls _ _ _ _ fun e w' => e = .returned (.tuple #[.agg (bdOf p).toArray, _]) ∧ _ at hbo
 have HBD : Hid (insF p.e = 0 → bdOf p = brdC p.has p.vb p.e.rounds p.dec ∧ Wel p.e.rounds ∧ p.e.rounds.length ≤ 4) := fun h0 => by
  obtain ⟨h1, h2, h3, _⟩ := ins_ok h0
  exact ⟨if_pos h0, h1, h2.2⟩
 obtain ⟨D, hD⟩ : ∃ D, atC p.e node round = D := ⟨_, rfl⟩
 obtain ⟨E, hE⟩ : ∃ E, bdAt p node round = E := ⟨_, rfl⟩
 have HDE : Hid ((insF p.e ≠ 0 → D = insF p.e ∧ E = brd0) ∧ (insF p.e = 0 → (inB node 0 2 && inB round 0 ((p.e.rounds.length : Int) - 1)) = false → D = 3 ∧ E = brd0) ∧ (insF p.e = 0 → (inB node 0 2 && inB round 0 ((p.e.rounds.length : Int) - 1)) = true → D = 0 ∧ E = bdOf p)) := by
  refine ⟨fun h0 => ?_, fun h0 h1 => ?_, fun h0 h1 => ?_⟩
  ·have e : D = insF p.e := by rw [← hD]; exact if_neg h0
   exact ⟨e, by rw [← hE]; exact if_neg (by rw [hD, e]; exact h0)⟩
  ·have e : D = 3 := by rw [← hD]; unfold atC; rw [if_pos h0, h1]; rfl
   exact ⟨e, by rw [← hE]; exact if_neg (by rw [hD, e]; decide)⟩
  ·have e : D = 0 := by rw [← hD]; unfold atC; rw [if_pos h0, h1]; rfl
   refine ⟨e, ?_⟩
   rw [← hE]
   unfold bdAt bdOf
   rw [hD, if_pos e, if_pos h0]
 rw [hD, hE]
 clear hD hE
 generalize bdOf p = BD at *
 generalize insF p.e = C at *
 generalize p.e.rounds = rs at *
 obtain ⟨has, vb, batch, vr, rounds, vd, dec⟩ := p
 obtain ⟨ba, bk, rfl⟩ : ∃ a c, vb = .slice a batch.length c := h.1.shape
 obtain ⟨va, vk, rfl⟩ : ∃ a c, vr = .slice a rounds.length c := h.2.1.shape
 obtain ⟨da, dk, rfl⟩ : ∃ a c, vd = .slice a dec.length c := h.2.2.shape
 dsimp only at hbo hrb HBD HDE
 have hB : Below w.heap.size w ((w.alloc (.cells #[.bool has, .slice ba batch.length bk, .slice va rounds.length vk, .slice da dec.length dk] 28)).alloc (.cells #[.int .i64 0, .int .i64 0, .int .i64 0, .int .i64 0, .int .i64 0, .int .i64 0, .int .i64 0, .int .i64 0, .int .i64 0, .int .i64 0, .int .i64 0, .int .i64 0, .int .i64 0, .int .i64 0, .int .i64 0, .int .i64 0, .int .i64 0, .int .i64 0, .int .i64 0, .int .i64 0, .int .i64 0, .int .i64 0, .int .i64 0, .int .i64 0, .int .i64 0, .bool false, .slice none 0 0, .int .i64 0, .int .i64 0, .int .i64 0] 96)) := by go_grown
 have Rb := Blk.new (w.alloc (.cells #[.bool has, .slice ba batch.length bk, .slice va rounds.length vk, .slice da dec.length dk] 28)) 96 #[.int .i64 0, .int .i64 0, .int .i64 0, .int .i64 0, .int .i64 0, .int .i64 0, .int .i64 0, .int .i64 0, .int .i64 0, .int .i64 0, .int .i64 0, .int .i64 0, .int .i64 0, .int .i64 0, .int .i64 0, .int .i64 0, .int .i64 0, .int .i64 0, .int .i64 0, .int .i64 0, .int .i64 0, .int .i64 0, .int .i64 0, .int .i64 0, .int .i64 0, .bool false, .slice none 0 0, .int .i64 0, .int .i64 0, .int .i64 0]
 simp only [World.size_alloc] at Rb
 have hszB : (Tryz.prog.info? 96).map (·.size) = some BD.toArray.size := by rw [List.size_toArray, hl30]; exact sz_board
 have hszL : (Tryz.prog.info? 96).map (·.size) = some BD.length := by rw [hl30]; exact sz_board
 have hold : (#[.int .i64 0, .int .i64 0, .int .i64 0, .int .i64 0, .int .i64 0, .int .i64 0, .int .i64 0, .int .i64 0, .int .i64 0, .int .i64 0, .int .i64 0, .int .i64 0, .int .i64 0, .int .i64 0, .int .i64 0, .int .i64 0, .int .i64 0, .int .i64 0, .int .i64 0, .int .i64 0, .int .i64 0, .int .i64 0, .int .i64 0, .int .i64 0, .int .i64 0, .bool false, .slice none 0 0, .int .i64 0, .int .i64 0, .int .i64 0] : Array Value).size = BD.toArray.size := (show 30 = BD.length from hl30.symm)
 have hszZ : (Tryz.prog.info? 96).map (·.size) = some (#[.int .i64 0, .int .i64 0, .int .i64 0, .int .i64 0, .int .i64 0, .int .i64 0, .int .i64 0, .int .i64 0, .int .i64 0, .int .i64 0, .int .i64 0, .int .i64 0, .int .i64 0, .int .i64 0, .int .i64 0, .int .i64 0, .int .i64 0, .int .i64 0, .int .i64 0, .int .i64 0, .int .i64 0, .int .i64 0, .int .i64 0, .int .i64 0, .int .i64 0, .bool false, .slice none 0 0, .int .i64 0, .int .i64 0, .int .i64 0] : Array Value).size := by kernel_rfl
 have honeZ : (#[.int .i64 0, .int .i64 0, .int .i64 0, .int .i64 0, .int .i64 0, .int .i64 0, .int .i64 0, .int .i64 0, .int .i64 0, .int .i64 0, .int .i64 0, .int .i64 0, .int .i64 0, .int .i64 0, .int .i64 0, .int .i64 0, .int .i64 0, .int .i64 0, .int .i64 0, .int .i64 0, .int .i64 0, .int .i64 0, .int .i64 0, .int .i64 0, .int .i64 0, .bool false, .slice none 0 0, .int .i64 0, .int .i64 0, .int .i64 0] : Array Value).all (·.oneCell') = true := by kernel_rfl
 go_enter Tryz.func66, Tryz.ntmps66
 go_wp2_with fail
 generalize ((w.alloc (.cells #[.bool has, .slice ba batch.length bk, .slice va rounds.length vk, .slice da dec.length dk] 28)).alloc (.cells #[.int .i64 0, .int .i64 0, .int .i64 0, .int .i64 0, .int .i64 0, .int .i64 0, .int .i64 0, .int .i64 0, .int .i64 0, .int .i64 0, .int .i64 0, .int .i64 0, .int .i64 0, .int .i64 0, .int .i64 0, .int .i64 0, .int .i64 0, .int .i64 0, .int .i64 0, .int .i64 0, .int .i64 0, .int .i64 0, .int .i64 0, .int .i64 0, .int .i64 0, .bool false, .slice none 0 0, .int .i64 0, .int .i64 0, .int .i64 0] 96)) = W at *
 refine (hbo W (hG.below hB) (hrb W hB)).mono ?_
 rintro e w1 ⟨rfl, hb1⟩
 replace hB := hB.trans (hb1.mono hB.size)
 replace Rb := Rb.below hb1
 have Bz := Blk.new w1 96 #[.int .i64 0, .int .i64 0, .int .i64 0, .int .i64 0, .int .i64 0, .int .i64 0, .int .i64 0, .int .i64 0, .int .i64 0, .int .i64 0, .int .i64 0, .int .i64 0, .int .i64 0, .int .i64 0, .int .i64 0, .int .i64 0, .int .i64 0, .int .i64 0, .int .i64 0, .int .i64 0, .int .i64 0, .int .i64 0, .int .i64 0, .int .i64 0, .int .i64 0, .bool false, .slice none 0 0, .int .i64 0, .int .i64 0, .int .i64 0]
 have hB2 := below_row (hB.alloc hB.size (.cells #[.int .i64 0, .int .i64 0, .int .i64 0, .int .i64 0, .int .i64 0, .int .i64 0, .int .i64 0, .int .i64 0, .int .i64 0, .int .i64 0, .int .i64 0, .int .i64 0, .int .i64 0, .int .i64 0, .int .i64 0, .int .i64 0, .int .i64 0, .int .i64 0, .int .i64 0, .int .i64 0, .int .i64 0, .int .i64 0, .int .i64 0, .int .i64 0, .int .i64 0, .bool false, .slice none 0 0, .int .i64 0, .int .i64 0, .int .i64 0] 96)) (g := w1.heap.size) hB.size BD.toArray
 have Rb2 : Blk ((w1.alloc (.cells #[.int .i64 0, .int .i64 0, .int .i64 0, .int .i64 0, .int .i64 0, .int .i64 0, .int .i64 0, .int .i64 0, .int .i64 0, .int .i64 0, .int .i64 0, .int .i64 0, .int .i64 0, .int .i64 0, .int .i64 0, .int .i64 0, .int .i64 0, .int .i64 0, .int .i64 0, .int .i64 0, .int .i64 0, .int .i64 0, .int .i64 0, .int .i64 0, .int .i64 0, .bool false, .slice none 0 0, .int .i64 0, .int .i64 0, .int .i64 0] 96)).setRow w1.heap.size BD.toArray) (w.heap.size + 1) 96 #[.int .i64 0, .int .i64 0, .int .i64 0, .int .i64 0, .int .i64 0, .int .i64 0, .int .i64 0, .int .i64 0, .int .i64 0, .int .i64 0, .int .i64 0, .int .i64 0, .int .i64 0, .int .i64 0, .int .i64 0, .int .i64 0, .int .i64 0, .int .i64 0, .int .i64 0, .int .i64 0, .int .i64 0, .int .i64 0, .int .i64 0, .int .i64 0, .int .i64 0, .bool false, .slice none 0 0, .int .i64 0, .int .i64 0, .int .i64 0] := (setRow_other _ _ _ _ (by have := Rb.lt; omega)).trans (Rb.below ((Below.refl _ _).alloc (Nat.le_refl _) _))
 have B2 := Bz.row BD.toArray
 have hlt2 := Rb.lt
 clear hbo hrb hb1 Rb
 by_cases h0 : C = 0
 case neg =>
  have E1 : Hid (D = C ∧ E = brd0) := HDE.out.1 h0
  have h0' : (C != 0) = true := by simpa using h0
  clear HDE HBD h0 B2
  have Rr := Rb2.row #[.int .i64 0, .int .i64 0, .int .i64 0, .int .i64 0, .int .i64 0, .int .i64 0, .int .i64 0, .int .i64 0, .int .i64 0, .int .i64 0, .int .i64 0, .int .i64 0, .int .i64 0, .int .i64 0, .int .i64 0, .int .i64 0, .int .i64 0, .int .i64 0, .int .i64 0, .int .i64 0, .int .i64 0, .int .i64 0, .int .i64 0, .int .i64 0, .int .i64 0, .bool false, .slice none 0 0, .int .i64 0, .int .i64 0, .int .i64 0]
  have hBr := below_row hB2 (g := w.heap.size + 1) (by omega) #[.int .i64 0, .int .i64 0, .int .i64 0, .int .i64 0, .int .i64 0, .int .i64 0, .int .i64 0, .int .i64 0, .int .i64 0, .int .i64 0, .int .i64 0, .int .i64 0, .int .i64 0, .int .i64 0, .int .i64 0, .int .i64 0, .int .i64 0, .int .i64 0, .int .i64 0, .int .i64 0, .int .i64 0, .int .i64 0, .int .i64 0, .int .i64 0, .int .i64 0, .bool false, .slice none 0 0, .int .i64 0, .int .i64 0, .int .i64 0]
  go_wp2_with (first | (refine st_row (by kernel_rfl) 96 _ _ rfl _ BD.toArray rfl rfl 96 _ Bz hszB hold hone ?_) | (refine st_row (by kernel_rfl) 96 _ _ rfl _ #[.int .i64 0, .int .i64 0, .int .i64 0, .int .i64 0, .int .i64 0, .int .i64 0, .int .i64 0, .int .i64 0, .int .i64 0, .int .i64 0, .int .i64 0, .int .i64 0, .int .i64 0, .int .i64 0, .int .i64 0, .int .i64 0, .int .i64 0, .int .i64 0, .int .i64 0, .int .i64 0, .int .i64 0, .int .i64 0, .int .i64 0, .int .i64 0, .int .i64 0, .bool false, .slice none 0 0, .int .i64 0, .int .i64 0, .int .i64 0] rfl rfl 96 _ Rb2 hszZ rfl honeZ ?_) | (go_at_call 67; refine (within_any _ _ _ _).mono ?_; rintro e w' ⟨rfl, rfl⟩))
  exact bodyPost_ret (v := .tuple #[.agg brd0.toArray, .int .i64 C]) (results_two Tryz.results66 _ _ (w.heap.size + 1) brd0.toArray _ rfl rfl (ld_brd Rr rfl)) rfl ⟨by rw [E1.out.1, E1.out.2], hBr⟩

 case pos =>
  obtain ⟨hBD, hwel, h4⟩ := HBD.out h0
  have c0 : ((w1.alloc (.cells #[.int .i64 0, .int .i64 0, .int .i64 0, .int .i64 0, .int .i64 0, .int .i64 0, .int .i64 0, .int .i64 0, .int .i64 0, .int .i64 0, .int .i64 0, .int .i64 0, .int .i64 0, .int .i64 0, .int .i64 0, .int .i64 0, .int .i64 0, .int .i64 0, .int .i64 0, .int .i64 0, .int .i64 0, .int .i64 0, .int .i64 0, .int .i64 0, .int .i64 0, .bool false, .slice none 0 0, .int .i64 0, .int .i64 0, .int .i64 0] 96)).setRow w1.heap.size BD.toArray).cell? ⟨w1.heap.size, 0, none⟩ = some (.int .i64 (rs.length : Int)) := B2.cell 0 _ (by rw [List.getElem?_toArray, hBD, brd_rnd hwel h4 0 (by omega)]; exact rnd_cnt rs)
  have RGB := rng B2 BD (o := 0) (fun j v hv => by rw [Nat.zero_add, List.getElem?_toArray]; exact hv)
  subst h0
  clear HBD hBD hwel
  have E4 : Hid (((inB node 0 2 && inB round 0 ((rs.length : Int) - 1)) = false → D = 3 ∧ E = brd0) ∧ ((inB node 0 2 && inB round 0 ((rs.length : Int) - 1)) = true → D = 0 ∧ E = BD)) := ⟨HDE.out.2.1 rfl, HDE.out.2.2 rfl⟩
  clear HDE
  cases hN : inB node 0 2 with
  | false =>
   have E1 : Hid (D = 3 ∧ E = brd0) := E4.out.1 (by rw [hN]; rfl)
   clear E4
   have Rr := Rb2.row #[.int .i64 0, .int .i64 0, .int .i64 0, .int .i64 0, .int .i64 0, .int .i64 0, .int .i64 0, .int .i64 0, .int .i64 0, .int .i64 0, .int .i64 0, .int .i64 0, .int .i64 0, .int .i64 0, .int .i64 0, .int .i64 0, .int .i64 0, .int .i64 0, .int .i64 0, .int .i64 0, .int .i64 0, .int .i64 0, .int .i64 0, .int .i64 0, .int .i64 0, .bool false, .slice none 0 0, .int .i64 0, .int .i64 0, .int .i64 0]
   have hBr := below_row hB2 (g := w.heap.size + 1) (by omega) #[.int .i64 0, .int .i64 0, .int .i64 0, .int .i64 0, .int .i64 0, .int .i64 0, .int .i64 0, .int .i64 0, .int .i64 0, .int .i64 0, .int .i64 0, .int .i64 0, .int .i64 0, .int .i64 0, .int .i64 0, .int .i64 0, .int .i64 0, .int .i64 0, .int .i64 0, .int .i64 0, .int .i64 0, .int .i64 0, .int .i64 0, .int .i64 0, .int .i64 0, .bool false, .slice none 0 0, .int .i64 0, .int .i64 0, .int .i64 0]
   go_wp2_with (first | (refine st_row (by kernel_rfl) 96 _ _ rfl _ BD.toArray rfl rfl 96 _ Bz hszB hold hone ?_) | (refine st_row (by kernel_rfl) 96 _ _ rfl _ #[.int .i64 0, .int .i64 0, .int .i64 0, .int .i64 0, .int .i64 0, .int .i64 0, .int .i64 0, .int .i64 0, .int .i64 0, .int .i64 0, .int .i64 0, .int .i64 0, .int .i64 0, .int .i64 0, .int .i64 0, .int .i64 0, .int .i64 0, .int .i64 0, .int .i64 0, .int .i64 0, .int .i64 0, .int .i64 0, .int .i64 0, .int .i64 0, .int .i64 0, .bool false, .slice none 0 0, .int .i64 0, .int .i64 0, .int .i64 0] rfl rfl 96 _ Rb2 hszZ rfl honeZ ?_) | (go_at_call 67; refine (within_any _ _ _ _).mono ?_; rintro e w' ⟨rfl, rfl⟩))
   exact bodyPost_ret (v := .tuple #[.agg brd0.toArray, .int .i64 3]) (results_two Tryz.results66 _ _ (w.heap.size + 1) brd0.toArray _ rfl rfl (ld_brd Rr rfl)) rfl ⟨by rw [E1.out.1, E1.out.2], hBr⟩

  | true =>
   cases hR : inB round 0 ((rs.length : Int) - 1) with
   | false =>
    have E1 : Hid (D = 3 ∧ E = brd0) := E4.out.1 (by rw [hN, hR]; rfl)
    clear E4
    have Rr := Rb2.row #[.int .i64 0, .int .i64 0, .int .i64 0, .int .i64 0, .int .i64 0, .int .i64 0, .int .i64 0, .int .i64 0, .int .i64 0, .int .i64 0, .int .i64 0, .int .i64 0, .int .i64 0, .int .i64 0, .int .i64 0, .int .i64 0, .int .i64 0, .int .i64 0, .int .i64 0, .int .i64 0, .int .i64 0, .int .i64 0, .int .i64 0, .int .i64 0, .int .i64 0, .bool false, .slice none 0 0, .int .i64 0, .int .i64 0, .int .i64 0]
    have hBr := below_row hB2 (g := w.heap.size + 1) (by omega) #[.int .i64 0, .int .i64 0, .int .i64 0, .int .i64 0, .int .i64 0, .int .i64 0, .int .i64 0, .int .i64 0, .int .i64 0, .int .i64 0, .int .i64 0, .int .i64 0, .int .i64 0, .int .i64 0, .int .i64 0, .int .i64 0, .int .i64 0, .int .i64 0, .int .i64 0, .int .i64 0, .int .i64 0, .int .i64 0, .int .i64 0, .int .i64 0, .int .i64 0, .bool false, .slice none 0 0, .int .i64 0, .int .i64 0, .int .i64 0]
    go_wp2_with (first | (refine st_row (by kernel_rfl) 96 _ _ rfl _ BD.toArray rfl rfl 96 _ Bz hszB hold hone ?_) | (refine st_row (by kernel_rfl) 96 _ _ rfl _ #[.int .i64 0, .int .i64 0, .int .i64 0, .int .i64 0, .int .i64 0, .int .i64 0, .int .i64 0, .int .i64 0, .int .i64 0, .int .i64 0, .int .i64 0, .int .i64 0, .int .i64 0, .int .i64 0, .int .i64 0, .int .i64 0, .int .i64 0, .int .i64 0, .int .i64 0, .int .i64 0, .int .i64 0, .int .i64 0, .int .i64 0, .int .i64 0, .int .i64 0, .bool false, .slice none 0 0, .int .i64 0, .int .i64 0, .int .i64 0] rfl rfl 96 _ Rb2 hszZ rfl honeZ ?_) | (go_at_call 67; refine (within_any _ _ _ _).mono ?_; rintro e w' ⟨rfl, rfl⟩))
    exact bodyPost_ret (v := .tuple #[.agg brd0.toArray, .int .i64 3]) (results_two Tryz.results66 _ _ (w.heap.size + 1) brd0.toArray _ rfl rfl (ld_brd Rr rfl)) rfl ⟨by rw [E1.out.1, E1.out.2], hBr⟩

   | true =>
    have E1 : Hid (D = 0 ∧ E = BD) := E4.out.2 (by rw [hN, hR]; rfl)
    clear E4
    have Rr := Rb2.row BD.toArray
    have hBr := below_row hB2 (g := w.heap.size + 1) (by omega) BD.toArray
    go_wp2_with (first | (refine st_row (by kernel_rfl) 96 _ _ rfl _ BD.toArray rfl rfl 96 _ Bz hszB hold hone ?_) | (refine st_row (by kernel_rfl) 96 _ _ rfl _ BD.toArray rfl rfl 96 _ Rb2 hszB hold hone ?_) | (refine ld_g (by kernel_rfl) 96 _ rfl _ _ rfl BD _ RGB Tryz.underlying96 rfl hszL ?_) | (go_at_call 67; refine (within_any _ _ _ _).mono ?_; rintro e w' ⟨rfl, rfl⟩))
    exact bodyPost_ret (v := .tuple #[.agg BD.toArray, .int .i64 0]) (results_two Tryz.results66 _ _ (w.heap.size + 1) BD.toArray _ rfl rfl (ld_brd Rr hl30)) rfl ⟨by rw [E1.out.1, E1.out.2], hBr⟩

end Go.Proofs.YtmgkjcobdmdjmaaGreatDoor
namespace Go.Proofs.YtmgkjcobdmdjmaaGreatDoor
open Go.RowKit
open Go.BigFrame
set_option linter.unusedVariables false
set_option maxRecDepth 100000
set_option linter.unusedSimpArgs false
/-- Propose, plainly: its code, and its instance. -/
def prC (x : InstE) (node round mask : Int) : Int := if atC x node round = 0 then (if proA x.rounds round.toNat node.toNat = 3 then (if repA x.rounds round.toNat node.toNat = 3 then 8 else pfC (x.rounds.getD round.toNat rnd0).rep mask) else 6) else atC x node round

def prI (x : InstE) (node round mask : Int) : InstE := if prC x node round mask = 0 then ⟨x.has, x.batch, rstP x.rounds round.toNat node.toNat (pfV (x.rounds.getD round.toNat rnd0).rep mask), x.dec⟩ else ine0

theorem pr_facts (x : InstE) (node round mask : Int) : (atC x node round ≠ 0 → prC x node round mask = atC x node round ∧ prI x node round mask = ine0) ∧
  (atC x node round = 0 → insF x = 0 ∧ ∃ n r : Nat, node = (n : Int) ∧ round = (r : Int) ∧ n < 3 ∧ r < x.rounds.length ∧
   (proA x.rounds r n ≠ 3 → prC x node round mask = 6 ∧ prI x node round mask = ine0) ∧
   (proA x.rounds r n = 3 → repA x.rounds r n = 3 → prC x node round mask = 8 ∧ prI x node round mask = ine0) ∧
   (proA x.rounds r n = 3 → repA x.rounds r n ≠ 3 → pfC (x.rounds.getD r rnd0).rep mask ≠ 0 → prC x node round mask = pfC (x.rounds.getD r rnd0).rep mask ∧ prI x node round mask = ine0) ∧
   (proA x.rounds r n = 3 → repA x.rounds r n ≠ 3 → pfC (x.rounds.getD r rnd0).rep mask = 0 → prC x node round mask = 0 ∧ prI x node round mask = ⟨x.has, x.batch, rstP x.rounds r n (pfV (x.rounds.getD r rnd0).rep mask), x.dec⟩)) := by
 have hne : ∀ c, prC x node round mask = c → c ≠ 0 → prI x node round mask = ine0 := fun c hc h0 => if_neg (by rw [hc]; exact h0)
 refine ⟨fun h0 => ?_, fun h0 => ?_⟩
 ·have e : prC x node round mask = atC x node round := if_neg h0
  exact ⟨e, hne _ e h0⟩
 ·obtain ⟨hi, n, r, rfl, rfl, hn, hr⟩ := at_zero h0
  refine ⟨hi, n, r, rfl, rfl, hn, hr, fun h1 => ?_, fun h1 h2 => ?_, fun h1 h2 h3 => ?_, fun h1 h2 h3 => ?_⟩
  ·have e : prC x n r mask = 6 := by unfold prC; rw [if_pos h0, Int.toNat_natCast, Int.toNat_natCast, if_neg h1]
   exact ⟨e, hne _ e (by decide)⟩
  ·have e : prC x n r mask = 8 := by unfold prC; rw [if_pos h0, Int.toNat_natCast, Int.toNat_natCast, if_pos h1, if_pos h2]
   exact ⟨e, hne _ e (by decide)⟩
  ·have e : prC x n r mask = pfC (x.rounds.getD r rnd0).rep mask := by unfold prC; rw [if_pos h0, Int.toNat_natCast, Int.toNat_natCast, if_pos h1, if_neg h2]
   exact ⟨e, hne _ e h3⟩
  ·have e : prC x n r mask = 0 := by unfold prC; rw [if_pos h0, Int.toNat_natCast, Int.toNat_natCast, if_pos h1, if_neg h2, h3]
   exact ⟨e, by unfold prI; rw [if_pos e, Int.toNat_natCast, Int.toNat_natCast]⟩

theorem bdAt_zero {p : InstQ} {node round : Int} (h : atC p.e node round = 0) : bdAt p node round = brdC p.has p.vb p.e.rounds p.dec ∧ Wel p.e.rounds ∧ p.e.rounds.length ≤ 4 ∧ p.dec.length = 3 := by
 obtain ⟨h1, h2, h3, _⟩ := ins_ok (at_zero h).1
 exact ⟨if_pos h, h1, h2.2, h3⟩

set_option maxHeartbeats 4000000 in
theorem implPropose_any (p : InstQ) (node round mask : Int) (w : World) (hG : Rul w) (h : instK.rd w p) (hl : p.n ≤ 1048576) :
  Calls Tryz.prog 16 #[.agg #[.bool p.has, p.vb, p.vr, p.vd], .int .i64 node, .int .i64 round, .int .i64 mask] w fun e w' => ∃ q : InstQ, e = .returned (.agg (resC (prC p.e node round mask) 0 false false 0 q)) ∧ q.e = prI p.e node round mask ∧ instK.own w' q ∧ (instK.foot q).Nodup ∧ (∀ k ∈ instK.foot q, w.heap.size ≤ k) ∧ Below w.heap.size w w' := by
 obtain ⟨hl30, hone⟩ := bdAt_ok node round h
 have hbo := fun w hG h => boardAt_any p node round w hG h hl
 have hrb := fun (w' : World) hb => instK.rd_below (w' := w') h hb
 have hTx : txnK.At w p.vb p.batch := h.1
 have hin := fun (h0 : insF p.e = 0) (rs : List RoundE) (dec : List Int) w (hT : txnK.At w p.vb p.batch) hw h4 h3 => instance_any p.has p.vb p.batch rs dec w hT (ins_low h0).1 (by unfold InstQ.n at hl; omega) hw h4 h3
 have HBD : Hid (atC p.e node round = 0 → bdAt p node round = brdC p.has p.vb p.e.rounds p.dec ∧ Wel p.e.rounds ∧ p.e.rounds.length ≤ 4 ∧ p.dec.length = 3) := bdAt_zero
 have HF := pr_facts p.e node round mask
 rw [show p.e.has = p.has from rfl, show p.e.batch = p.batch.map TxnQ.e from rfl, show p.e.dec = p.dec from rfl] at HF
 generalize prC p.e node round mask = D at *
 generalize prI p.e node round mask = E at *
 generalize insF p.e = IF at *
 generalize bdAt p node round = BD at *
 generalize atC p.e node round = C at *
 generalize p.e.rounds = rs at *
 replace HF : Hid _ := HF
 obtain ⟨has, vb, batch, vr, rounds, vd, dec⟩ := p
 obtain ⟨ba, bk, rfl⟩ : ∃ a c, vb = .slice a batch.length c := h.1.shape
 obtain ⟨va, vk, rfl⟩ : ∃ a c, vr = .slice a rounds.length c := h.2.1.shape
 obtain ⟨da, dk, rfl⟩ : ∃ a c, vd = .slice a dec.length c := h.2.2.shape
 dsimp only at hbo hrb HBD HF hin hTx
 have hB : Below w.heap.size w ((w.alloc (.cells #[.bool has, .slice ba batch.length bk, .slice va rounds.length vk, .slice da dec.length dk] 28)).alloc (.cells #[.int .i64 0, .int .i64 0, .bool false, .bool false, .int .i64 0, .bool false, .slice none 0 0, .slice none 0 0, .slice none 0 0] 34)) := by go_grown
 have Rb := Blk.new (w.alloc (.cells #[.bool has, .slice ba batch.length bk, .slice va rounds.length vk, .slice da dec.length dk] 28)) 34 #[.int .i64 0, .int .i64 0, .bool false, .bool false, .int .i64 0, .bool false, .slice none 0 0, .slice none 0 0, .slice none 0 0]
 simp only [World.size_alloc] at Rb
 have hszB : (Tryz.prog.info? 96).map (·.size) = some BD.toArray.size := by rw [List.size_toArray, hl30]; exact sz_board
 have hold : (#[.int .i64 0, .int .i64 0, .int .i64 0, .int .i64 0, .int .i64 0, .int .i64 0, .int .i64 0, .int .i64 0, .int .i64 0, .int .i64 0, .int .i64 0, .int .i64 0, .int .i64 0, .int .i64 0, .int .i64 0, .int .i64 0, .int .i64 0, .int .i64 0, .int .i64 0, .int .i64 0, .int .i64 0, .int .i64 0, .int .i64 0, .int .i64 0, .int .i64 0, .bool false, .slice none 0 0, .int .i64 0, .int .i64 0, .int .i64 0] : Array Value).size = BD.toArray.size := (show 30 = BD.length from hl30.symm)
 go_enter Tryz.func16, Tryz.ntmps16
 go_wp2_with fail
 generalize ((w.alloc (.cells #[.bool has, .slice ba batch.length bk, .slice va rounds.length vk, .slice da dec.length dk] 28)).alloc (.cells #[.int .i64 0, .int .i64 0, .bool false, .bool false, .int .i64 0, .bool false, .slice none 0 0, .slice none 0 0, .slice none 0 0] 34)) = W at *
 refine (hbo W (hG.below hB) (hrb W hB)).mono ?_
 rintro e w1 ⟨rfl, hb1⟩
 replace hB := hB.trans (hb1.mono hB.size)
 replace Rb := Rb.below hb1
 have Bz := Blk.new w1 96 #[.int .i64 0, .int .i64 0, .int .i64 0, .int .i64 0, .int .i64 0, .int .i64 0, .int .i64 0, .int .i64 0, .int .i64 0, .int .i64 0, .int .i64 0, .int .i64 0, .int .i64 0, .int .i64 0, .int .i64 0, .int .i64 0, .int .i64 0, .int .i64 0, .int .i64 0, .int .i64 0, .int .i64 0, .int .i64 0, .int .i64 0, .int .i64 0, .int .i64 0, .bool false, .slice none 0 0, .int .i64 0, .int .i64 0, .int .i64 0]
 have hB2 := below_row (hB.alloc hB.size (.cells #[.int .i64 0, .int .i64 0, .int .i64 0, .int .i64 0, .int .i64 0, .int .i64 0, .int .i64 0, .int .i64 0, .int .i64 0, .int .i64 0, .int .i64 0, .int .i64 0, .int .i64 0, .int .i64 0, .int .i64 0, .int .i64 0, .int .i64 0, .int .i64 0, .int .i64 0, .int .i64 0, .int .i64 0, .int .i64 0, .int .i64 0, .int .i64 0, .int .i64 0, .bool false, .slice none 0 0, .int .i64 0, .int .i64 0, .int .i64 0] 96)) (g := w1.heap.size) hB.size BD.toArray
 have Rb2 : Blk ((w1.alloc (.cells #[.int .i64 0, .int .i64 0, .int .i64 0, .int .i64 0, .int .i64 0, .int .i64 0, .int .i64 0, .int .i64 0, .int .i64 0, .int .i64 0, .int .i64 0, .int .i64 0, .int .i64 0, .int .i64 0, .int .i64 0, .int .i64 0, .int .i64 0, .int .i64 0, .int .i64 0, .int .i64 0, .int .i64 0, .int .i64 0, .int .i64 0, .int .i64 0, .int .i64 0, .bool false, .slice none 0 0, .int .i64 0, .int .i64 0, .int .i64 0] 96)).setRow w1.heap.size BD.toArray) (w.heap.size + 1) 34 #[.int .i64 0, .int .i64 0, .bool false, .bool false, .int .i64 0, .bool false, .slice none 0 0, .slice none 0 0, .slice none 0 0] := (setRow_other _ _ _ _ (by have := Rb.lt; omega)).trans (Rb.below ((Below.refl _ _).alloc (Nat.le_refl _) _))
 have B2 := Bz.row BD.toArray
 have hlt2 : w.heap.size + 1 < w1.heap.size := Rb.lt
 clear hbo hrb hb1 Rb
 by_cases h0 : C = 0
 case neg =>
  have E1 : Hid (D = C ∧ E = ine0) := HF.out.1 h0
  have h0' : (C != 0) = true := by simpa using h0
  clear HF HBD h0 B2 hin
  have Rr := Rb2.row #[.int .i64 C, .int .i64 0, .bool false, .bool false, .int .i64 0, .bool false, .slice none 0 0, .slice none 0 0, .slice none 0 0]
  have hBr := below_row hB2 (g := w.heap.size + 1) (by omega) #[.int .i64 C, .int .i64 0, .bool false, .bool false, .int .i64 0, .bool false, .slice none 0 0, .slice none 0 0, .slice none 0 0]
  have hsr : (Tryz.prog.info? 34).map (·.size) = some (#[.int .i64 C, .int .i64 0, .bool false, .bool false, .int .i64 0, .bool false, .slice none 0 0, .slice none 0 0, .slice none 0 0] : Array Value).size := sz_res
  go_wp2_with (first | (refine st_row (by kernel_rfl) 96 _ _ rfl _ BD.toArray rfl rfl 96 _ Bz hszB hold hone ?_) | (refine st_row (by kernel_rfl) 34 _ _ rfl _ #[.int .i64 C, .int .i64 0, .bool false, .bool false, .int .i64 0, .bool false, .slice none 0 0, .slice none 0 0, .slice none 0 0] rfl rfl 34 _ Rb2 hsr rfl (by simp [Value.oneCell']) ?_))
  have q0 := Rr.cell 0 _ rfl
  have q1 := Rr.cell 1 _ rfl
  have q2 := Rr.cell 2 _ rfl
  have q3 := Rr.cell 3 _ rfl
  have q4 := Rr.cell 4 _ rfl
  have q5 := Rr.cell 5 _ rfl
  have q6 := Rr.cell 6 _ rfl
  have q7 := Rr.cell 7 _ rfl
  have q8 := Rr.cell 8 _ rfl
  exact bodyPost_ret (v := .agg #[.int .i64 C, .int .i64 0, .bool false, .bool false, .int .i64 0, .bool false, .slice none 0 0, .slice none 0 0, .slice none 0 0]) (by simp [results, Tryz.results16, go_sem, q0, q1, q2, q3, q4, q5, q6, q7, q8]) rfl ⟨inst0, by rw [E1.out.1]; rfl, E1.out.2.symm, inst0_own _, inst0_nd, fun k hk => by rw [inst0_ft] at hk; simp at hk, hBr⟩

 case pos =>
  obtain ⟨hBD, hwel, h4, hd3⟩ := HBD.out h0
  obtain ⟨hi0, n, r, rfl, rfl, hn, hr, f6, f8, fP, f0⟩ := HF.out.2 h0
  have H0 : Hid (IF = 0) := hi0
  have HB9 : Hid (BD = brdC has (.slice ba batch.length bk) rs dec) := hBD
  have HD3 : Hid (dec.length = 3) := hd3
  have F6 : Hid _ := f6
  have F8 : Hid _ := f8
  have FP : Hid _ := fP
  have F0 : Hid _ := f0
  subst h0
  clear HBD hBD hd3 hi0 f6 f8 fP f0 HF
  have hsR : (Tryz.prog.info? 94).map (·.size) = some (rndC rs).length := by rw [rndC_length hwel h4]; exact sz_rounds
  have RGR := rng B2 (rndC rs) (o := 0) (fun j v hv => by
   have hj := (List.getElem?_eq_some_iff.1 hv).1
   rw [rndC_length hwel h4] at hj
   rw [Nat.zero_add, List.getElem?_toArray, HB9.out, brd_rnd hwel h4 j hj]
   exact hv)
  go_wp2_with (first | (refine st_row (by kernel_rfl) 96 _ _ rfl _ BD.toArray rfl rfl 96 _ Bz hszB hold hone ?_) | (refine ld_g (by kernel_rfl) 94 _ rfl _ _ rfl (rndC rs) _ RGR Tryz.underlying94 rfl hsR ?_))
  generalize ((w1.alloc (.cells #[.int .i64 0, .int .i64 0, .int .i64 0, .int .i64 0, .int .i64 0, .int .i64 0, .int .i64 0, .int .i64 0, .int .i64 0, .int .i64 0, .int .i64 0, .int .i64 0, .int .i64 0, .int .i64 0, .int .i64 0, .int .i64 0, .int .i64 0, .int .i64 0, .int .i64 0, .int .i64 0, .int .i64 0, .int .i64 0, .int .i64 0, .int .i64 0, .int .i64 0, .bool false, .slice none 0 0, .int .i64 0, .int .i64 0, .int .i64 0] 96)).setRow w1.heap.size BD.toArray) = X at *
  refine (hasProp_any rs r n X hwel h4 hr hn).mono ?_
  rintro e w2 ⟨rfl, hb2⟩
  replace Rb2 := Rb2.below hb2
  replace B2 := B2.below hb2
  replace hB2 := hB2.trans (hb2.mono hB2.size)
  clear hb2 Bz RGR
  by_cases hp3 : proA rs r n = 3
  case neg =>
   have E1 : Hid (D = 6 ∧ E = ine0) := F6.out hp3
   have hq : (proA rs r n != 3) = true := by simpa using hp3
   clear F6 F8 FP F0 hp3 hin B2 HB9 hsR
   have Rr := Rb2.row #[.int .i64 6, .int .i64 0, .bool false, .bool false, .int .i64 0, .bool false, .slice none 0 0, .slice none 0 0, .slice none 0 0]
   have hBr := below_row hB2 (g := w.heap.size + 1) (by omega) #[.int .i64 6, .int .i64 0, .bool false, .bool false, .int .i64 0, .bool false, .slice none 0 0, .slice none 0 0, .slice none 0 0]
   have hsr : (Tryz.prog.info? 34).map (·.size) = some (#[.int .i64 6, .int .i64 0, .bool false, .bool false, .int .i64 0, .bool false, .slice none 0 0, .slice none 0 0, .slice none 0 0] : Array Value).size := sz_res
   go_wp2_with (first | (refine st_row (by kernel_rfl) 34 _ _ rfl _ #[.int .i64 6, .int .i64 0, .bool false, .bool false, .int .i64 0, .bool false, .slice none 0 0, .slice none 0 0, .slice none 0 0] rfl rfl 34 _ Rb2 hsr rfl (by simp [Value.oneCell']) ?_))
   have q0 := Rr.cell 0 _ rfl
   have q1 := Rr.cell 1 _ rfl
   have q2 := Rr.cell 2 _ rfl
   have q3 := Rr.cell 3 _ rfl
   have q4 := Rr.cell 4 _ rfl
   have q5 := Rr.cell 5 _ rfl
   have q6 := Rr.cell 6 _ rfl
   have q7 := Rr.cell 7 _ rfl
   have q8 := Rr.cell 8 _ rfl
   exact bodyPost_ret (v := .agg #[.int .i64 6, .int .i64 0, .bool false, .bool false, .int .i64 0, .bool false, .slice none 0 0, .slice none 0 0, .slice none 0 0]) (by simp [results, Tryz.results16, go_sem, q0, q1, q2, q3, q4, q5, q6, q7, q8]) rfl ⟨inst0, by rw [E1.out.1]; rfl, E1.out.2.symm, inst0_own _, inst0_nd, fun k hk => by rw [inst0_ft] at hk; simp at hk, hBr⟩

  case pos =>
   have hq : (proA rs r n != 3) = false := by rw [hp3]; rfl
   have RGR := rng B2 (rndC rs) (o := 0) (fun j v hv => by
    have hj := (List.getElem?_eq_some_iff.1 hv).1
    rw [rndC_length hwel h4] at hj
    rw [Nat.zero_add, List.getElem?_toArray, HB9.out, brd_rnd hwel h4 j hj]
    exact hv)
   have hhr : ∀ b, (repA rs r n != 3) = b → ∀ w, Calls Tryz.prog 68 #[.agg (rndC rs).toArray, .int .i64 (r : Int), .int .i64 (n : Int)] w fun e w' => e = .returned (.bool b) ∧ Below w.heap.size w w' := fun b hb w => by
    have := hasReport_any rs r n w hwel h4 hn
    rw [hb, decide_eq_true hr, Bool.true_and] at this
    exact this
   have HP3 : Hid (proA rs r n = 3) := hp3
   clear hp3
   go_wp2_with (first | (refine ld_g (by kernel_rfl) 94 _ rfl _ _ rfl (rndC rs) _ RGR Tryz.underlying94 rfl hsR ?_))
   clear hq RGR
   by_cases hp4 : repA rs r n = 3
   case pos =>
    have E1 : Hid (D = 8 ∧ E = ine0) := F8.out HP3.out hp4
    refine (hhr false (by rw [hp4]; rfl) w2).mono ?_
    rintro e w3 ⟨rfl, hb3⟩
    replace Rb2 := Rb2.below hb3
    replace hB2 := hB2.trans (hb3.mono hB2.size)
    clear F6 F8 FP F0 hp4 hin B2 HB9 hsR hhr hb3
    have Rr := Rb2.row #[.int .i64 8, .int .i64 0, .bool false, .bool false, .int .i64 0, .bool false, .slice none 0 0, .slice none 0 0, .slice none 0 0]
    have hBr := below_row hB2 (g := w.heap.size + 1) (by omega) #[.int .i64 8, .int .i64 0, .bool false, .bool false, .int .i64 0, .bool false, .slice none 0 0, .slice none 0 0, .slice none 0 0]
    have hsr : (Tryz.prog.info? 34).map (·.size) = some (#[.int .i64 8, .int .i64 0, .bool false, .bool false, .int .i64 0, .bool false, .slice none 0 0, .slice none 0 0, .slice none 0 0] : Array Value).size := sz_res
    go_wp2_with (first | (refine st_row (by kernel_rfl) 34 _ _ rfl _ #[.int .i64 8, .int .i64 0, .bool false, .bool false, .int .i64 0, .bool false, .slice none 0 0, .slice none 0 0, .slice none 0 0] rfl rfl 34 _ Rb2 hsr rfl (by simp [Value.oneCell']) ?_))
    have q0 := Rr.cell 0 _ rfl
    have q1 := Rr.cell 1 _ rfl
    have q2 := Rr.cell 2 _ rfl
    have q3 := Rr.cell 3 _ rfl
    have q4 := Rr.cell 4 _ rfl
    have q5 := Rr.cell 5 _ rfl
    have q6 := Rr.cell 6 _ rfl
    have q7 := Rr.cell 7 _ rfl
    have q8 := Rr.cell 8 _ rfl
    exact bodyPost_ret (v := .agg #[.int .i64 8, .int .i64 0, .bool false, .bool false, .int .i64 0, .bool false, .slice none 0 0, .slice none 0 0, .slice none 0 0]) (by simp [results, Tryz.results16, go_sem, q0, q1, q2, q3, q4, q5, q6, q7, q8]) rfl ⟨inst0, by rw [E1.out.1]; rfl, E1.out.2.symm, inst0_own _, inst0_nd, fun k hk => by rw [inst0_ft] at hk; simp at hk, hBr⟩

   case neg =>
    have F1 : Hid ((pfC (rs.getD r rnd0).rep mask ≠ 0 → D = pfC (rs.getD r rnd0).rep mask ∧ E = ine0) ∧ (pfC (rs.getD r rnd0).rep mask = 0 → D = 0 ∧ E = ⟨has, batch.map TxnQ.e, rstP rs r n (pfV (rs.getD r rnd0).rep mask), dec⟩)) := ⟨FP.out HP3.out hp4, F0.out HP3.out hp4⟩
    refine (hhr true (by simpa using hp4) w2).mono ?_
    rintro e w3 ⟨rfl, hb3⟩
    replace Rb2 := Rb2.below hb3
    replace B2 := B2.below hb3
    replace hB2 := hB2.trans (hb3.mono hB2.size)
    clear F6 F8 FP F0 hp4 hhr hb3 HP3 hsR
    obtain ⟨hl1, hl2⟩ := wel_at hwel r hr
    have RGV := rng B2 ((rs.getD r rnd0).rep.map iv) (o := 1 + r * 6) (fun j v hv => by
     obtain ⟨hj, rfl⟩ := row_get hl1 hv
     rw [List.getElem?_toArray, HB9.out, brd_rnd hwel h4 _ (by omega), rnd_rep hwel r hr j hj]
     rfl)
    have hsV : (Tryz.prog.info? 89).map (·.size) = some ((rs.getD r rnd0).rep.map iv).length := by rw [List.length_map, hl1]; exact sz_row
    have hr4 : (r : Int) < 4 := by omega
    have hn3 : (n : Int) < 3 := by omega
    have hli := fun w => list_any (rs.getD r rnd0).rep w hl1
    have hpf := fun a c w hG (hR : Row .i64 w a (rs.getD r rnd0).rep) => implProp_any a c (rs.getD r rnd0).rep mask w hG hR (by omega)
    rw [hl1] at hpf
    generalize hrep : (rs.getD r rnd0).rep = rep at *
    have HREP : Hid ((rs.getD r rnd0).rep = rep) := hrep
    clear hrep hl2
    generalize pfC rep mask = PC at *
    generalize pfV rep mask = PV at *
    go_wp2_with (first | (refine ld_g (by kernel_rfl) 89 _ rfl _ _ rfl (rep.map iv) _ RGV Tryz.underlying89 rfl hsV ?_))
    clear RGV hsV
    refine (hli w3).mono ?_
    rintro e w4 ⟨a4, c4, rfl, O4, G4, RW, hb4⟩
    replace Rb2 := Rb2.below hb4
    replace B2 := B2.below hb4
    replace hB2 := hB2.trans (hb4.mono hB2.size)
    clear O4 G4 hb4 hli
    go_wp2_with fail
    refine (hpf a4 c4 w4 (hG.below hB2) RW).mono ?_
    rintro e w5 ⟨rfl, hb5⟩
    have hbA : Below w5.heap.size w5 (w5.alloc (.cells #[.int .i64 PC, .int .i64 PV] 56)) := by go_grown
    have BI := Blk.new w5 56 #[.int .i64 PC, .int .i64 PV]
    have h15 : w1.heap.size < w5.heap.size := by have := (B2.below hb5).lt; exact this
    replace Rb2 := (Rb2.below hb5).below hbA
    replace B2 := (B2.below hb5).below hbA
    replace hB2 := hB2.trans (hb5.mono hB2.size)
    replace hB2 := hB2.trans (hbA.mono hB2.size)
    clear hb5 hpf RW hbA
    by_cases hpc : PC = 0
    case neg =>
     have E1 : Hid (D = PC ∧ E = ine0) := F1.out.1 hpc
     have h0' : (PC != 0) = true := by simpa using hpc
     clear F1 hpc hin B2 HB9
     have Rr := Rb2.row #[.int .i64 PC, .int .i64 0, .bool false, .bool false, .int .i64 0, .bool false, .slice none 0 0, .slice none 0 0, .slice none 0 0]
     have hBr := below_row hB2 (g := w.heap.size + 1) (by omega) #[.int .i64 PC, .int .i64 0, .bool false, .bool false, .int .i64 0, .bool false, .slice none 0 0, .slice none 0 0, .slice none 0 0]
     have hsr : (Tryz.prog.info? 34).map (·.size) = some (#[.int .i64 PC, .int .i64 0, .bool false, .bool false, .int .i64 0, .bool false, .slice none 0 0, .slice none 0 0, .slice none 0 0] : Array Value).size := sz_res
     go_wp2_with (first | (refine st_row (by kernel_rfl) 34 _ _ rfl _ #[.int .i64 PC, .int .i64 0, .bool false, .bool false, .int .i64 0, .bool false, .slice none 0 0, .slice none 0 0, .slice none 0 0] rfl rfl 34 _ Rb2 hsr rfl (by simp [Value.oneCell']) ?_))
     have q0 := Rr.cell 0 _ rfl
     have q1 := Rr.cell 1 _ rfl
     have q2 := Rr.cell 2 _ rfl
     have q3 := Rr.cell 3 _ rfl
     have q4 := Rr.cell 4 _ rfl
     have q5 := Rr.cell 5 _ rfl
     have q6 := Rr.cell 6 _ rfl
     have q7 := Rr.cell 7 _ rfl
     have q8 := Rr.cell 8 _ rfl
     exact bodyPost_ret (v := .agg #[.int .i64 PC, .int .i64 0, .bool false, .bool false, .int .i64 0, .bool false, .slice none 0 0, .slice none 0 0, .slice none 0 0]) (by simp [results, Tryz.results16, go_sem, q0, q1, q2, q3, q4, q5, q6, q7, q8]) rfl ⟨inst0, by rw [E1.out.1]; rfl, E1.out.2.symm, inst0_own _, inst0_nd, fun k hk => by rw [inst0_ft] at hk; simp at hk, hBr⟩

    case pos =>
     have E1 : Hid (D = 0 ∧ E = ⟨has, batch.map TxnQ.e, rstP rs r n PV, dec⟩) := F1.out.2 hpc
     subst hpc
     clear F1
     have hwel5 := wel_rstP hwel r n hr PV
     have h45 : (rstP rs r n PV).length ≤ 4 := by rw [rstP_length]; exact h4
     have HD5 : Hid (dec.length = 3) := HD3
     go_wp2_with fail
     generalize (w5.alloc (.cells #[.int .i64 0, .int .i64 PV] 56)) = Y at *
     have hYd : Below Y.heap.size Y Y.drew := (Below.refl _ _).drew
     have hF5 : w5.heap.size ∉ [w1.heap.size] := by simp only [List.mem_singleton]; omega
     have k1 := lato_cell (F := [w1.heap.size]) (BI.cell 1 _ rfl) hF5
     have hnn : Nonempty (LatO [w1.heap.size] Y) := ⟨⟨Y, Out.refl _ _⟩⟩
     have hS0 : ∃ u : LatO [w1.heap.size] Y, Y.drew = u.val := ⟨⟨_, Out.of_below hYd⟩, rfl⟩
     refine text_begin (S := fun w' => ∃ u : LatO [w1.heap.size] Y, w' = u.val) (by kernel_rfl) ?_
     refine seg_range [(0, 9)] 1 (by kernel_rfl) (by kernel_rfl) (by kernel_rfl) (by kernel_rfl) (by kernel_rfl) hS0 ?_
     simp only [pickR, List.toList_toArray, List.flatMap_cons, List.flatMap_nil, List.drop_succ_cons, List.drop_zero, List.take_succ_cons, List.take_zero, List.cons_append, List.nil_append, List.append_nil]
     repeat go_big_quiet_step (fail)
     refine wpQuiet_nil ?_
     refine one_at 9 _ 0 (by kernel_rfl) rfl (by kernel_rfl) ?_
     replace B2 := B2.below hYd
     replace Rb2 := Rb2.below hYd
     replace hB2 := hB2.trans (hYd.mono hB2.size)
     clear k1 hYd hF5 BI hS0
     have hcc : Y.drew.cell? ⟨w1.heap.size, 1 + r * 6 + 3 + n, none⟩ = some (iv (proA rs r n)) := B2.cell _ _ (by rw [List.getElem?_toArray, HB9.out, brd_rnd hwel h4 _ (by omega)]; exact rnd_pro hwel r hr n hn)
     have hcf := B2.frozen (1 + r * 6 + 3 + n)
     have hUU : Out [w1.heap.size] Y (Y.drew.setCell ⟨w1.heap.size, 1 + r * 6 + 3 + n, none⟩ (iv PV)) := (Out.of_below ((Below.refl _ _).drew)).set (by simp)
     have B5 := B2.set (1 + r * 6 + 3 + n) (iv PV)
     rw [HB9.out, List.setIfInBounds_toArray, brd_setP hwel h4 r hr n hn] at B5
     have R3 := Rb2.other (b' := w1.heap.size) (by omega) (1 + r * 6 + 3 + n) (iv PV)
     have hBg : Below w.heap.size w (Y.drew.setCell ⟨w1.heap.size, 1 + r * 6 + 3 + n, none⟩ (iv PV)) := hB2.setCell (p := ⟨w1.heap.size, 1 + r * 6 + 3 + n, none⟩) (by show w.heap.size ≤ w1.heap.size; omega) _
     clear B2 Rb2 hB2 HB9
     change Blk (Y.setCell ⟨w1.heap.size, 1 + r * 6 + 3 + n, none⟩ (iv PV)).drew _ _ _ at B5
     change Blk (Y.setCell ⟨w1.heap.size, 1 + r * 6 + 3 + n, none⟩ (iv PV)).drew _ _ _ at R3
     change Below _ _ (Y.setCell ⟨w1.heap.size, 1 + r * 6 + 3 + n, none⟩ (iv PV)).drew at hBg
     change Out _ _ (Y.setCell ⟨w1.heap.size, 1 + r * 6 + 3 + n, none⟩ (iv PV)).drew at hUU
     go_wp2
     refine ThenGo.to ⟨⟨⟨_, hUU⟩, rfl⟩, ?_⟩
     refine text_end (by kernel_rfl) ?_
     clear hcc hcf hUU hnn
     generalize (Y.setCell ⟨w1.heap.size, 1 + r * 6 + 3 + n, none⟩ (iv PV)).drew = X5 at *
     have X4 := rng B5 (brdC has (.slice ba batch.length bk) (rstP rs r n PV) dec) (o := 0) (fun j v hv => by rw [Nat.zero_add, List.getElem?_toArray]; exact hv)
     have hs30 : (Tryz.prog.info? 96).map (·.size) = some (brdC has (.slice ba batch.length bk) (rstP rs r n PV) dec).length := by rw [brdC_length hwel5 h45 HD5.out]; exact sz_board
     clear B5
     go_wp2_with (first | (refine ld_g (by kernel_rfl) 96 _ rfl _ _ rfl (brdC has (.slice ba batch.length bk) (rstP rs r n PV) dec) _ X4 Tryz.underlying96 rfl hs30 ?_))
     clear X4 hs30
     refine (hin H0.out (rstP rs r n PV) dec X5 (hTx.below hBg) hwel5 h45 HD5.out).mono ?_
     rintro e w7 ⟨q, rfl, eq, oq, nq, gq, hb7⟩
     have R5 := R3.below hb7
     have hR5 := R3.lt
     have L5 : ∀ k ∈ instK.foot q, w.heap.size + 2 ≤ k := fun k hk => by have := gq k hk; omega
     replace hBg := hBg.trans (hb7.mono hBg.size)
     clear hin gq hb7 R3
     have hous : ∀ cs, instK.own (w7.setRow (w.heap.size + 1) cs) q := fun cs => instK.own_out oq (out_row w7 (w.heap.size + 1) cs) (fun k hk => by have := L5 k hk; simp only [List.mem_singleton]; omega)
     have HQ : Hid (q.e = E ∧ (instK.foot q).Nodup ∧ (∀ k ∈ instK.foot q, w.heap.size ≤ k) ∧ ∀ cs, instK.own (w7.setRow (w.heap.size + 1) cs) q) := ⟨by rw [eq, E1.out.2], nq, fun k hk => by have := L5 k hk; omega, hous⟩
     have HD0 : Hid (D = 0) := E1.out.1
     clear E1 eq nq hous L5
     obtain ⟨qh, qb, qbs, qr, qrs, qd, qds⟩ := q
     obtain ⟨s1, t1, rfl⟩ : ∃ a c, qb = .slice a qbs.length c := oq.1.shape
     obtain ⟨s2, t2, rfl⟩ : ∃ a c, qr = .slice a qrs.length c := oq.2.1.shape
     obtain ⟨s3, t3, rfl⟩ : ∃ a c, qd = .slice a qds.length c := oq.2.2.shape
     have Rr := R5.row #[.int .i64 0, .int .i64 0, .bool false, .bool false, .int .i64 0, .bool qh, .slice s1 qbs.length t1, .slice s2 qrs.length t2, .slice s3 qds.length t3]
     have hBr := below_row hBg (g := w.heap.size + 1) (by omega) #[.int .i64 0, .int .i64 0, .bool false, .bool false, .int .i64 0, .bool qh, .slice s1 qbs.length t1, .slice s2 qrs.length t2, .slice s3 qds.length t3]
     have hsr : (Tryz.prog.info? 34).map (·.size) = some (#[.int .i64 0, .int .i64 0, .bool false, .bool false, .int .i64 0, .bool qh, .slice s1 qbs.length t1, .slice s2 qrs.length t2, .slice s3 qds.length t3] : Array Value).size := sz_res
     clear oq
     go_wp2_with (first | (refine st_row (by kernel_rfl) 34 _ _ rfl _ #[.int .i64 0, .int .i64 0, .bool false, .bool false, .int .i64 0, .bool qh, .slice s1 qbs.length t1, .slice s2 qrs.length t2, .slice s3 qds.length t3] rfl rfl 34 _ R5 hsr rfl (by simp [Value.oneCell']) ?_))
     have q0 := Rr.cell 0 _ rfl
     have q1 := Rr.cell 1 _ rfl
     have q2 := Rr.cell 2 _ rfl
     have q3 := Rr.cell 3 _ rfl
     have q4 := Rr.cell 4 _ rfl
     have q5 := Rr.cell 5 _ rfl
     have q6 := Rr.cell 6 _ rfl
     have q7 := Rr.cell 7 _ rfl
     have q8 := Rr.cell 8 _ rfl
     exact bodyPost_ret (v := .agg #[.int .i64 0, .int .i64 0, .bool false, .bool false, .int .i64 0, .bool qh, .slice s1 qbs.length t1, .slice s2 qrs.length t2, .slice s3 qds.length t3]) (by simp [results, Tryz.results16, go_sem, q0, q1, q2, q3, q4, q5, q6, q7, q8]) rfl ⟨⟨qh, .slice s1 qbs.length t1, qbs, .slice s2 qrs.length t2, qrs, .slice s3 qds.length t3, qds⟩, by rw [HD0.out], HQ.out.1, HQ.out.2.2.2 _, HQ.out.2.1, HQ.out.2.2.1, hBr⟩

end Go.Proofs.YtmgkjcobdmdjmaaGreatDoor
namespace Go.Proofs.YtmgkjcobdmdjmaaGreatDoor
open Go.RowKit
open Go.BigFrame
set_option linter.unusedVariables false
set_option maxRecDepth 100000
set_option linter.unusedSimpArgs false
theorem cellB {w w' : World} {b o : Nat} {v : Value} (h : w.cell? ⟨b, o, none⟩ = some v) (hb : Below w.heap.size w w') : w'.cell? ⟨b, o, none⟩ = some v := by
 have hlt : b < w.heap.size := by
  rcases Nat.lt_or_ge b w.heap.size with h1 | h1
  ·exact h1
  ·exfalso
   have : w.heap[b]? = none := Array.getElem?_eq_none h1
   simp [World.cell?, this] at h
 rw [hb.cell (p := ⟨b, o, none⟩) hlt]
 exact h

theorem l6Node_any (node : Int) (w : World) :
  Calls Tryz.prog 145 #[.int .i64 node] w fun e w' => e = .returned (.bool (inB node 0 2)) ∧ w' = w := by
 go_enter Tryz.func145, Tryz.ntmps145
 go_wp2_with (go_at_call 103; refine (l1In_any _ _ _ _).mono ?_; rintro e w' ⟨rfl, rfl⟩)
 go_ret
 exact ⟨rfl, rfl⟩

set_option maxHeartbeats 1000000 in
theorem l6Asked_any (b o : Nat) (p : InstQ) (node round : Int) (w : World) (hP : InstP w b o p) (h4 : p.rounds.length ≤ 4) :
  Calls Tryz.prog 146 #[.pointer (some ⟨b, o, none⟩), .int .i64 node, .int .i64 round] w fun e w' => e = .returned (.bool (inB node 0 2 && inB round 0 ((p.rounds.length : Int) - 1))) ∧ Below w.heap.size w w' := by
 have hB : Below w.heap.size w w := Below.refl _ _
 obtain ⟨has, vb, batch, vr, rounds, vd, dec⟩ := p
 obtain ⟨va, vk, rfl⟩ : ∃ a c, vr = .slice a rounds.length c := hP.rounds.shape
 obtain ⟨c0, c1, c2, c3⟩ := hP.box
 dsimp only at c0 c1 c2 c3 h4
 cases hN : inB node 0 2 with
 | false =>
  go_enter Tryz.func146, Tryz.ntmps146
  go_wp2_with (first | (go_at_call 145; refine (l6Node_any _ _).mono ?_; rintro e w' ⟨rfl, rfl⟩) | (go_at_call 103; refine (l1In_any _ _ _ _).mono ?_; rintro e w' ⟨rfl, rfl⟩))
  go_ret
  exact ⟨by simp, hB⟩
 | true =>
  go_enter Tryz.func146, Tryz.ntmps146
  go_wp2_with (first | (go_at_call 145; refine (l6Node_any _ _).mono ?_; rintro e w' ⟨rfl, rfl⟩) | (go_at_call 103; refine (l1In_any _ _ _ _).mono ?_; rintro e w' ⟨rfl, rfl⟩))
  go_ret
  exact ⟨by simp, hB⟩

/-- The votes of a round, where they lie. -/
theorem inst_round {w : World} {b o : Nat} {p : InstQ} (hP : InstP w b o p) (r : Nat) (hr : r < p.rounds.length) (hF : rndsF p.e.rounds = 0) :
  ∃ rb ro vk xb xo xc yb yo yc, p.vr = .slice (some ⟨rb, ro, none⟩) p.rounds.length vk ∧ w.cell? ⟨rb, ro + r * 2, none⟩ = some (.slice (some ⟨xb, xo, none⟩) 3 xc) ∧ w.cell? ⟨rb, ro + r * 2 + 1, none⟩ = some (.slice (some ⟨yb, yo, none⟩) 3 yc) ∧
   (∀ n, n < 3 → w.cell? ⟨xb, xo + n, none⟩ = some (.int .i64 (repA p.e.rounds r n))) ∧ (∀ n, n < 3 → w.cell? ⟨yb, yo + n, none⟩ = some (.int .i64 (proA p.e.rounds r n))) ∧
   Row .i64 w (some ⟨xb, xo, none⟩) (p.e.rounds.getD r rnd0).rep ∧ Row .i64 w (some ⟨yb, yo, none⟩) (p.e.rounds.getD r rnd0).pro := by
 obtain ⟨va, vk, hv⟩ := hP.rounds.shape
 have hR := hP.rounds
 rw [hv] at hR
 obtain ⟨rb, ro, hra, hbs, hc, hrd⟩ := hR.cell (by decide) r hr
 have hc' : ∀ j x, (roundK.cells p.rounds[r])[j]? = some x → w.cell? ⟨rb, ro + r * 2 + j, none⟩ = some x := hc
 have r0 := hc' 0 (p.rounds[r].vr) rfl
 have r1 := hc' 1 (p.rounds[r].vp) rfl
 rw [Nat.add_zero] at r0
 have hat : p.e.rounds.getD r rnd0 = RoundQ.e p.rounds[r] := rnd_at p.rounds r hr
 obtain ⟨hv1, hv2⟩ := rndsF_at hF r (by show r < (p.rounds.map RoundQ.e).length; rw [List.length_map]; exact hr)
 have e1 : (p.e.rounds.getD r rnd0).rep = p.rounds[r].rep := by rw [hat]; rfl
 have e2 : (p.e.rounds.getD r rnd0).pro = p.rounds[r].pro := by rw [hat]; rfl
 rw [e1] at hv1
 rw [e2] at hv2
 obtain ⟨hA1, hA2⟩ : intK.At w p.rounds[r].vr p.rounds[r].rep ∧ intK.At w p.rounds[r].vp p.rounds[r].pro := hrd
 obtain ⟨xa, xc, xb, xo, hx, rfl, _, xRow⟩ := vf_row hA1 hv1 0 (by omega)
 obtain ⟨ya, yc, yb, yo, hy, rfl, _, yRow⟩ := vf_row hA2 hv2 0 (by omega)
 rw [hx] at r0
 rw [hy] at r1
 have cell : ∀ (b o : Nat) (zs : List Int), zs.length = 3 → Row .i64 w (some ⟨b, o, none⟩) zs → ∀ n, n < 3 → w.cell? ⟨b, o + n, none⟩ = some (.int .i64 (zs.getD n 0)) := fun b o zs hl hR n hn => by
  obtain ⟨b', o', he, _, hcell⟩ := hR n (by omega)
  simp only [Option.some.injEq, Addr.mk.injEq, and_true] at he
  obtain ⟨rfl, rfl⟩ := he
  exact hcell
 refine ⟨rb, ro, vk, xb, xo, xc, yb, yo, yc, by rw [hv, hra], r0, r1, fun n hn => ?_, fun n hn => ?_, by rw [e1]; exact xRow, by rw [e2]; exact yRow⟩
 ·have : repA p.e.rounds r n = p.rounds[r].rep.getD n 0 := by unfold repA; rw [e1]
  rw [this]
  exact cell _ _ _ (vf_len hv1) xRow n hn
 ·have : proA p.e.rounds r n = p.rounds[r].pro.getD n 0 := by unfold proA; rw [e2]
  rw [this]
  exact cell _ _ _ (vf_len hv2) yRow n hn

theorem copy_len {p q : InstQ} (h : q.e = p.e) (hw : Wel p.e.rounds) (r : Nat) (hr : r < p.e.rounds.length) : ∃ hq : r < q.rounds.length, q.rounds[r].rep.length = 3 ∧ q.rounds[r].pro.length = 3 := by
 have e : q.rounds.map RoundQ.e = p.e.rounds := by rw [← h]; rfl
 have hq : r < q.rounds.length := by rw [← e, List.length_map] at hr; exact hr
 have := wel_at hw r hr
 rw [← e, rnd_at _ _ hq] at this
 exact ⟨hq, this⟩

set_option maxHeartbeats 4000000 in
theorem l6Propose_any (b o : Nat) (p : InstQ) (node round mask : Int) (w : World) (hP : InstP w b o p) (hbw : b < w.heap.size) (hl : p.n ≤ 1048576) (h0 : insF p.e = 0) :
  Calls Tryz.prog 85 #[.pointer (some ⟨b, o, none⟩), .int .i64 node, .int .i64 round, .int .i64 mask] w fun e w' => ∃ q : InstQ, e = .returned (.agg (resC (prC p.e node round mask) 0 false false 0 q)) ∧ q.e = prI p.e node round mask ∧ instK.own w' q ∧ (instK.foot q).Nodup ∧ (∀ k ∈ instK.foot q, w.heap.size ≤ k) ∧ Below w.heap.size w w' := by
 obtain ⟨hne, hro, hd0⟩ := ins_low h0
 obtain ⟨hwel, ⟨_, h4⟩, hd3, hF, _⟩ := ins_ok h0
 have hco := fun w h => l6Copy_any p w h hl hne hro hd0
 have h4' : p.rounds.length ≤ 4 := by have : p.e.rounds.length = p.rounds.length := List.length_map _; omega
 have hAs := fun w' hP => l6Asked_any b o p node round w' hP h4'
 have hIR := fun (r : Nat) (hr : r < p.e.rounds.length) => inst_round hP r (by have : p.e.rounds.length = p.rounds.length := List.length_map _; omega) hF
 have hLE := fun (q : InstQ) (hq : q.e = p.e) (r : Nat) (hr : r < p.e.rounds.length) => copy_len hq hwel r hr
 have HF := pr_facts p.e node round mask
 have HA : Hid (atC p.e node round = if inB node 0 2 && inB round 0 ((p.rounds.length : Int) - 1) then 0 else 3) := by
  have : p.e.rounds.length = p.rounds.length := List.length_map _
  unfold atC
  rw [if_pos h0, this]
  exact (rfl : _ = _)
 have hrl : p.e.rounds.length = p.rounds.length := List.length_map _
 have HPE : Hid (∀ (q : InstQ), q.e = p.e → ∀ r n v hq, (q.setP r n v hq).e = ⟨p.e.has, p.e.batch, rstP p.e.rounds r n v, p.e.dec⟩) := fun q hq r n v hh => by rw [setP_e, hq]
 generalize hAA : (inB node 0 2 && inB round 0 ((p.rounds.length : Int) - 1)) = AA at *
 clear hAA hne hro hd0 hF h0
 generalize prC p.e node round mask = D at *
 generalize prI p.e node round mask = E at *
 generalize atC p.e node round = C at *
 replace HF : Hid _ := HF
 have hrd := hP.rd
 have hrb := fun (w' : World) hb => instK.rd_below (w' := w') hrd hb
 have HRL : Hid (p.e.rounds.length = p.rounds.length) := hrl
 clear hrl
 generalize hpe : p.e = pe at *
 clear hpe
 obtain ⟨has, vb, batch, vr, rounds, vd, dec⟩ := p
 obtain ⟨ba, bk, rfl⟩ : ∃ a c, vb = .slice a batch.length c := hrd.1.shape
 obtain ⟨va, vk, rfl⟩ : ∃ a c, vr = .slice a rounds.length c := hrd.2.1.shape
 obtain ⟨da, dk, rfl⟩ : ∃ a c, vd = .slice a dec.length c := hrd.2.2.shape
 dsimp only at hco hrb h4' hAs hIR HRL HA
 have hB : Below w.heap.size w (w.alloc (.cells #[.int .i64 0, .int .i64 0, .bool false, .bool false, .int .i64 0, .bool false, .slice none 0 0, .slice none 0 0, .slice none 0 0] 34)) := by go_grown
 have Rb := Blk.new w 34 #[.int .i64 0, .int .i64 0, .bool false, .bool false, .int .i64 0, .bool false, .slice none 0 0, .slice none 0 0, .slice none 0 0]
 go_enter Tryz.func85, Tryz.ntmps85
 go_wp2_with fail
 generalize w.alloc (.cells #[.int .i64 0, .int .i64 0, .bool false, .bool false, .int .i64 0, .bool false, .slice none 0 0, .slice none 0 0, .slice none 0 0] 34) = W at *
 refine (hAs W (hP.below hB)).mono ?_
 rintro e w1 ⟨rfl, hb1⟩
 replace Rb := Rb.below hb1
 replace hB := hB.trans (hb1.mono hB.size)
 clear hb1 hAs
 cases AA with
 | false =>
  have hC : C = 3 := HA.out
  have E1 : Hid (D = 3 ∧ E = ine0) := by
   obtain ⟨h1, h2⟩ := HF.out.1 (by rw [hC]; decide)
   exact ⟨h1.trans hC, h2⟩
  clear HF hIR hLE hco hC HA
  go_wp2_with fail
  refine (l6Bad_any 3 _).mono ?_
  rintro e w8 ⟨rfl, hb8⟩
  replace hB := hB.trans (hb8.mono hB.size)
  replace Rb := Rb.below hb8
  clear hb8
  have Rr := Rb.row #[.int .i64 3, .int .i64 0, .bool false, .bool false, .int .i64 0, .bool false, .slice none 0 0, .slice none 0 0, .slice none 0 0]
  have hBr := below_row hB (g := w.heap.size) (by omega) #[.int .i64 3, .int .i64 0, .bool false, .bool false, .int .i64 0, .bool false, .slice none 0 0, .slice none 0 0, .slice none 0 0]
  have hsr : (Tryz.prog.info? 34).map (·.size) = some (#[.int .i64 3, .int .i64 0, .bool false, .bool false, .int .i64 0, .bool false, .slice none 0 0, .slice none 0 0, .slice none 0 0] : Array Value).size := sz_res
  go_wp2_with (first | (refine st_row (by kernel_rfl) 34 _ _ rfl _ #[.int .i64 3, .int .i64 0, .bool false, .bool false, .int .i64 0, .bool false, .slice none 0 0, .slice none 0 0, .slice none 0 0] rfl rfl 34 _ Rb hsr rfl (by simp [Value.oneCell']) ?_))
  have q0 := Rr.cell 0 _ rfl
  have q1 := Rr.cell 1 _ rfl
  have q2 := Rr.cell 2 _ rfl
  have q3 := Rr.cell 3 _ rfl
  have q4 := Rr.cell 4 _ rfl
  have q5 := Rr.cell 5 _ rfl
  have q6 := Rr.cell 6 _ rfl
  have q7 := Rr.cell 7 _ rfl
  have q8 := Rr.cell 8 _ rfl
  exact bodyPost_ret (v := .agg #[.int .i64 3, .int .i64 0, .bool false, .bool false, .int .i64 0, .bool false, .slice none 0 0, .slice none 0 0, .slice none 0 0]) (by simp [results, Tryz.results85, go_sem, q0, q1, q2, q3, q4, q5, q6, q7, q8]) rfl ⟨inst0, by rw [E1.out.1]; rfl, E1.out.2.symm, inst0_own _, inst0_nd, fun k hk => by rw [inst0_ft] at hk; simp at hk, hBr⟩

 | true =>
  have hC : C = 0 := HA.out
  obtain ⟨hi0, n, r, rfl, rfl, hn, hr, f6, f8, fP, f0⟩ := HF.out.2 hC
  have F6 : Hid _ := f6
  have F8 : Hid _ := f8
  have FP : Hid _ := fP
  have F0 : Hid _ := f0
  clear hi0 f6 f8 fP f0 HF hC HA
  obtain ⟨rb, ro, vk', xb, xo, xc, yb, yo, yc, hvr, k0, k1, kx, ky, Rx, Ry⟩ := hIR r hr
  simp only [Value.slice.injEq, true_and] at hvr
  obtain ⟨rfl, rfl⟩ := hvr
  replace kx := kx n hn
  replace ky := ky n hn
  replace k0 := cellB k0 hB
  replace k1 := cellB k1 hB
  replace kx := cellB kx hB
  replace ky := cellB ky hB
  have hPW := hP.below hB
  obtain ⟨c0, c1, c2, c3⟩ := hPW.box
  dsimp only at c0 c1 c2 c3
  have hr4 : (r : Int) < rounds.length := by have := HRL.out; omega
  have hn3 : (n : Int) < 3 := by omega
  have hl1 := (wel_at hwel r hr).1
  have hsp := fun a c w (hR : Row .i64 w a (pe.rounds.getD r rnd0).rep) => specProp_any a c (pe.rounds.getD r rnd0).rep mask w hR (by omega)
  rw [hl1] at hsp
  generalize pfC (pe.rounds.getD r rnd0).rep mask = PC at *
  generalize pfV (pe.rounds.getD r rnd0).rep mask = PV at *
  generalize hpr : proA pe.rounds r n = PP at *
  generalize hre : repA pe.rounds r n = RE at *
  clear hIR hpr hre hl1
  by_cases hp3 : PP = 3
  case neg =>
   have E1 : Hid (D = 6 ∧ E = ine0) := F6.out hp3
   have hq : (PP != 3) = true := by simpa using hp3
   clear F6 F8 FP F0 hp3 hLE hco hsp
   go_wp2_with fail
   refine (l6Bad_any 6 _).mono ?_
   rintro e w8 ⟨rfl, hb8⟩
   replace hB := hB.trans (hb8.mono hB.size)
   replace Rb := Rb.below hb8
   clear hb8
   have Rr := Rb.row #[.int .i64 6, .int .i64 0, .bool false, .bool false, .int .i64 0, .bool false, .slice none 0 0, .slice none 0 0, .slice none 0 0]
   have hBr := below_row hB (g := w.heap.size) (by omega) #[.int .i64 6, .int .i64 0, .bool false, .bool false, .int .i64 0, .bool false, .slice none 0 0, .slice none 0 0, .slice none 0 0]
   have hsr : (Tryz.prog.info? 34).map (·.size) = some (#[.int .i64 6, .int .i64 0, .bool false, .bool false, .int .i64 0, .bool false, .slice none 0 0, .slice none 0 0, .slice none 0 0] : Array Value).size := sz_res
   go_wp2_with (first | (refine st_row (by kernel_rfl) 34 _ _ rfl _ #[.int .i64 6, .int .i64 0, .bool false, .bool false, .int .i64 0, .bool false, .slice none 0 0, .slice none 0 0, .slice none 0 0] rfl rfl 34 _ Rb hsr rfl (by simp [Value.oneCell']) ?_))
   have q0 := Rr.cell 0 _ rfl
   have q1 := Rr.cell 1 _ rfl
   have q2 := Rr.cell 2 _ rfl
   have q3 := Rr.cell 3 _ rfl
   have q4 := Rr.cell 4 _ rfl
   have q5 := Rr.cell 5 _ rfl
   have q6 := Rr.cell 6 _ rfl
   have q7 := Rr.cell 7 _ rfl
   have q8 := Rr.cell 8 _ rfl
   exact bodyPost_ret (v := .agg #[.int .i64 6, .int .i64 0, .bool false, .bool false, .int .i64 0, .bool false, .slice none 0 0, .slice none 0 0, .slice none 0 0]) (by simp [results, Tryz.results85, go_sem, q0, q1, q2, q3, q4, q5, q6, q7, q8]) rfl ⟨inst0, by rw [E1.out.1]; rfl, E1.out.2.symm, inst0_own _, inst0_nd, fun k hk => by rw [inst0_ft] at hk; simp at hk, hBr⟩

  case pos =>
   have hq : (PP != 3) = false := by rw [hp3]; rfl
   by_cases hp4 : RE = 3
   case pos =>
    have E1 : Hid (D = 8 ∧ E = ine0) := F8.out hp3 hp4
    have hq4 : (RE == 3) = true := by rw [hp4]; rfl
    clear F6 F8 FP F0 hp3 hp4 hLE hco hsp
    go_wp2_with fail
    refine (l6Bad_any 8 _).mono ?_
    rintro e w8 ⟨rfl, hb8⟩
    replace hB := hB.trans (hb8.mono hB.size)
    replace Rb := Rb.below hb8
    clear hb8
    have Rr := Rb.row #[.int .i64 8, .int .i64 0, .bool false, .bool false, .int .i64 0, .bool false, .slice none 0 0, .slice none 0 0, .slice none 0 0]
    have hBr := below_row hB (g := w.heap.size) (by omega) #[.int .i64 8, .int .i64 0, .bool false, .bool false, .int .i64 0, .bool false, .slice none 0 0, .slice none 0 0, .slice none 0 0]
    have hsr : (Tryz.prog.info? 34).map (·.size) = some (#[.int .i64 8, .int .i64 0, .bool false, .bool false, .int .i64 0, .bool false, .slice none 0 0, .slice none 0 0, .slice none 0 0] : Array Value).size := sz_res
    go_wp2_with (first | (refine st_row (by kernel_rfl) 34 _ _ rfl _ #[.int .i64 8, .int .i64 0, .bool false, .bool false, .int .i64 0, .bool false, .slice none 0 0, .slice none 0 0, .slice none 0 0] rfl rfl 34 _ Rb hsr rfl (by simp [Value.oneCell']) ?_))
    have q0 := Rr.cell 0 _ rfl
    have q1 := Rr.cell 1 _ rfl
    have q2 := Rr.cell 2 _ rfl
    have q3 := Rr.cell 3 _ rfl
    have q4 := Rr.cell 4 _ rfl
    have q5 := Rr.cell 5 _ rfl
    have q6 := Rr.cell 6 _ rfl
    have q7 := Rr.cell 7 _ rfl
    have q8 := Rr.cell 8 _ rfl
    exact bodyPost_ret (v := .agg #[.int .i64 8, .int .i64 0, .bool false, .bool false, .int .i64 0, .bool false, .slice none 0 0, .slice none 0 0, .slice none 0 0]) (by simp [results, Tryz.results85, go_sem, q0, q1, q2, q3, q4, q5, q6, q7, q8]) rfl ⟨inst0, by rw [E1.out.1]; rfl, E1.out.2.symm, inst0_own _, inst0_nd, fun k hk => by rw [inst0_ft] at hk; simp at hk, hBr⟩

   case neg =>
    have F1 : Hid ((PC ≠ 0 → D = PC ∧ E = ine0) ∧ (PC = 0 → D = 0 ∧ E = ⟨pe.has, pe.batch, rstP pe.rounds r n PV, pe.dec⟩)) := ⟨FP.out hp3 hp4, F0.out hp3 hp4⟩
    have hq4 : (RE == 3) = false := by simpa using hp4
    clear F6 F8 FP F0 hp3 hp4
    go_wp2_with fail
    clear hq hq4 kx ky k0 k1 c0 c1 c2 c3
    refine (hsp _ _ w1 (Rx.below hB)).mono ?_
    rintro e w2 ⟨rfl, hb2⟩
    have hbA : Below w2.heap.size w2 (w2.alloc (.cells #[.int .i64 PC, .int .i64 PV] 56)) := by go_grown
    have BI := Blk.new w2 56 #[.int .i64 PC, .int .i64 PV]
    have h12 : w.heap.size < w2.heap.size := (Rb.below hb2).lt
    replace Rb := (Rb.below hb2).below hbA
    replace hB := hB.trans (hb2.mono hB.size)
    replace hB := hB.trans (hbA.mono hB.size)
    clear hb2 hsp hbA hPW
    by_cases hpc : PC = 0
    case neg =>
     have E1 : Hid (D = PC ∧ E = ine0) := F1.out.1 hpc
     have h0' : (PC != 0) = true := by simpa using hpc
     clear F1 hpc hLE hco
     go_wp2_with fail
     refine (l6Bad_any PC _).mono ?_
     rintro e w8 ⟨rfl, hb8⟩
     replace hB := hB.trans (hb8.mono hB.size)
     replace Rb := Rb.below hb8
     clear hb8
     have Rr := Rb.row #[.int .i64 PC, .int .i64 0, .bool false, .bool false, .int .i64 0, .bool false, .slice none 0 0, .slice none 0 0, .slice none 0 0]
     have hBr := below_row hB (g := w.heap.size) (by omega) #[.int .i64 PC, .int .i64 0, .bool false, .bool false, .int .i64 0, .bool false, .slice none 0 0, .slice none 0 0, .slice none 0 0]
     have hsr : (Tryz.prog.info? 34).map (·.size) = some (#[.int .i64 PC, .int .i64 0, .bool false, .bool false, .int .i64 0, .bool false, .slice none 0 0, .slice none 0 0, .slice none 0 0] : Array Value).size := sz_res
     go_wp2_with (first | (refine st_row (by kernel_rfl) 34 _ _ rfl _ #[.int .i64 PC, .int .i64 0, .bool false, .bool false, .int .i64 0, .bool false, .slice none 0 0, .slice none 0 0, .slice none 0 0] rfl rfl 34 _ Rb hsr rfl (by simp [Value.oneCell']) ?_))
     have q0 := Rr.cell 0 _ rfl
     have q1 := Rr.cell 1 _ rfl
     have q2 := Rr.cell 2 _ rfl
     have q3 := Rr.cell 3 _ rfl
     have q4 := Rr.cell 4 _ rfl
     have q5 := Rr.cell 5 _ rfl
     have q6 := Rr.cell 6 _ rfl
     have q7 := Rr.cell 7 _ rfl
     have q8 := Rr.cell 8 _ rfl
     exact bodyPost_ret (v := .agg #[.int .i64 PC, .int .i64 0, .bool false, .bool false, .int .i64 0, .bool false, .slice none 0 0, .slice none 0 0, .slice none 0 0]) (by simp [results, Tryz.results85, go_sem, q0, q1, q2, q3, q4, q5, q6, q7, q8]) rfl ⟨inst0, by rw [E1.out.1]; rfl, E1.out.2.symm, inst0_own _, inst0_nd, fun k hk => by rw [inst0_ft] at hk; simp at hk, hBr⟩

    case pos =>
     have E1 : Hid (D = 0 ∧ E = ⟨pe.has, pe.batch, rstP pe.rounds r n PV, pe.dec⟩) := F1.out.2 hpc
     subst hpc
     clear F1
     have hPW := hP.below hB
     obtain ⟨c0, c1, c2, c3⟩ := hPW.box
     dsimp only at c0 c1 c2 c3
     go_wp2_with fail
     clear c0 c1 c2 c3
     generalize (w2.alloc (.cells #[.int .i64 0, .int .i64 PV] 56)) = Y at *
     refine (hco Y (hrb Y hB)).mono ?_
     rintro e w3 ⟨q, rfl, eq, oq, nq, gq, hb3⟩
     have hY := BI.lt
     replace Rb := Rb.below hb3
     replace BI := BI.below hb3
     replace hB := hB.trans (hb3.mono hB.size)
     obtain ⟨hrq, _, hpq⟩ := hLE q eq r hr
     have HQE := HPE.out q eq r n PV hrq
     have M := instK.own_lt oq
     obtain ⟨qh, qb, qbs, qr, qrs, qd, qds⟩ := q
     obtain ⟨s1, t1, rfl⟩ : ∃ a c, qb = .slice a qbs.length c := oq.1.shape
     obtain ⟨s2, t2, rfl⟩ : ∃ a c, qr = .slice a qrs.length c := oq.2.1.shape
     obtain ⟨s3, t3, rfl⟩ : ∃ a c, qd = .slice a qds.length c := oq.2.2.shape
     obtain ⟨gr, rfl⟩ := oq.2.1.blkOf (by exact Nat.lt_of_le_of_lt (Nat.zero_le _) hrq)
     have hbA : Below w3.heap.size w3 (w3.alloc (.cells #[.bool qh, .slice s1 qbs.length t1, .slice (some ⟨gr, 0, none⟩) qrs.length t2, .slice s3 qds.length t3] 28)) := by go_grown
     have Gz := Blk.new w3 28 #[.bool qh, .slice s1 qbs.length t1, .slice (some ⟨gr, 0, none⟩) qrs.length t2, .slice s3 qds.length t3]
     replace Rb := Rb.below hbA
     replace BI := BI.below hbA
     replace hB := hB.trans (hbA.mono hB.size)
     replace oq := instK.own_out (F := []) oq (Out.of_below hbA) (fun _ _ => by simp)
     go_wp2_with fail
     generalize w3.alloc (.cells #[.bool qh, .slice s1 qbs.length t1, .slice (some ⟨gr, 0, none⟩) qrs.length t2, .slice s3 qds.length t3] 28) = Y3 at *
     replace hrq : r < qrs.length := hrq
     have hrq3 : (r : Int) < qrs.length := by omega
     obtain ⟨g5, cap5, hv5, hg5, kc, kf, own5, foot5⟩ := own_setP oq nq r n hrq (by show n < (qrs[r]).pro.length; have : (qrs[r]).pro.length = 3 := hpq; omega) PV
     have hpl : (qrs[r]).pro.length = 3 := hpq
     rw [show (InstQ.rounds (⟨qh, .slice s1 qbs.length t1, qbs, .slice (some ⟨gr, 0, none⟩) qrs.length t2, qrs, .slice s3 qds.length t3, qds⟩ : InstQ))[r] = qrs[r] from rfl, hpl] at hv5
     have hcr := oq.2.1.cell r hrq 1 (.slice (some ⟨g5, 0, none⟩) 3 cap5) (by show ([(qrs[r]).vr, (qrs[r]).vp] : List Value)[1]? = _; rw [← hv5]; rfl)
     have hcr2 : Y3.cell? ⟨gr, r * 2 + 1, none⟩ = some (.slice (some ⟨g5, 0, none⟩) 3 cap5) := hcr.1
     have hgr : gr ≠ g5 := by
      intro e
      have hn2 := (List.nodup_append.1 (List.nodup_append.1 nq).2.1).1
      have hx := (List.nodup_append.1 hn2).2.2 gr (by simp [blk, Value.ownBlock]) g5 (List.mem_flatMap.2 ⟨qrs[r], List.getElem_mem hrq, List.mem_append_right _ (by rw [hv5, fp_int]; simp)⟩)
      exact hx e
     have hg5l : Y.heap.size ≤ g5 ∧ g5 < w3.heap.size := ⟨gq g5 hg5, M g5 hg5⟩
     have hYd : Below Y3.heap.size Y3 Y3.drew := (Below.refl _ _).drew
     have z2 := lato_cell (F := [g5]) (Gz.cell 2 _ rfl) (by simp only [List.mem_singleton]; omega)
     have z1 := lato_cell (F := [g5]) (BI.cell 1 _ rfl) (by simp only [List.mem_singleton]; omega)
     have zr := lato_cell (F := [g5]) hcr2 (by simp only [List.mem_singleton]; exact hgr)
     have hnn : Nonempty (LatO [g5] Y3) := ⟨⟨Y3, Out.refl _ _⟩⟩
     have hS0 : ∃ u : LatO [g5] Y3, Y3.drew = u.val := ⟨⟨_, Out.of_below hYd⟩, rfl⟩
     refine text_begin (S := fun w' => ∃ u : LatO [g5] Y3, w' = u.val) (by kernel_rfl) ?_
     refine seg_range [(0, 10)] 1 (by kernel_rfl) (by kernel_rfl) (by kernel_rfl) (by kernel_rfl) (by kernel_rfl) hS0 ?_
     simp only [pickR, List.toList_toArray, List.flatMap_cons, List.flatMap_nil, List.drop_succ_cons, List.drop_zero, List.take_succ_cons, List.take_zero, List.cons_append, List.nil_append, List.append_nil]
     repeat go_big_quiet_step (fail)
     refine wpQuiet_nil ?_
     refine one_at 10 _ 0 (by kernel_rfl) rfl (by kernel_rfl) ?_
     clear z2 z1 zr hcr hcr2 hgr
     have kc' : Y3.drew.cell? ⟨g5, n, none⟩ = some _ := kc
     have kf' : Y3.drew.frozen? ⟨g5, n, none⟩ = false := kf
     have hUU : Out [g5] Y3 (Y3.drew.setCell ⟨g5, n, none⟩ (iv PV)) := (Out.of_below hYd).set (by simp)
     have hG5 : Blk (Y3.drew.setCell ⟨g5, n, none⟩ (iv PV)) w3.heap.size 28 #[.bool qh, .slice s1 qbs.length t1, .slice (some ⟨gr, 0, none⟩) qrs.length t2, .slice s3 qds.length t3] := (Gz.below hYd).other (b' := g5) (by omega) n (iv PV)
     have R3 := (Rb.below hYd).other (b' := g5) (by omega) n (iv PV)
     have hBg : Below w.heap.size w (Y3.drew.setCell ⟨g5, n, none⟩ (iv PV)) := (hB.trans (hYd.mono hB.size)).setCell (p := ⟨g5, n, none⟩) (by show w.heap.size ≤ g5; omega) _
     have own6 : instK.own (Y3.drew.setCell ⟨g5, n, none⟩ (iv PV)) (InstQ.setP (⟨qh, .slice s1 qbs.length t1, qbs, .slice (some ⟨gr, 0, none⟩) qrs.length t2, qrs, .slice s3 qds.length t3, qds⟩ : InstQ) r n PV hrq) := own5
     have L5 : ∀ k ∈ instK.foot (InstQ.setP (⟨qh, .slice s1 qbs.length t1, qbs, .slice (some ⟨gr, 0, none⟩) qrs.length t2, qrs, .slice s3 qds.length t3, qds⟩ : InstQ) r n PV hrq), w.heap.size < k := fun k hk => by rw [foot5] at hk; have := gq k hk; omega
     have N5 : (instK.foot (InstQ.setP (⟨qh, .slice s1 qbs.length t1, qbs, .slice (some ⟨gr, 0, none⟩) qrs.length t2, qrs, .slice s3 qds.length t3, qds⟩ : InstQ) r n PV hrq)).Nodup := by rw [foot5]; exact nq
     have hous : ∀ cs, instK.own ((Y3.drew.setCell ⟨g5, n, none⟩ (iv PV)).setRow w.heap.size cs) (InstQ.setP (⟨qh, .slice s1 qbs.length t1, qbs, .slice (some ⟨gr, 0, none⟩) qrs.length t2, qrs, .slice s3 qds.length t3, qds⟩ : InstQ) r n PV hrq) := fun cs => instK.own_out own6 (out_row _ w.heap.size cs) (fun k hk => by have := L5 k hk; simp only [List.mem_singleton]; omega)
     have HQ : Hid ((InstQ.setP (⟨qh, .slice s1 qbs.length t1, qbs, .slice (some ⟨gr, 0, none⟩) qrs.length t2, qrs, .slice s3 qds.length t3, qds⟩ : InstQ) r n PV hrq).e = E ∧ (instK.foot (InstQ.setP (⟨qh, .slice s1 qbs.length t1, qbs, .slice (some ⟨gr, 0, none⟩) qrs.length t2, qrs, .slice s3 qds.length t3, qds⟩ : InstQ) r n PV hrq)).Nodup ∧ (∀ k ∈ instK.foot (InstQ.setP (⟨qh, .slice s1 qbs.length t1, qbs, .slice (some ⟨gr, 0, none⟩) qrs.length t2, qrs, .slice s3 qds.length t3, qds⟩ : InstQ) r n PV hrq), w.heap.size ≤ k) ∧ ∀ cs, instK.own ((Y3.drew.setCell ⟨g5, n, none⟩ (iv PV)).setRow w.heap.size cs) (InstQ.setP (⟨qh, .slice s1 qbs.length t1, qbs, .slice (some ⟨gr, 0, none⟩) qrs.length t2, qrs, .slice s3 qds.length t3, qds⟩ : InstQ) r n PV hrq)) := ⟨by rw [E1.out.2]; exact HQE, N5, fun k hk => by have := L5 k hk; omega, hous⟩
     have HD0 : Hid (D = 0) := E1.out.1
     clear Gz Rb hB BI own5 own6 foot5 L5 N5 hous HQE E1 oq nq gq eq hb3 hco hS0 hYd M hbA
     change Blk (Y3.setCell ⟨g5, n, none⟩ (iv PV)).drew _ _ _ at hG5
     change Blk (Y3.setCell ⟨g5, n, none⟩ (iv PV)).drew _ _ _ at R3
     change Below _ _ (Y3.setCell ⟨g5, n, none⟩ (iv PV)).drew at hBg
     change Out _ _ (Y3.setCell ⟨g5, n, none⟩ (iv PV)).drew at hUU
     change Hid (_ ∧ _ ∧ _ ∧ ∀ cs, instK.own (((Y3.setCell ⟨g5, n, none⟩ (iv PV)).drew).setRow w.heap.size cs) _) at HQ
     go_wp2
     refine ThenGo.to ⟨⟨⟨_, hUU⟩, rfl⟩, ?_⟩
     refine text_end (by kernel_rfl) ?_
     clear kc kf kc' kf' hUU hnn
     generalize (Y3.setCell ⟨g5, n, none⟩ (iv PV)).drew = X5 at *
     have Rr := R3.row #[.int .i64 0, .int .i64 0, .bool false, .bool false, .int .i64 0, .bool qh, .slice s1 qbs.length t1, .slice (some ⟨gr, 0, none⟩) qrs.length t2, .slice s3 qds.length t3]
     have hBr := below_row hBg (g := w.heap.size) (Nat.le_refl _) #[.int .i64 0, .int .i64 0, .bool false, .bool false, .int .i64 0, .bool qh, .slice s1 qbs.length t1, .slice (some ⟨gr, 0, none⟩) qrs.length t2, .slice s3 qds.length t3]
     have hsr : (Tryz.prog.info? 34).map (·.size) = some (#[.int .i64 0, .int .i64 0, .bool false, .bool false, .int .i64 0, .bool qh, .slice s1 qbs.length t1, .slice (some ⟨gr, 0, none⟩) qrs.length t2, .slice s3 qds.length t3] : Array Value).size := sz_res
     have z0 := hG5.cell 0 _ rfl
     have z1 := hG5.cell 1 _ rfl
     have z2 := hG5.cell 2 _ rfl
     have z3 := hG5.cell 3 _ rfl
     go_wp2_with (first | (refine st_row (by kernel_rfl) 34 _ _ rfl _ #[.int .i64 0, .int .i64 0, .bool false, .bool false, .int .i64 0, .bool qh, .slice s1 qbs.length t1, .slice (some ⟨gr, 0, none⟩) qrs.length t2, .slice s3 qds.length t3] rfl rfl 34 _ R3 hsr rfl (by simp [Value.oneCell']) ?_))
     have q0 := Rr.cell 0 _ rfl
     have q1 := Rr.cell 1 _ rfl
     have q2 := Rr.cell 2 _ rfl
     have q3 := Rr.cell 3 _ rfl
     have q4 := Rr.cell 4 _ rfl
     have q5 := Rr.cell 5 _ rfl
     have q6 := Rr.cell 6 _ rfl
     have q7 := Rr.cell 7 _ rfl
     have q8 := Rr.cell 8 _ rfl
     exact bodyPost_ret (v := .agg #[.int .i64 0, .int .i64 0, .bool false, .bool false, .int .i64 0, .bool qh, .slice s1 qbs.length t1, .slice (some ⟨gr, 0, none⟩) qrs.length t2, .slice s3 qds.length t3]) (by simp [results, Tryz.results85, go_sem, q0, q1, q2, q3, q4, q5, q6, q7, q8]) rfl ⟨InstQ.setP (⟨qh, .slice s1 qbs.length t1, qbs, .slice (some ⟨gr, 0, none⟩) qrs.length t2, qrs, .slice s3 qds.length t3, qds⟩ : InstQ) r n PV hrq, by rw [HD0.out]; rfl, HQ.out.1, HQ.out.2.2.2 _, HQ.out.2.1, HQ.out.2.2.1, hBr⟩

set_option maxHeartbeats 4000000 in
theorem specPropose_any (p : InstQ) (node round mask : Int) (w : World) (h : instK.rd w p) (hl : p.n ≤ 1048576) :
  Calls Tryz.prog 24 #[.agg #[.bool p.has, p.vb, p.vr, p.vd], .int .i64 node, .int .i64 round, .int .i64 mask] w fun e w' => ∃ q : InstQ, e = .returned (.agg (resC (prC p.e node round mask) 0 false false 0 q)) ∧ q.e = prI p.e node round mask ∧ instK.own w' q ∧ (instK.foot q).Nodup ∧ (∀ k ∈ instK.foot q, w.heap.size ≤ k) ∧ Below w.heap.size w w' := by
 have hB : Below w.heap.size w ((w.alloc (.cells #[.bool p.has, p.vb, p.vr, p.vd] 28)).alloc (.cells #[.int .i64 0, .int .i64 0, .bool false, .bool false, .int .i64 0, .bool false, .slice none 0 0, .slice none 0 0, .slice none 0 0] 34)) := by go_grown
 have Rb := Blk.new (w.alloc (.cells #[.bool p.has, p.vb, p.vr, p.vd] 28)) 34 #[.int .i64 0, .int .i64 0, .bool false, .bool false, .int .i64 0, .bool false, .slice none 0 0, .slice none 0 0, .slice none 0 0]
 rw [World.size_alloc] at Rb
 have hws : w.heap.size + 2 ≤ ((w.alloc (.cells #[.bool p.has, p.vb, p.vr, p.vd] 28)).alloc (.cells #[.int .i64 0, .int .i64 0, .bool false, .bool false, .int .i64 0, .bool false, .slice none 0 0, .slice none 0 0, .slice none 0 0] 34)).heap.size := by simp
 have hP : InstP ((w.alloc (.cells #[.bool p.has, p.vb, p.vr, p.vd] 28)).alloc (.cells #[.int .i64 0, .int .i64 0, .bool false, .bool false, .int .i64 0, .bool false, .slice none 0 0, .slice none 0 0, .slice none 0 0] 34)) w.heap.size 0 p := ⟨(box4_new w _ _ _ _ 28).below (by go_grown), instK.rd_below h hB⟩
 have hf1 := l6Fault_any w.heap.size 0 p _ hP hl
 have hst := fun w' hP hb h0 => l6Propose_any w.heap.size 0 p node round mask w' hP hb hl h0
 have HC : Hid (insF p.e ≠ 0 → prC p.e node round mask = insF p.e ∧ prI p.e node round mask = ine0) := fun h0 => (by have e : atC p.e node round = insF p.e := if_neg h0; have := (pr_facts p.e node round mask).1 (by rw [e]; exact h0); rw [e] at this; exact this)
 generalize prC p.e node round mask = D at *
 generalize prI p.e node round mask = E at *
 generalize insF p.e = C at *
 go_enter Tryz.func24, Tryz.ntmps24
 go_wp2_with fail
 generalize (w.alloc (.cells #[.bool p.has, p.vb, p.vr, p.vd] 28)).alloc (.cells #[.int .i64 0, .int .i64 0, .bool false, .bool false, .int .i64 0, .bool false, .slice none 0 0, .slice none 0 0, .slice none 0 0] 34) = W at *
 refine hf1.mono ?_
 rintro e w1 ⟨rfl, hb1⟩
 replace hB := hB.trans (hb1.mono hB.size)
 replace Rb := Rb.below hb1
 have hP1 := hP.below hb1
 have hws1 : w.heap.size + 2 ≤ w1.heap.size := by have := hb1.size; omega
 clear hf1 hb1 hP
 by_cases h0 : C = 0
 case neg =>
  have E1 : Hid (D = C ∧ E = ine0) := HC.out h0
  have h0' : (C != 0) = true := by simpa using h0
  clear HC h0 hst
  go_wp2_with fail
  refine (l6Bad_any C _).mono ?_
  rintro e w8 ⟨rfl, hb8⟩
  replace hB := hB.trans (hb8.mono hB.size)
  replace Rb := Rb.below hb8
  clear hb8
  have Rr := Rb.row #[.int .i64 C, .int .i64 0, .bool false, .bool false, .int .i64 0, .bool false, .slice none 0 0, .slice none 0 0, .slice none 0 0]
  have hBr := below_row hB (g := w.heap.size + 1) (by omega) #[.int .i64 C, .int .i64 0, .bool false, .bool false, .int .i64 0, .bool false, .slice none 0 0, .slice none 0 0, .slice none 0 0]
  have hsr : (Tryz.prog.info? 34).map (·.size) = some (#[.int .i64 C, .int .i64 0, .bool false, .bool false, .int .i64 0, .bool false, .slice none 0 0, .slice none 0 0, .slice none 0 0] : Array Value).size := sz_res
  go_wp2_with (first | (refine st_row (by kernel_rfl) 34 _ _ rfl _ #[.int .i64 C, .int .i64 0, .bool false, .bool false, .int .i64 0, .bool false, .slice none 0 0, .slice none 0 0, .slice none 0 0] rfl rfl 34 _ Rb hsr rfl (by simp [Value.oneCell']) ?_))
  have q0 := Rr.cell 0 _ rfl
  have q1 := Rr.cell 1 _ rfl
  have q2 := Rr.cell 2 _ rfl
  have q3 := Rr.cell 3 _ rfl
  have q4 := Rr.cell 4 _ rfl
  have q5 := Rr.cell 5 _ rfl
  have q6 := Rr.cell 6 _ rfl
  have q7 := Rr.cell 7 _ rfl
  have q8 := Rr.cell 8 _ rfl
  exact bodyPost_ret (v := .agg #[.int .i64 C, .int .i64 0, .bool false, .bool false, .int .i64 0, .bool false, .slice none 0 0, .slice none 0 0, .slice none 0 0]) (by simp [results, Tryz.results24, go_sem, q0, q1, q2, q3, q4, q5, q6, q7, q8]) rfl ⟨inst0, by rw [E1.out.1]; rfl, E1.out.2.symm, inst0_own _, inst0_nd, fun k hk => by rw [inst0_ft] at hk; simp at hk, hBr⟩

 case pos =>
  subst h0
  clear HC
  go_wp2_with fail
  refine (hst w1 hP1 (by omega) (by trivial)).mono ?_
  rintro e w2 ⟨q, rfl, eq, oq, nq, gq, hb2⟩
  replace Rb := Rb.below hb2
  replace hB := hB.trans (hb2.mono hB.size)
  have HQ : Hid (q.e = E ∧ (instK.foot q).Nodup ∧ (∀ k ∈ instK.foot q, w.heap.size ≤ k) ∧ ∀ cs, instK.own (w2.setRow (w.heap.size + 1) cs) q) := ⟨eq, nq, fun k hk => by have := gq k hk; omega, fun cs => instK.own_out oq (out_row w2 (w.heap.size + 1) cs) (fun k hk => by have := gq k hk; simp only [List.mem_singleton]; omega)⟩
  clear hst hP1 hb2 eq nq gq
  obtain ⟨qh, qb, qbs, qr, qrs, qd, qds⟩ := q
  obtain ⟨s1, t1, rfl⟩ : ∃ a c, qb = .slice a qbs.length c := oq.1.shape
  obtain ⟨s2, t2, rfl⟩ : ∃ a c, qr = .slice a qrs.length c := oq.2.1.shape
  obtain ⟨s3, t3, rfl⟩ : ∃ a c, qd = .slice a qds.length c := oq.2.2.shape
  have Rr := Rb.row #[.int .i64 D, .int .i64 0, .bool false, .bool false, .int .i64 0, .bool qh, .slice s1 qbs.length t1, .slice s2 qrs.length t2, .slice s3 qds.length t3]
  have hBr := below_row hB (g := w.heap.size + 1) (by omega) #[.int .i64 D, .int .i64 0, .bool false, .bool false, .int .i64 0, .bool qh, .slice s1 qbs.length t1, .slice s2 qrs.length t2, .slice s3 qds.length t3]
  have hsr : (Tryz.prog.info? 34).map (·.size) = some (#[.int .i64 D, .int .i64 0, .bool false, .bool false, .int .i64 0, .bool qh, .slice s1 qbs.length t1, .slice s2 qrs.length t2, .slice s3 qds.length t3] : Array Value).size := sz_res
  clear oq
  go_wp2_with (first | (refine st_row (by kernel_rfl) 34 _ _ rfl _ #[.int .i64 D, .int .i64 0, .bool false, .bool false, .int .i64 0, .bool qh, .slice s1 qbs.length t1, .slice s2 qrs.length t2, .slice s3 qds.length t3] rfl rfl 34 _ Rb hsr rfl (by simp [Value.oneCell']) ?_))
  have q0 := Rr.cell 0 _ rfl
  have q1 := Rr.cell 1 _ rfl
  have q2 := Rr.cell 2 _ rfl
  have q3 := Rr.cell 3 _ rfl
  have q4 := Rr.cell 4 _ rfl
  have q5 := Rr.cell 5 _ rfl
  have q6 := Rr.cell 6 _ rfl
  have q7 := Rr.cell 7 _ rfl
  have q8 := Rr.cell 8 _ rfl
  exact bodyPost_ret (v := .agg #[.int .i64 D, .int .i64 0, .bool false, .bool false, .int .i64 0, .bool qh, .slice s1 qbs.length t1, .slice s2 qrs.length t2, .slice s3 qds.length t3]) (by simp [results, Tryz.results24, go_sem, q0, q1, q2, q3, q4, q5, q6, q7, q8]) rfl ⟨⟨qh, .slice s1 qbs.length t1, qbs, .slice s2 qrs.length t2, qrs, .slice s3 qds.length t3, qds⟩, rfl, HQ.out.1, HQ.out.2.2.2 _, HQ.out.2.1, HQ.out.2.2.1, hBr⟩

end Go.Proofs.YtmgkjcobdmdjmaaGreatDoor
namespace Go.Proofs.YtmgkjcobdmdjmaaGreatDoor
open Go.RowKit
open Go.BigFrame
set_option linter.unusedVariables false
set_option maxRecDepth 100000
set_option linter.unusedSimpArgs false
theorem Blk.outs {w w' : World} {b : Nat} {t : TypeId} {cs : Array Value} {F : List Nat} (h : Blk w b t cs) (hU : Out F w w') (hF : b ∉ F) : Blk w' b t cs := (hU.block b h.lt hF).trans h

theorem nmL_map {P E : Type} (f : P → E) (nm : E → Nat) (ps : List P) : nmL nm (ps.map f) = nmL (fun p => nm (f p)) ps := by
 simp [nmL, Function.comp_def]

theorem inst_ne (q : InstQ) : q.n = InstE.n q.e := by
 unfold InstQ.n InstE.n txnsN roundsN
 rw [show q.e.batch = q.batch.map TxnQ.e from rfl, show q.e.rounds = q.rounds.map RoundQ.e from rfl, nmL_map, nmL_map, List.length_map, List.length_map]
 rfl

theorem nmL_set {P : Type} (nm : P → Nat) (ps : List P) (i : Nat) (p d : P) (h : nm p = nm (ps.getD i d)) : nmL nm (ps.set i p) = nmL nm ps := by
 induction ps generalizing i with
 | nil => rfl
 | cons q t ih =>
  cases i with
  | zero =>
   have : nm p = nm q := h
   simp [nmL, this]
  | succ i =>
   have := ih i (by simpa [List.getD] using h)
   simp only [nmL, List.set_cons_succ, List.map_cons, List.sum_cons] at this ⊢
   rw [this]

theorem rstP_n (rs : List RoundE) (r n : Nat) (v : Int) : roundsN (rstP rs r n v) = roundsN rs := by
 unfold roundsN rstP
 rw [List.length_set, nmL_set RoundE.n rs r _ rnd0 (by simp [RoundE.n])]

theorem rstR_n (rs : List RoundE) (r n : Nat) (v : Int) : roundsN (rstR rs r n v) = roundsN rs := by
 unfold roundsN rstR
 rw [List.length_set, nmL_set RoundE.n rs r _ rnd0 (by simp [RoundE.n])]

end Go.Proofs.YtmgkjcobdmdjmaaGreatDoor
