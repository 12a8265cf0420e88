/- One vote that is laid on a board: plainly, in the cells of a board, and in the memory of an instance. -/
import Derived.Test.YtpjmlidbligcbaaGreatDoorM6g
namespace Go.Proofs.YtpjmlidbligcbaaGreatDoor
open Go.RowKit
open Go.BigFrame
set_option linter.unusedVariables false
set_option maxRecDepth 100000
set_option linter.unusedSimpArgs false

/-- A report, a proposal that is laid in a round. -/
def rstR (rs : List RoundE) (r n : Nat) (v : Int) : List RoundE := rs.set r ⟨(rs.getD r rnd0).rep.set n v, (rs.getD r rnd0).pro⟩
def rstP (rs : List RoundE) (r n : Nat) (v : Int) : List RoundE := rs.set r ⟨(rs.getD r rnd0).rep, (rs.getD r rnd0).pro.set n v⟩
theorem rstR_length (rs : List RoundE) (r n : Nat) (v : Int) : (rstR rs r n v).length = rs.length := by simp [rstR]
theorem rstP_length (rs : List RoundE) (r n : Nat) (v : Int) : (rstP rs r n v).length = rs.length := by simp [rstP]

theorem rowsV_set {rs : List RoundE} (h : Wel rs) (r : Nat) (hr : r < rs.length) (j : Nat) (hj : j < 6) (x : Value) (q : RoundE) (hq : rowC q = (rowC (rs.getD r rnd0)).set j x) : (rowsV rs).set (r * 6 + j) x = rowsV (rs.set r q) := by
  induction rs generalizing r with
  | nil => simp at hr
  | cons a t ih =>
    have ha := rowC_length (h a (by simp))
    cases r with
    | zero =>
      simp only [rowsV, List.set_cons_zero, List.flatMap_cons] at hq ⊢
      have e : (a :: t).getD 0 rnd0 = a := rfl
      rw [e] at hq
      rw [List.set_append_left _ _ (by omega), hq, Nat.zero_mul, Nat.zero_add]
    | succ r =>
      have e : (a :: t).getD (r + 1) rnd0 = t.getD r rnd0 := by simp [List.getD]
      rw [e] at hq
      have := ih (fun y hy => h y (List.mem_cons_of_mem _ hy)) r (by simpa using hr) hq
      simp only [rowsV, List.set_cons_succ, List.flatMap_cons] at this ⊢
      rw [List.set_append_right _ _ (by omega), ha, show (r + 1) * 6 + j - 6 = r * 6 + j by omega, this]
theorem rnd_set {rs : List RoundE} (h : Wel rs) (r : Nat) (hr : r < rs.length) (j : Nat) (hj : j < 6) (x : Value) (q : RoundE) (hq : rowC q = (rowC (rs.getD r rnd0)).set j x) : (rndC rs).set (1 + r * 6 + j) x = rndC (rs.set r q) := by
  have hl := rowsV_length h
  unfold rndC
  rw [show 1 + r * 6 + j = (r * 6 + j) + 1 by omega, List.set_cons_succ, List.set_append_left _ _ (by omega), rowsV_set h r hr j hj x q hq, List.length_set]
theorem brd_set {has : Bool} {vb : Value} {rs : List RoundE} {dec : List Int} (h : Wel rs) (h4 : rs.length ≤ 4) (r : Nat) (hr : r < rs.length) (j : Nat) (hj : j < 6) (x : Value) (q : RoundE) (hq : rowC q = (rowC (rs.getD r rnd0)).set j x) : (brdC has vb rs dec).set (1 + r * 6 + j) x = brdC has vb (rs.set r q) dec := by
  have hl := rndC_length h h4
  unfold brdC
  rw [List.set_append_left _ _ (by omega), rnd_set h r hr j hj x q hq]
theorem rowC_setR {q : RoundE} (h : q.rep.length = 3 ∧ q.pro.length = 3) (n : Nat) (hn : n < 3) (v : Int) : rowC ⟨q.rep.set n v, q.pro⟩ = (rowC q).set n (iv v) := by
  unfold rowC
  rw [← List.map_set, List.set_append_left _ _ (by omega)]
theorem rowC_setP {q : RoundE} (h : q.rep.length = 3 ∧ q.pro.length = 3) (n : Nat) (hn : n < 3) (v : Int) : rowC ⟨q.rep, q.pro.set n v⟩ = (rowC q).set (3 + n) (iv v) := by
  unfold rowC
  rw [← List.map_set, List.set_append_right _ _ (by omega), h.1, show 3 + n - 3 = n by omega]
theorem rnd_setR {rs : List RoundE} (h : Wel rs) (r : Nat) (hr : r < rs.length) (n : Nat) (hn : n < 3) (v : Int) : (rndC rs).set (1 + r * 6 + n) (iv v) = rndC (rstR rs r n v) :=
  rnd_set h r hr n (by omega) _ _ (rowC_setR (wel_at h r hr) n hn v)
theorem brd_setP {has : Bool} {vb : Value} {rs : List RoundE} {dec : List Int} (h : Wel rs) (h4 : rs.length ≤ 4) (r : Nat) (hr : r < rs.length) (n : Nat) (hn : n < 3) (v : Int) : (brdC has vb rs dec).set (1 + r * 6 + 3 + n) (iv v) = brdC has vb (rstP rs r n v) dec := by
  rw [show 1 + r * 6 + 3 + n = 1 + r * 6 + (3 + n) by omega]
  exact brd_set h h4 r hr (3 + n) (by omega) _ _ (rowC_setP (wel_at h r hr) n hn v)
theorem brd_setD {has : Bool} {vb : Value} {rs : List RoundE} {dec : List Int} (h : Wel rs) (h4 : rs.length ≤ 4) (n : Nat) (v : Int) : (brdC has vb rs dec).set (27 + n) (iv v) = brdC has vb rs (dec.set n v) := by
  have hl := rndC_length h h4
  unfold brdC
  rw [List.set_append_right _ _ (by omega), hl, show 27 + n - 25 = n + 2 by omega]
  simp [List.map_set]
theorem wel_set {rs : List RoundE} (h : Wel rs) (r : Nat) (q : RoundE) (hq : q.rep.length = 3 ∧ q.pro.length = 3) : Wel (rs.set r q) := fun x hx => by
  rcases List.mem_or_eq_of_mem_set hx with hx | rfl
  · exact h x hx
  · exact hq
theorem wel_rstR {rs : List RoundE} (h : Wel rs) (r n : Nat) (hr : r < rs.length) (v : Int) : Wel (rstR rs r n v) := wel_set h r _ (by have := wel_at h r hr; simpa using this)
theorem wel_rstP {rs : List RoundE} (h : Wel rs) (r n : Nat) (hr : r < rs.length) (v : Int) : Wel (rstP rs r n v) := wel_set h r _ (by have := wel_at h r hr; simpa using this)

/-- The same in memory. -/
def InstQ.setP (q : InstQ) (r n : Nat) (x : Int) (hr : r < q.rounds.length) : InstQ := ⟨q.has, q.vb, q.batch, q.vr, q.rounds.set r ⟨q.rounds[r].vr, q.rounds[r].rep, q.rounds[r].vp, q.rounds[r].pro.set n x⟩, q.vd, q.dec⟩
def InstQ.setR (q : InstQ) (r n : Nat) (x : Int) (hr : r < q.rounds.length) : InstQ := ⟨q.has, q.vb, q.batch, q.vr, q.rounds.set r ⟨q.rounds[r].vr, q.rounds[r].rep.set n x, q.rounds[r].vp, q.rounds[r].pro⟩, q.vd, q.dec⟩
def InstQ.setD (q : InstQ) (n : Nat) (x : Int) : InstQ := ⟨q.has, q.vb, q.batch, q.vr, q.rounds, q.vd, q.dec.set n x⟩
theorem getD_mapE (qs : List RoundQ) (r : Nat) (hr : r < qs.length) : (qs.map RoundQ.e).getD r rnd0 = qs[r].e := by simp [List.getD, hr]
theorem setP_e (q : InstQ) (r n : Nat) (x : Int) (hr : r < q.rounds.length) : (q.setP r n x hr).e = ⟨q.e.has, q.e.batch, rstP q.e.rounds r n x, q.e.dec⟩ := by
  show InstE.mk _ _ _ _ = _
  unfold rstP
  rw [show q.e.rounds = q.rounds.map RoundQ.e from rfl, getD_mapE _ _ hr]
  simp only [InstQ.setP, List.map_set]
  rfl
theorem setR_e (q : InstQ) (r n : Nat) (x : Int) (hr : r < q.rounds.length) : (q.setR r n x hr).e = ⟨q.e.has, q.e.batch, rstR q.e.rounds r n x, q.e.dec⟩ := by
  show InstE.mk _ _ _ _ = _
  unfold rstR
  rw [show q.e.rounds = q.rounds.map RoundQ.e from rfl, getD_mapE _ _ hr]
  simp only [InstQ.setR, List.map_set]
  rfl
theorem setD_e (q : InstQ) (n : Nat) (x : Int) : (q.setD n x).e = ⟨q.e.has, q.e.batch, q.e.rounds, q.e.dec.set n x⟩ := rfl

theorem intK_foot (zs : List Int) : zs.flatMap intK.foot = [] := by
  rw [List.flatMap_eq_nil_iff]
  intro _ _
  rfl
theorem own_int_set {w : World} {g n cap k : Nat} {zs : List Int} (h : intK.Own w (.slice (some ⟨g, 0, none⟩) n cap) zs) (hk : k < zs.length) (x : Int) :
    intK.Own (w.setCell ⟨g, k, none⟩ (iv x)) (.slice (some ⟨g, 0, none⟩) n cap) (zs.set k x) ∧ w.cell? ⟨g, k, none⟩ = some (iv zs[k]) ∧ w.frozen? ⟨g, k, none⟩ = false := by
  have hnd : (intK.fp (.slice (some ⟨g, 0, none⟩) n cap) zs).Nodup := intK_nodup _ _
  have h1 := (h.store hnd k hk x 0 (iv x) (by show 0 < 1; omega) rfl rfl (fun _ _ => trivial)).1
  have h2 := h.cell k hk 0 (iv zs[k]) rfl
  have e : k * intK.size + 0 = k := by show k * 1 + 0 = k; omega
  rw [e] at h1 h2
  exact ⟨h1, h2⟩
theorem fp_int {g n cap : Nat} (zs : List Int) : intK.fp (.slice (some ⟨g, 0, none⟩) n cap) zs = [g] := by
  simp [Kind.fp, intK_foot, blk, Value.ownBlock]

theorem nodup_flat {A B : Type} {f : A → List B} {l : List A} (h : (l.flatMap f).Nodup) {a : A} (ha : a ∈ l) : (f a).Nodup := by
  induction l with
  | nil => simp at ha
  | cons x t ih =>
    rw [List.flatMap_cons, List.nodup_append] at h
    rcases List.mem_cons.1 ha with rfl | ha
    · exact h.1
    · exact ih h.2.1 ha
theorem own_setP {w : World} {q : InstQ} (h : instK.own w q) (hnd : (instK.foot q).Nodup) (r n : Nat) (hr : r < q.rounds.length) (hn : n < q.rounds[r].pro.length) (x : Int) :
    ∃ g cap, q.rounds[r].vp = .slice (some ⟨g, 0, none⟩) q.rounds[r].pro.length cap ∧ g ∈ instK.foot q ∧ w.cell? ⟨g, n, none⟩ = some (iv q.rounds[r].pro[n]) ∧ w.frozen? ⟨g, n, none⟩ = false ∧
      instK.own (w.setCell ⟨g, n, none⟩ (iv x)) (q.setP r n x hr) ∧ instK.foot (q.setP r n x hr) = instK.foot q := by
  obtain ⟨o1, o2, o3⟩ := h
  obtain ⟨hn1, hn23, hd1⟩ := List.nodup_append.1 hnd
  obtain ⟨hn2, hn3, hd2⟩ := List.nodup_append.1 hn23
  have hmem := o2.2 _ (List.getElem_mem hr)
  obtain ⟨oR, oP⟩ := hmem
  obtain ⟨a, cap, hv⟩ := oP.shape
  rw [hv] at oP
  obtain ⟨g, rfl⟩ := oP.blkOf (by omega)
  obtain ⟨k1, k2, k3⟩ := own_int_set oP hn x
  have hgP : g ∈ roundK.foot q.rounds[r] := List.mem_append_right _ (by rw [hv, fp_int]; simp)
  have hg2 : g ∈ roundK.fp q.vr q.rounds := List.mem_append_right _ (List.mem_flatMap.2 ⟨_, List.getElem_mem hr, hgP⟩)
  have hg : g ∈ instK.foot q := List.mem_append_right _ (List.mem_append_left _ hg2)
  have hU := Out.setCell w g n (iv x)
  have hfr : (roundK.foot q.rounds[r]).Nodup := nodup_flat (List.nodup_append.1 hn2).2.1 (List.getElem_mem hr)
  have hRP : ∀ k ∈ intK.fp q.rounds[r].vr q.rounds[r].rep, k ∉ [g] := fun k hk hk' => by
    simp only [List.mem_singleton] at hk'
    subst hk'
    have := (List.nodup_append.1 hfr).2.2 k hk k (by rw [hv, fp_int]; simp)
    exact this rfl
  have ht := o2.turn hn2 r hr ⟨q.rounds[r].vr, q.rounds[r].rep, q.rounds[r].vp, q.rounds[r].pro.set n x⟩ hU (fun k hk => by simp only [List.mem_singleton] at hk; rw [hk]; exact hgP) rfl (by show intK.fp _ _ ++ intK.fp _ _ = intK.fp _ _ ++ intK.fp _ _; rw [hv, fp_int, fp_int]) ⟨oR.out hU hRP, by rw [hv]; exact k1⟩
  refine ⟨g, cap, hv, hg, k2, k3, ⟨o1.out hU (fun k hk hk' => ?_), ht.1, o3.out hU (fun k hk hk' => ?_)⟩, ?_⟩
  · simp only [List.mem_singleton] at hk'
    subst hk'
    exact hd1 k hk k (List.mem_append_left _ hg2) rfl
  · simp only [List.mem_singleton] at hk'
    subst hk'
    exact hd2 k hg2 k hk rfl
  · show txnK.fp _ _ ++ (roundK.fp _ _ ++ intK.fp _ _) = _
    rw [show (q.setP r n x hr).rounds = q.rounds.set r ⟨q.rounds[r].vr, q.rounds[r].rep, q.rounds[r].vp, q.rounds[r].pro.set n x⟩ from rfl]
    rw [show (q.setP r n x hr).vr = q.vr from rfl, ht.2]
    rfl

theorem own_setR {w : World} {q : InstQ} (h : instK.own w q) (hnd : (instK.foot q).Nodup) (r n : Nat) (hr : r < q.rounds.length) (hn : n < q.rounds[r].rep.length) (x : Int) :
    ∃ g cap, q.rounds[r].vr = .slice (some ⟨g, 0, none⟩) q.rounds[r].rep.length cap ∧ g ∈ instK.foot q ∧ w.cell? ⟨g, n, none⟩ = some (iv q.rounds[r].rep[n]) ∧ w.frozen? ⟨g, n, none⟩ = false ∧
      instK.own (w.setCell ⟨g, n, none⟩ (iv x)) (q.setR r n x hr) ∧ instK.foot (q.setR r n x hr) = instK.foot q := by
  obtain ⟨o1, o2, o3⟩ := h
  obtain ⟨hn1, hn23, hd1⟩ := List.nodup_append.1 hnd
  obtain ⟨hn2, hn3, hd2⟩ := List.nodup_append.1 hn23
  have hmem := o2.2 _ (List.getElem_mem hr)
  obtain ⟨oR, oP⟩ := hmem
  obtain ⟨a, cap, hv⟩ := oR.shape
  rw [hv] at oR
  obtain ⟨g, rfl⟩ := oR.blkOf (by omega)
  obtain ⟨k1, k2, k3⟩ := own_int_set oR hn x
  have hgR : g ∈ roundK.foot q.rounds[r] := List.mem_append_left _ (by rw [hv, fp_int]; simp)
  have hg2 : g ∈ roundK.fp q.vr q.rounds := List.mem_append_right _ (List.mem_flatMap.2 ⟨_, List.getElem_mem hr, hgR⟩)
  have hg : g ∈ instK.foot q := List.mem_append_right _ (List.mem_append_left _ hg2)
  have hU := Out.setCell w g n (iv x)
  have hfr : (roundK.foot q.rounds[r]).Nodup := nodup_flat (List.nodup_append.1 hn2).2.1 (List.getElem_mem hr)
  have hRP : ∀ k ∈ intK.fp q.rounds[r].vp q.rounds[r].pro, k ∉ [g] := fun k hk hk' => by
    simp only [List.mem_singleton] at hk'
    subst hk'
    have := (List.nodup_append.1 hfr).2.2 k (by rw [hv, fp_int]; simp) k hk
    exact this rfl
  have ht := o2.turn hn2 r hr ⟨q.rounds[r].vr, q.rounds[r].rep.set n x, q.rounds[r].vp, q.rounds[r].pro⟩ hU (fun k hk => by simp only [List.mem_singleton] at hk; rw [hk]; exact hgR) rfl (by show intK.fp _ _ ++ intK.fp _ _ = intK.fp _ _ ++ intK.fp _ _; rw [hv, fp_int, fp_int]) ⟨by rw [hv]; exact k1, oP.out hU hRP⟩
  refine ⟨g, cap, hv, hg, k2, k3, ⟨o1.out hU (fun k hk hk' => ?_), ht.1, o3.out hU (fun k hk hk' => ?_)⟩, ?_⟩
  · simp only [List.mem_singleton] at hk'
    subst hk'
    exact hd1 k hk k (List.mem_append_left _ hg2) rfl
  · simp only [List.mem_singleton] at hk'
    subst hk'
    exact hd2 k hg2 k hk rfl
  · show txnK.fp _ _ ++ (roundK.fp _ _ ++ intK.fp _ _) = _
    rw [show (q.setR r n x hr).rounds = q.rounds.set r ⟨q.rounds[r].vr, q.rounds[r].rep.set n x, q.rounds[r].vp, q.rounds[r].pro⟩ from rfl]
    rw [show (q.setR r n x hr).vr = q.vr from rfl, ht.2]
    rfl

theorem own_setD {w : World} {q : InstQ} (h : instK.own w q) (hnd : (instK.foot q).Nodup) (n : Nat) (hn : n < q.dec.length) (x : Int) :
    ∃ g cap, q.vd = .slice (some ⟨g, 0, none⟩) q.dec.length cap ∧ g ∈ instK.foot q ∧ w.cell? ⟨g, n, none⟩ = some (iv q.dec[n]) ∧ w.frozen? ⟨g, n, none⟩ = false ∧
      instK.own (w.setCell ⟨g, n, none⟩ (iv x)) (q.setD n x) ∧ instK.foot (q.setD n x) = instK.foot q := by
  obtain ⟨o1, o2, o3⟩ := h
  obtain ⟨hn1, hn23, hd1⟩ := List.nodup_append.1 hnd
  obtain ⟨hn2, hn3, hd2⟩ := List.nodup_append.1 hn23
  obtain ⟨a, cap, hv⟩ := o3.shape
  rw [hv] at o3
  obtain ⟨g, rfl⟩ := o3.blkOf (by omega)
  obtain ⟨k1, k2, k3⟩ := own_int_set o3 hn x
  have hg3 : g ∈ intK.fp q.vd q.dec := by rw [hv, fp_int]; simp
  have hg : g ∈ instK.foot q := List.mem_append_right _ (List.mem_append_right _ hg3)
  have hU := Out.setCell w g n (iv x)
  refine ⟨g, cap, hv, hg, k2, k3, ⟨o1.out hU (fun k hk hk' => ?_), o2.out hU (fun k hk hk' => ?_), ?_⟩, ?_⟩
  · simp only [List.mem_singleton] at hk'
    subst hk'
    exact hd1 k hk k (List.mem_append_right _ hg3) rfl
  · simp only [List.mem_singleton] at hk'
    subst hk'
    exact hd2 k hk k hg3 rfl
  · show intK.Own _ q.vd _
    rw [hv]
    exact k1
  · show txnK.fp _ _ ++ (roundK.fp _ _ ++ intK.fp q.vd _) = txnK.fp _ _ ++ (roundK.fp _ _ ++ intK.fp q.vd _)
    rw [hv, fp_int, fp_int]
    rfl

end Go.Proofs.YtpjmlidbligcbaaGreatDoor
