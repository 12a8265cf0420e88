/- Transactions done one by one, as plain data. No condition. -/
import Derived.Test.YteoghlebijfbaaaS3d
import Derived.Test.YteoghlebijfbaaaAnR
import Derived.Test.YteoghlebijfbaaaMid
import Derived.Test.YteoghlebijfbaaaTxnIdsI
import Derived.Maps.AppendAt
namespace Go.Proofs.Yteoghlebijfbaaa
open Go.RowKit Go.Maps
set_option linter.unusedVariables false
set_option linter.unusedSimpArgs false

def nextI (xs : List ItemD) (t : TxnD) : List ItemD := if (runA xs t.acts).1 = 0 then (runA xs t.acts).2 else xs
def allI : List ItemD → List TxnD → List ItemD
  | xs, [] => xs
  | xs, t :: r => allI (nextI xs t) r
def allCd : List ItemD → List TxnD → List Int
  | _, [] => []
  | xs, t :: r => (runA xs t.acts).1 :: allCd (nextI xs t) r
def allVl : List ItemD → List TxnD → List Int
  | _, [] => []
  | xs, t :: r => runV xs t.acts :: allVl (nextI xs t) r

theorem allCd_length : ∀ (ds : List TxnD) (xs : List ItemD), (allCd xs ds).length = ds.length
  | [], _ => rfl
  | t :: r, xs => by simp [allCd, allCd_length r]
theorem allVl_length : ∀ (ds : List TxnD) (xs : List ItemD), (allVl xs ds).length = ds.length
  | [], _ => rfl
  | t :: r, xs => by simp [allVl, allVl_length r]

theorem nextI_good {xs : List ItemD} {t : TxnD} (hl : xs.length ≤ 8) (g : Good xs) (ht : t.F = 0) : (nextI xs t).length ≤ 8 ∧ Good (nextI xs t) := by
  unfold nextI
  split
  · rename_i h; exact run_good hl g (acts_of_F ht).2 h
  · exact ⟨hl, g⟩

theorem allI_good : ∀ {ds : List TxnD} {xs : List ItemD}, xs.length ≤ 8 → Good xs → (∀ t ∈ ds, t.F = 0) → (allI xs ds).length ≤ 8 ∧ Good (allI xs ds)
  | [], xs, hl, g, _ => ⟨hl, g⟩
  | t :: r, xs, hl, g, ht => by
    obtain ⟨h1, h2⟩ := nextI_good hl g (ht t (by simp))
    exact allI_good (ds := r) (xs := nextI xs t) h1 h2 (fun u hu => ht u (by simp [hu]))

theorem allF_zero : ∀ {ds : List TxnD}, allF ds = 0 → ∀ t ∈ ds, t.F = 0
  | [], _, t, h => by simp at h
  | x :: r, h, t, ht => by
    simp only [allF] at h
    by_cases hx : x.F = 0
    · rw [if_pos hx] at h
      rcases List.mem_cons.1 ht with rfl | ht
      · exact hx
      · exact allF_zero h t ht
    · rw [if_neg hx] at h; exact absurd h hx

theorem ids_zero {ds : List TxnD} (h : idsC ds = 0) : ds.length ≤ 60 ∧ ∀ t ∈ ds, t.F = 0 := by
  have h60 := idsC_few h
  unfold idsC at h
  rw [if_neg (by omega)] at h
  exact ⟨h60, allF_zero h⟩

def eaC (xs : List ItemD) (ds : List TxnD) : Int := if itemsF xs ≠ 0 then itemsF xs else idsC ds
def eaCd (xs : List ItemD) (ds : List TxnD) : List Int := if eaC xs ds = 0 then allCd xs ds else []
def eaVl (xs : List ItemD) (ds : List TxnD) : List Int := if eaC xs ds = 0 then allVl xs ds else []
def eaI (xs : List ItemD) (ds : List TxnD) : List ItemD := if eaC xs ds = 0 then allI xs ds else []

theorem ea_bad {xs : List ItemD} {ds : List TxnD} (h : itemsF xs ≠ 0) : eaC xs ds = itemsF xs ∧ eaCd xs ds = [] ∧ eaVl xs ds = [] ∧ eaI xs ds = [] := by
  have e : eaC xs ds = itemsF xs := if_pos h
  exact ⟨e, by simp [eaCd, e, h], by simp [eaVl, e, h], by simp [eaI, e, h]⟩
theorem ea_bad2 {xs : List ItemD} {ds : List TxnD} (h : itemsF xs = 0) (h2 : idsC ds ≠ 0) : eaC xs ds = idsC ds ∧ eaCd xs ds = [] ∧ eaVl xs ds = [] ∧ eaI xs ds = [] := by
  have e : eaC xs ds = idsC ds := by simp [eaC, h]
  exact ⟨e, by simp [eaCd, e, h2], by simp [eaVl, e, h2], by simp [eaI, e, h2]⟩
theorem ea_ok {xs : List ItemD} {ds : List TxnD} (h : itemsF xs = 0) (h2 : idsC ds = 0) : eaC xs ds = 0 ∧ eaCd xs ds = allCd xs ds ∧ eaVl xs ds = allVl xs ds ∧ eaI xs ds = allI xs ds := by
  have e : eaC xs ds = 0 := by simp [eaC, h, h2]
  exact ⟨e, by simp [eaCd, e], by simp [eaVl, e], by simp [eaI, e]⟩

theorem ea_le (xs : List ItemD) (ds : List TxnD) : (eaCd xs ds).length ≤ 1048576 ∧ (eaVl xs ds).length ≤ 1048576 ∧ (eaI xs ds).length ≤ 1048576 := by
  by_cases h : itemsF xs = 0
  · by_cases h2 : idsC ds = 0
    · obtain ⟨_, e2, e3, e4⟩ := ea_ok h h2
      obtain ⟨h8, g⟩ := good_of_F h
      obtain ⟨h60, hz⟩ := ids_zero h2
      rw [e2, e3, e4, allCd_length, allVl_length]
      have := (allI_good h8 g hz).1
      omega
    · obtain ⟨_, e2, e3, e4⟩ := ea_bad2 (ds := ds) h h2
      rw [e2, e3, e4]; simp
  · obtain ⟨_, e2, e3, e4⟩ := ea_bad (ds := ds) h
    rw [e2, e3, e4]; simp

theorem drop_txn {ds : List TxnD} {k : Nat} (h : k < ds.length) : ds.drop k = ds.getD k txnNo :: ds.drop (k + 1) := by
  have e : ds.getD k txnNo = ds[k] := by simp [List.getD, h]
  rw [List.drop_eq_getElem_cons h, e]

theorem Apart3.nil : Apart3 (.slice none 0 0) (.slice none 0 0) (.slice none 0 0) := ⟨Or.inl rfl, Or.inl rfl, Or.inl rfl⟩

/-- One of the three has grown, in its own block or a new one. -/
theorem Apart3.grow1 {w : World} {s1 s2 s3 s1' : Value} (h : Apart3 s1 s2 s3) (hl : s1'.ownBlock = s1.ownBlock ∨ s1'.ownBlock = some w.heap.size) (h2 : ∀ g, s2.ownBlock = some g → g < w.heap.size) (h3 : ∀ g, s3.ownBlock = some g → g < w.heap.size) : Apart3 s1' s2 s3 := by
  rcases hl with e | e
  · exact ⟨by rw [e]; exact h.a12, by rw [e]; exact h.a13, h.a23⟩
  · exact ⟨Or.inr (by rw [e]; intro k; have := h2 _ k.symm; omega), Or.inr (by rw [e]; intro k; have := h3 _ k.symm; omega), h.a23⟩
theorem Apart3.grow2 {w : World} {s1 s2 s3 s2' : Value} (h : Apart3 s1 s2 s3) (hl : s2'.ownBlock = s2.ownBlock ∨ s2'.ownBlock = some w.heap.size) (h1 : ∀ g, s1.ownBlock = some g → g < w.heap.size) (h3 : ∀ g, s3.ownBlock = some g → g < w.heap.size) : Apart3 s1 s2' s3 := by
  rcases hl with e | e
  · exact ⟨by rw [e]; exact h.a12, h.a13, by rw [e]; exact h.a23⟩
  · refine ⟨ne_swap (Or.inr ?_), h.a13, Or.inr ?_⟩
    · rw [e]; intro k; have := h1 _ k.symm; omega
    · rw [e]; intro k; have := h3 _ k.symm; omega
theorem Apart3.new3 {s1 s2 s3 s3' : Value} (h : Apart3 s1 s2 s3) (b : Nat) (h1 : ∀ g, s1.ownBlock = some g → g < b) (h2 : ∀ g, s2.ownBlock = some g → g < b) (h3 : ∀ g, s3'.ownBlock = some g → b ≤ g) : Apart3 s1 s2 s3' := by
  refine ⟨h.a12, ?_, ?_⟩
  · cases e : s1.ownBlock with
    | none => exact Or.inl rfl
    | some g => right; intro k; have := h1 g e; have := h3 g k.symm; omega
  · cases e : s2.ownBlock with
    | none => exact Or.inl rfl
    | some g => right; intro k; have := h2 g e; have := h3 g k.symm; omega

end Go.Proofs.Yteoghlebijfbaaa
