/- What is taken back, as plain data: what undoes acts, and items behind an undoing. No condition. -/
import Derived.Test.YtjaoggkpnjkkpaaS3m
import Derived.Test.YtjaoggkpnjkkpaaS3e
import Derived.Test.YtjaoggkpnjkkpaaD4f
namespace Go.Proofs.Ytjaoggkpnjkkpaa
open Go.RowKit
set_option linter.unusedVariables false
set_option linter.unusedSimpArgs false

/-- What undoes an act. -/
def unA (xs : List ItemD) (a : ActD) : UndoD := ⟨a.key, hasI xs a.key, valI xs a.key⟩
/-- What undoes acts that are done one by one. -/
def unR : List ItemD → List ActD → List UndoD
  | _, [] => []
  | xs, a :: r => (if a.kind = 4 then [] else [unA xs a]) ++ unR (actN xs a) r
def bk1 (xs : List ItemD) (u : UndoD) : List ItemD := if u.was = true then setI xs ⟨u.key, u.val⟩ else delI xs u.key
/-- Undone, from the last one on. -/
def bkA (xs : List ItemD) : List UndoD → List ItemD
  | [] => xs
  | u :: r => bk1 (bkA xs r) u

def tbC (xs : List ItemD) (us : List UndoD) : Int := if itemsF xs ≠ 0 then itemsF xs else if undoF us ≠ 0 then undoF us else if 8 < (bkA xs us).length then 7 else 0
def tbI (xs : List ItemD) (us : List UndoD) : List ItemD := if tbC xs us = 0 then bkA xs us else []
def taR (xs : List ItemD) : List (List UndoD) → Int × List ItemD
  | [] => (0, xs)
  | u :: r => if (taR xs r).1 = 0 then (tbC (taR xs r).2 u, tbI (taR xs r).2 u) else ((taR xs r).1, [])
def taC (xs : List ItemD) (uss : List (List UndoD)) : Int := if 20 < uss.length then 2 else if itemsF xs ≠ 0 then itemsF xs else (taR xs uss).1
def taI (xs : List ItemD) (uss : List (List UndoD)) : List ItemD := if taC xs uss = 0 then (taR xs uss).2 else []
def duU (xs : List ItemD) (i s q : Int) (zs : List ActD) : List UndoD := if exC xs i s q zs = 0 then unR xs zs else []

theorem unF1_zero {x : UndoD} (h : unF1 x = 0) : (1 ≤ x.key ∧ x.key ≤ 20) ∧ (-20000 ≤ x.val ∧ x.val ≤ 20000) := by
  rcases unF_ways x with ⟨_, e⟩ | ⟨_, _, e⟩ | ⟨_, _, _, _, e⟩ | ⟨h1, h2, _, _, _⟩ | ⟨h1, h2, _, _⟩
  · rw [h] at e; simp at e
  · rw [h] at e; simp at e
  · rw [h] at e; simp at e
  · simp [inW] at h1 h2
    exact ⟨by simpa using h1, by simpa using h2⟩
  · simp [inW] at h1 h2
    exact ⟨by simpa using h1, by simpa using h2⟩

theorem undoF_parts {us : List UndoD} (h : undoF us = 0) : us.length ≤ 4 ∧ ∀ u ∈ us, unF1 u = 0 := by
  have h4 : ¬ 4 < us.length := by
    intro h4
    simp [undoF, h4] at h
  have hz := firstNZ_zero (unF us) us.length (by simpa [undoF, h4] using h)
  refine ⟨by omega, ?_⟩
  intro u hu
  obtain ⟨j, hj, rfl⟩ := List.mem_iff_getElem.1 hu
  have := hz j hj
  simpa [unF, List.getD, hj] using this

theorem undoF_of {us : List UndoD} (hl : us.length ≤ 4) (h : ∀ u ∈ us, unF1 u = 0) : undoF us = 0 := by
  unfold undoF
  rw [if_neg (by omega)]
  refine firstNZ_none _ _ ?_
  intro j hj
  have e : us.getD j undoNo = us[j] := by simp [List.getD, hj]
  unfold unF
  rw [e]
  exact h _ (List.getElem_mem hj)

theorem bk1_good {xs : List ItemD} {u : UndoD} (g : Good xs) (h : unF1 u = 0) : Good (bk1 xs u) ∧ (bk1 xs u).length ≤ xs.length + 1 := by
  obtain ⟨hk, hv⟩ := unF1_zero h
  unfold bk1
  split
  · refine ⟨g.set hk hv, ?_⟩
    rw [setI_length g]
    split <;> omega
  · exact ⟨g.del _, Nat.le_succ_of_le (delI_length _ _)⟩

theorem bkA_good {xs : List ItemD} (g : Good xs) : ∀ {us : List UndoD}, (∀ u ∈ us, unF1 u = 0) → Good (bkA xs us) ∧ (bkA xs us).length ≤ xs.length + us.length
  | [], _ => ⟨g, by simp [bkA]⟩
  | u :: r, h => by
    obtain ⟨g1, h1⟩ := bkA_good g (us := r) (fun x hx => h x (by simp [hx]))
    obtain ⟨g2, h2⟩ := bk1_good g1 (h u (by simp))
    refine ⟨g2, ?_⟩
    simp only [bkA, List.length_cons]
    omega

theorem tb_ways (xs : List ItemD) (us : List UndoD) :
    (itemsF xs ≠ 0 ∧ tbC xs us = itemsF xs ∧ tbI xs us = []) ∨ (itemsF xs = 0 ∧ undoF us ≠ 0 ∧ tbC xs us = undoF us ∧ tbI xs us = []) ∨
    (itemsF xs = 0 ∧ undoF us = 0 ∧ 8 < (bkA xs us).length ∧ tbC xs us = 7 ∧ tbI xs us = []) ∨
    (itemsF xs = 0 ∧ undoF us = 0 ∧ ¬ 8 < (bkA xs us).length ∧ tbC xs us = 0 ∧ tbI xs us = bkA xs us) := by
  unfold tbI tbC
  by_cases h1 : itemsF xs = 0
  · by_cases h2 : undoF us = 0
    · by_cases h3 : 8 < (bkA xs us).length <;> simp [h1, h2, h3]
    · simp [h1, h2]
  · simp [h1]

theorem tbI_le (xs : List ItemD) (us : List UndoD) : (tbI xs us).length ≤ 8 := by
  rcases tb_ways xs us with ⟨_, _, e⟩ | ⟨_, _, _, e⟩ | ⟨_, _, _, _, e⟩ | ⟨_, _, h, _, e⟩ <;> rw [e]
  · simp
  · simp
  · simp
  · omega

theorem tb_good {xs : List ItemD} {us : List UndoD} (h : tbC xs us = 0) : (tbI xs us).length ≤ 8 ∧ Good (tbI xs us) := by
  refine ⟨tbI_le _ _, ?_⟩
  rcases tb_ways xs us with ⟨h1, e, _⟩ | ⟨_, h1, e, _⟩ | ⟨_, _, _, e, _⟩ | ⟨h1, h2, h3, _, e⟩
  · rw [h] at e; exact absurd e.symm h1
  · rw [h] at e; exact absurd e.symm h1
  · rw [h] at e; simp at e
  · rw [e]
    exact (bkA_good (good_of_F h1).2 (undoF_parts h2).2).1

theorem taR_good {xs : List ItemD} (hl : xs.length ≤ 8) (g : Good xs) : ∀ {uss : List (List UndoD)}, (taR xs uss).1 = 0 → (taR xs uss).2.length ≤ 8 ∧ Good (taR xs uss).2
  | [], _ => ⟨hl, g⟩
  | u :: r, h => by
    simp only [taR] at h ⊢
    by_cases e : (taR xs r).1 = 0
    · rw [if_pos e] at h ⊢
      exact tb_good h
    · rw [if_neg e] at h
      exact absurd h e

theorem taI_le (xs : List ItemD) (uss : List (List UndoD)) : (taI xs uss).length ≤ 8 := by
  unfold taI
  split
  · rename_i h
    unfold taC at h
    split at h
    · simp at h
    · split at h
      · rename_i h1; exact absurd h h1
      · rename_i h1
        have h1' : itemsF xs = 0 := Decidable.of_not_not h1
        obtain ⟨hl, g⟩ := good_of_F h1'
        exact (taR_good hl g h).1
  · simp

theorem hasI_mem {xs : List ItemD} {k : Int} : hasI xs k = true ↔ ∃ y ∈ xs, y.key = k := by simp [hasI]

theorem delI_insI {x : ItemD} : ∀ {l : List ItemD}, delI (insI x l) x.key = delI l x.key
  | [] => by simp [insI, delI]
  | y :: r => by
    have ih := delI_insI (x := x) (l := r)
    unfold delI at ih ⊢
    simp only [insI]
    split
    · simp
    · simp only [List.filter_cons, ih]

theorem delI_delI (xs : List ItemD) (k : Int) : delI (delI xs k) k = delI xs k := by
  unfold delI
  rw [List.filter_filter]
  simp

theorem delI_setI (xs : List ItemD) (x : ItemD) : delI (setI xs x) x.key = delI xs x.key := by
  unfold setI
  rw [delI_insI, delI_delI]

theorem delI_has {xs : List ItemD} {k : Int} (h : hasI xs k = false) : delI xs k = xs :=
  delI_none (fun y hy e => by rw [hasI_mem.2 ⟨y, hy, e⟩] at h; simp at h)

theorem insI_back {k : Int} : ∀ {xs : List ItemD}, xs.Pairwise (fun a b => a.key < b.key) → hasI xs k = true → insI ⟨k, valI xs k⟩ (delI xs k) = xs
  | [], _, h => by simp [hasI] at h
  | y :: r, hp, h => by
    rw [List.pairwise_cons] at hp
    by_cases e : y.key = k
    · have e1 : delI (y :: r) k = r := by
        have : delI (y :: r) k = delI r k := by simp [delI, e]
        rw [this]
        exact delI_none (fun z hz => by have := hp.1 z hz; omega)
      have e2 : valI (y :: r) k = y.val := by simp [valI, e]
      rw [e1, e2, insI_low (fun z hz => by have := hp.1 z hz; dsimp only; omega)]
      obtain ⟨y0, y1⟩ := y
      dsimp only at e
      subst e
      rfl
    · have h' : hasI r k = true := by simpa [hasI, e] using h
      obtain ⟨z, hz, hzk⟩ := hasI_mem.1 h'
      have hlt := hp.1 z hz
      have e1 : delI (y :: r) k = y :: delI r k := by simp [delI, e]
      have e2 : valI (y :: r) k = valI r k := by simp [valI, e]
      rw [e1, e2]
      simp only [insI]
      rw [if_neg (by omega), insI_back hp.2 h']

theorem bk1_act {xs : List ItemD} {a : ActD} (g : Good xs) (ha : actF a = 0) (h : actC xs a = 0) (hk : a.kind ≠ 4) : bk1 (actN xs a) (unA xs a) = xs := by
  obtain ⟨⟨hk1, hk2⟩, _, _⟩ := actF_zero ha
  have put : ∀ v : Int, bk1 (setI xs ⟨a.key, v⟩) (unA xs a) = xs := by
    intro v
    have hd := delI_setI xs ⟨a.key, v⟩
    dsimp only at hd
    unfold bk1 unA
    dsimp only
    split
    · rename_i hh
      unfold setI at hd ⊢
      dsimp only at hd ⊢
      rw [hd]
      exact insI_back g.rise hh
    · rename_i hh
      rw [hd]
      exact delI_has (by simpa using hh)
  unfold actN
  split
  · exact put _
  · split
    · exact put _
    · split
      · rename_i n1 n2 e3
        unfold actC at h
        rw [if_neg n1, if_neg n2, if_pos e3] at h
        have hh : hasI xs a.key = true := by
          by_cases hh : hasI xs a.key = true
          · exact hh
          · rw [if_neg hh] at h; simp at h
        unfold bk1 unA
        dsimp only
        rw [if_pos hh]
        unfold setI
        dsimp only
        rw [delI_delI]
        exact insI_back g.rise hh
      · omega

/-- What was done is taken back without a trace. -/
theorem bkA_unR : ∀ {zs : List ActD} {xs : List ItemD}, xs.length ≤ 8 → Good xs → (∀ a ∈ zs, actF a = 0) → (runA xs zs).1 = 0 → bkA (runA xs zs).2 (unR xs zs) = xs
  | [], xs, _, _, _, _ => rfl
  | a :: r, xs, hl, g, ha, h => by
    simp only [runA, unR] at h ⊢
    by_cases e : actC xs a = 0
    · rw [if_pos e] at h ⊢
      obtain ⟨h1, h2⟩ := act_good hl g (ha a (by simp)) e
      have ih := bkA_unR h1 h2 (fun b hb => ha b (by simp [hb])) h
      by_cases h4 : a.kind = 4
      · rw [if_pos h4, List.nil_append, ih]
        simp [actN, h4]
      · rw [if_neg h4, List.singleton_append]
        simp only [bkA]
        rw [ih]
        exact bk1_act g (ha a (by simp)) e h4
    · rw [if_neg e] at h
      exact absurd h e

theorem valI_none {xs : List ItemD} {k : Int} (h : hasI xs k = false) : valI xs k = 0 := by
  unfold valI
  have : xs.find? (fun x => x.key == k) = none := by
    rw [List.find?_eq_none]
    intro y hy
    simp
    intro e
    rw [hasI_mem.2 ⟨y, hy, e⟩] at h
    simp at h
  rw [this]

theorem unR_parts : ∀ {zs : List ActD} {xs : List ItemD}, xs.length ≤ 8 → Good xs → (∀ a ∈ zs, actF a = 0) → (runA xs zs).1 = 0 → (unR xs zs).length ≤ zs.length ∧ ∀ u ∈ unR xs zs, unF1 u = 0
  | [], xs, _, _, _, _ => by simp [unR]
  | a :: r, xs, hl, g, ha, h => by
    simp only [runA, unR] at h ⊢
    by_cases e : actC xs a = 0
    · rw [if_pos e] at h
      obtain ⟨h1, h2⟩ := act_good hl g (ha a (by simp)) e
      obtain ⟨i1, i2⟩ := unR_parts h1 h2 (fun b hb => ha b (by simp [hb])) h
      have hone : unF1 (unA xs a) = 0 := by
        obtain ⟨_, hy, _⟩ := actF_zero (ha a (by simp))
        have hv := g.valI a.key
        have k1 : inW a.key 1 20 = true := by simp [inW]; omega
        have k2 : inW (valI xs a.key) (-20000) 20000 = true := by simp [inW]; omega
        unfold unF1 unA
        dsimp only
        rw [k1, k2]
        cases hh : hasI xs a.key
        · simp [valI_none hh]
        · simp
      constructor
      · rw [List.length_append, List.length_cons]
        split <;> simp <;> omega
      · intro u hu
        rcases List.mem_append.1 hu with hu | hu
        · split at hu
          · simp at hu
          · simp at hu; rw [hu]; exact hone
        · exact i2 u hu
    · rw [if_neg e] at h
      exact absurd h e

end Go.Proofs.Ytjaoggkpnjkkpaa
