/- The store as plain data: items rising by key, acts done with them; a map that reads as items. No condition. -/
import Derived.Test.YtjaoggkpnjkkpaaMB
import Derived.Maps.OwnSet
import Derived.Maps.Ext
import Derived.Lib.SlKeysI
namespace Go.Proofs.Ytjaoggkpnjkkpaa
open Go.RowKit Go.Maps
set_option linter.unusedVariables false
set_option linter.unusedSimpArgs false

def hasI (xs : List ItemD) (k : Int) : Bool := xs.any (fun x => x.key == k)
def valI (xs : List ItemD) (k : Int) : Int := match xs.find? (fun x => x.key == k) with | some x => x.val | none => 0
def insI (x : ItemD) : List ItemD → List ItemD
  | [] => [x]
  | y :: r => if x.key < y.key then x :: y :: r else y :: insI x r
def delI (xs : List ItemD) (k : Int) : List ItemD := xs.filter (fun y => !(y.key == k))
def setI (xs : List ItemD) (x : ItemD) : List ItemD := insI x (delI xs x.key)

/-- Items that are right, however many. -/
structure Good (xs : List ItemD) : Prop where
  rise : xs.Pairwise (fun a b => a.key < b.key)
  key : ∀ x ∈ xs, 1 ≤ x.key ∧ x.key ≤ 20
  val : ∀ x ∈ xs, -20000 ≤ x.val ∧ x.val ≤ 20000

theorem getD_mem {xs : List ItemD} {k : Nat} (h : k < xs.length) : xs.getD k itemNo ∈ xs := by simp [List.getD, h]

theorem good_of_F {xs : List ItemD} (h : itemsF xs = 0) : xs.length ≤ 8 ∧ Good xs := by
  have h8 : ¬ 8 < xs.length := by
    intro h8
    simp [itemsF, h8] at h
  have hz := firstNZ_zero (itF xs) xs.length (by simpa [itemsF, h8] using h)
  have hw : ∀ j, j < xs.length → (1 ≤ (xs.getD j itemNo).key ∧ (xs.getD j itemNo).key ≤ 20) ∧ (-20000 ≤ (xs.getD j itemNo).val ∧ (xs.getD j itemNo).val ≤ 20000) ∧ prevK xs j < (xs.getD j itemNo).key := by
    intro j hj
    rcases itF_ways xs j with ⟨_, e⟩ | ⟨_, _, e⟩ | ⟨_, _, _, e⟩ | ⟨h1, h2, h3, e⟩
    · rw [hz j hj] at e; simp at e
    · rw [hz j hj] at e; simp at e
    · rw [hz j hj] at e; simp at e
    · simp [inW] at h1 h2
      exact ⟨by simpa using h1, by simpa using h2, by omega⟩
  have hmem : ∀ x ∈ xs, ∃ j, j < xs.length ∧ x = xs.getD j itemNo := by
    intro x hx
    obtain ⟨j, hj, rfl⟩ := List.mem_iff_getElem.1 hx
    exact ⟨j, hj, by simp [List.getD, hj]⟩
  refine ⟨by omega, ?_, ?_, ?_⟩
  · have step : ∀ j, j + 1 < xs.length → (xs.getD j itemNo).key < (xs.getD (j + 1) itemNo).key := by
      intro j hj
      have := (hw (j + 1) hj).2.2
      simpa [prevK] using this
    have far : ∀ d j, j + d + 1 < xs.length → (xs.getD j itemNo).key < (xs.getD (j + d + 1) itemNo).key := by
      intro d
      induction d with
      | zero => intro j hj; exact step j hj
      | succ d ih =>
        intro j hj
        have h1 := ih j (by omega)
        have h2 := step (j + d + 1) (by omega)
        rw [show j + (d + 1) + 1 = j + d + 1 + 1 by omega]
        omega
    rw [List.pairwise_iff_getElem]
    intro i j hi hj hij
    have := far (j - i - 1) i (by omega)
    rw [show i + (j - i - 1) + 1 = j by omega] at this
    simpa [List.getD, hi, hj] using this
  · intro x hx
    obtain ⟨j, hj, rfl⟩ := hmem x hx
    exact (hw j hj).1
  · intro x hx
    obtain ⟨j, hj, rfl⟩ := hmem x hx
    exact (hw j hj).2.1

theorem F_of_good {xs : List ItemD} (hl : xs.length ≤ 8) (g : Good xs) : itemsF xs = 0 := by
  unfold itemsF
  rw [if_neg (by omega)]
  refine firstNZ_none _ _ ?_
  intro j hj
  have hm := getD_mem hj
  have hk := g.key _ hm
  have hv := g.val _ hm
  have hp : prevK xs j < (xs.getD j itemNo).key := by
    unfold prevK
    split
    · omega
    · have := (List.pairwise_iff_getElem.1 g.rise) (j - 1) j (by omega) hj (by omega)
      simpa [List.getD, hj, show j - 1 < xs.length by omega] using this
  have hw := itF_ways xs j
  generalize xs.getD j itemNo = x at hk hv hp hw
  rcases hw with ⟨h1, _⟩ | ⟨_, h2, _⟩ | ⟨_, _, h3, _⟩ | ⟨_, _, _, e⟩
  · simp [inW] at h1; omega
  · simp [inW] at h2; omega
  · omega
  · exact e

theorem mem_insI {x y : ItemD} : ∀ {l : List ItemD}, y ∈ insI x l ↔ y = x ∨ y ∈ l
  | [] => by simp [insI]
  | z :: r => by
    simp only [insI]
    split
    · simp
    · simp only [List.mem_cons, mem_insI (l := r)]
      constructor
      · rintro (h | h | h) <;> simp [h]
      · rintro (h | h | h) <;> simp [h]

theorem insI_rise {x : ItemD} : ∀ {l : List ItemD}, l.Pairwise (fun a b => a.key < b.key) → (∀ y ∈ l, y.key ≠ x.key) → (insI x l).Pairwise (fun a b => a.key < b.key)
  | [], _, _ => by simp [insI]
  | z :: r, h, hne => by
    rw [List.pairwise_cons] at h
    simp only [insI]
    split
    · rename_i hlt
      rw [List.pairwise_cons]
      refine ⟨?_, List.pairwise_cons.2 h⟩
      intro y hy
      rcases List.mem_cons.1 hy with rfl | hy
      · exact hlt
      · have := h.1 y hy; omega
    · rename_i hlt
      rw [List.pairwise_cons]
      refine ⟨?_, insI_rise h.2 (fun y hy => hne y (by simp [hy]))⟩
      intro y hy
      rcases mem_insI.1 hy with rfl | hy
      · have := hne z (by simp); omega
      · exact h.1 y hy

theorem mem_delI {xs : List ItemD} {k : Int} {y : ItemD} : y ∈ delI xs k ↔ y ∈ xs ∧ y.key ≠ k := by simp [delI]

theorem Good.del {xs : List ItemD} (g : Good xs) (k : Int) : Good (delI xs k) :=
  ⟨g.rise.filter _, fun x hx => g.key x (mem_delI.1 hx).1, fun x hx => g.val x (mem_delI.1 hx).1⟩

theorem Good.set {xs : List ItemD} (g : Good xs) {x : ItemD} (hk : 1 ≤ x.key ∧ x.key ≤ 20) (hv : -20000 ≤ x.val ∧ x.val ≤ 20000) : Good (setI xs x) := by
  refine ⟨insI_rise (g.del x.key).rise (fun y hy => (mem_delI.1 hy).2), ?_, ?_⟩
  · intro y hy
    rcases mem_insI.1 hy with rfl | hy
    · exact hk
    · exact g.key y (mem_delI.1 hy).1
  · intro y hy
    rcases mem_insI.1 hy with rfl | hy
    · exact hv
    · exact g.val y (mem_delI.1 hy).1

theorem Good.valI {xs : List ItemD} (g : Good xs) (k : Int) : -20000 ≤ valI xs k ∧ valI xs k ≤ 20000 := by
  unfold Go.Proofs.Ytjaoggkpnjkkpaa.valI
  cases h : xs.find? (fun x => x.key == k) with
  | none => simp
  | some x => exact g.val x (List.mem_of_find?_eq_some h)

/-- Items as the map that holds them reads. -/
def litI (x : ItemD) : Lit × DataW Unit := (.int .i64 x.key, .lit (.int .i64 x.val))
def shelfD (xs : List ItemD) : DataW Unit := .map (xs.map litI)

theorem sameKey_i64 (a b : Int) : (Lit.int .i64 a).sameKey (.int .i64 b) = (a == b) := by
  simp [Lit.sameKey]
  rfl

theorem shelf_size (xs : List ItemD) : Maps.size (shelfD xs) = xs.length := by simp [shelfD, Maps.size_eq]

theorem shelf_has (xs : List ItemD) (k : Int) : Maps.has (shelfD xs) (.int .i64 k) = hasI xs k := by
  rw [shelfD, Maps.has_eq, List.any_map]
  unfold hasI
  congr 1
  funext x
  exact sameKey_i64 x.key k

theorem shelf_at (xs : List ItemD) (k : Int) : (shelfD xs).atKey (.int .i64 k) (.lit (.int .i64 0)) = .lit (.int .i64 (valI xs k)) := by
  unfold shelfD DataW.atKey valI
  dsimp only
  rw [List.find?_map]
  have e : ((fun p : Lit × DataW Unit => p.1.sameKey (.int .i64 k)) ∘ litI) = fun x : ItemD => x.key == k := by
    funext x
    exact sameKey_i64 x.key k
  rw [e]
  cases xs.find? (fun x => x.key == k) <;> rfl

theorem insert_map (x : ItemD) : ∀ l : List ItemD, DataW.insert (litI x) (l.map litI) = (insI x l).map litI
  | [] => rfl
  | y :: r => by
    simp only [List.map_cons, DataW.insert, insI]
    have e : (litI x).1.before (litI y).1 = decide (x.key < y.key) := rfl
    rw [e]
    by_cases h : x.key < y.key
    · simp [h]
    · simp [h, insert_map x r]

theorem filter_litI (xs : List ItemD) (k : Int) : (xs.map litI).filter (fun p => !p.1.sameKey (.int .i64 k)) = (delI xs k).map litI := by
  rw [List.filter_map, delI]
  congr 1
  congr 1
  funext x
  exact congrArg (!·) (sameKey_i64 x.key k)

theorem shelf_put (xs : List ItemD) (k v : Int) : (shelfD xs).put (.int .i64 k) (.lit (.int .i64 v)) = shelfD (setI xs ⟨k, v⟩) := by
  unfold shelfD DataW.put
  dsimp only
  rw [filter_litI, show ((Lit.int .i64 k, DataW.lit (Lit.int .i64 v)) : Lit × DataW Unit) = litI ⟨k, v⟩ from rfl, insert_map]
  rfl

theorem shelf_del (xs : List ItemD) (k : Int) : (shelfD xs).del (.int .i64 k) = shelfD (delI xs k) := by
  unfold shelfD DataW.del
  dsimp only
  rw [filter_litI]

theorem shelf_keys (xs : List ItemD) : intKeys (shelfD xs) = xs.map ItemD.key := by
  simp only [shelfD, intKeys, List.map_map]
  rfl

theorem shelf_tidy {xs : List ItemD} (h : xs.Pairwise (fun a b => a.key < b.key)) : Maps.Tidy (shelfD xs) := by
  refine ⟨_, rfl, ?_⟩
  rw [List.pairwise_map]
  refine h.imp ?_
  intro a b hab e
  simp only [litI, Lit.int.injEq, true_and] at e
  omega

theorem setI_length {xs : List ItemD} (g : Good xs) (x : ItemD) : (setI xs x).length = if hasI xs x.key then xs.length else xs.length + 1 := by
  have := Maps.size_put (k := .int .i64 x.key) (shelf_tidy g.rise) (.lit (.int .i64 x.val))
  rw [shelf_put, shelf_size, shelf_has, shelf_size] at this
  exact this

theorem delI_length (xs : List ItemD) (k : Int) : (delI xs k).length ≤ xs.length := List.length_filter_le _ _

/-- What the model's setting comes to, element by element. -/
def setR (x : ItemD) : Bool → List ItemD → List ItemD
  | d, [] => if d then [] else [x]
  | d, y :: r => (if !d && decide (x.key ≤ y.key) then [x] else []) ++ ((if y.key == x.key then [] else [y]) ++ setR x (d || decide (x.key ≤ y.key)) r)

theorem setR_true (x : ItemD) : ∀ l : List ItemD, setR x true l = delI l x.key
  | [] => rfl
  | y :: r => by
    have ih := setR_true x r
    unfold delI at ih ⊢
    simp only [setR, Bool.not_true, Bool.false_and, Bool.true_or, List.filter_cons, ih]
    cases h : (y.key == x.key) <;> simp

theorem insI_low {x : ItemD} : ∀ {l : List ItemD}, (∀ y ∈ l, x.key < y.key) → insI x l = x :: l
  | [], _ => rfl
  | y :: r, h => by simp [insI, h y (by simp)]

theorem setR_false (x : ItemD) : ∀ {l : List ItemD}, l.Pairwise (fun a b => a.key < b.key) → setR x false l = setI l x
  | [], _ => rfl
  | y :: r, h => by
    rw [List.pairwise_cons] at h
    have ih := setR_false x h.2
    simp only [setR, Bool.not_false, Bool.true_and, Bool.false_or]
    by_cases h1 : y.key = x.key
    · have e : (y.key == x.key) = true := by simp [h1]
      have e2 : decide (x.key ≤ y.key) = true := by simp [h1]
      rw [e, e2, setR_true]
      unfold setI
      have e3 : delI (y :: r) x.key = delI r x.key := by simp [delI, h1]
      rw [e3, insI_low (fun z hz => by have := h.1 z (mem_delI.1 hz).1; omega)]
      simp
    · have e : (y.key == x.key) = false := by simp [h1]
      have e3 : delI (y :: r) x.key = y :: delI r x.key := by simp [delI, h1]
      by_cases h2 : x.key ≤ y.key
      · have e2 : decide (x.key ≤ y.key) = true := by simp [h2]
        rw [e, e2, setR_true]
        unfold setI
        rw [e3]
        simp [insI, show x.key < y.key by omega]
      · have e2 : decide (x.key ≤ y.key) = false := by simp [h2]
        rw [e, e2, ih]
        unfold setI
        rw [e3]
        simp [insI, show ¬ x.key < y.key by omega]

/-- A number laid at a key: the code. -/
def layC (xs : List ItemD) (k v : Int) : Int := if inW v (-20000) 20000 = false then 3 else if hasI xs k = false ∧ 8 ≤ xs.length then 7 else 0
/-- An act done: the code, and what is there then. -/
def actC (xs : List ItemD) (a : ActD) : Int :=
  if a.kind = 1 then layC xs a.key a.val else if a.kind = 2 then layC xs a.key (valI xs a.key + a.val)
  else if a.kind = 3 then (if hasI xs a.key = true then 0 else 4) else (if hasI xs a.key = true ∧ valI xs a.key = a.val then 0 else 9)
def actN (xs : List ItemD) (a : ActD) : List ItemD :=
  if a.kind = 1 then setI xs ⟨a.key, a.val⟩ else if a.kind = 2 then setI xs ⟨a.key, valI xs a.key + a.val⟩ else if a.kind = 3 then delI xs a.key else xs

theorem actF_zero {a : ActD} (h : actF a = 0) : (1 ≤ a.kind ∧ a.kind ≤ 4) ∧ (1 ≤ a.key ∧ a.key ≤ 20) ∧ (-1000 ≤ a.val ∧ a.val ≤ 1000) := by
  obtain ⟨k, y, v⟩ := a
  rcases actF_ways k y v with ⟨_, e⟩ | ⟨_, _, _, e⟩ | ⟨h1, _, ⟨_, e⟩ | ⟨_, _, e⟩ | ⟨h4, h5, _⟩⟩
  · rw [h] at e; simp at e
  · rw [h] at e; simp at e
  · rw [h] at e; simp at e
  · rw [h] at e; simp at e
  · simp [inW] at h1 h4 h5
    exact ⟨h1, h4, h5⟩

theorem lay_good {xs : List ItemD} {k v : Int} (hl : xs.length ≤ 8) (g : Good xs) (hk : 1 ≤ k ∧ k ≤ 20) (h : layC xs k v = 0) : (setI xs ⟨k, v⟩).length ≤ 8 ∧ Good (setI xs ⟨k, v⟩) := by
  unfold layC at h
  split at h
  · simp at h
  · rename_i hv
    split at h
    · simp at h
    · rename_i hh
      simp [inW] at hv
      refine ⟨?_, g.set hk (by simpa using hv)⟩
      rw [setI_length g]
      dsimp only
      cases e : hasI xs k
      · simp [e] at hh ⊢; omega
      · simp; omega

theorem act_good {xs : List ItemD} {a : ActD} (hl : xs.length ≤ 8) (g : Good xs) (ha : actF a = 0) (h : actC xs a = 0) : (actN xs a).length ≤ 8 ∧ Good (actN xs a) := by
  obtain ⟨hk, hy, hv⟩ := actF_zero ha
  unfold actC at h
  unfold actN
  split
  · rename_i e; rw [if_pos e] at h; exact lay_good hl g hy h
  · rename_i e; rw [if_neg e] at h
    split
    · rename_i e; rw [if_pos e] at h; exact lay_good hl g hy h
    · split
      · exact ⟨Nat.le_trans (delI_length _ _) hl, g.del _⟩
      · exact ⟨hl, g⟩

/-- Acts done one by one, up to the first code. -/
def runA : List ItemD → List ActD → Int × List ItemD
  | xs, [] => (0, xs)
  | xs, a :: r => if actC xs a = 0 then runA (actN xs a) r else (actC xs a, [])

theorem run_good : ∀ {zs : List ActD} {xs : List ItemD}, xs.length ≤ 8 → Good xs → (∀ a ∈ zs, actF a = 0) → (runA xs zs).1 = 0 → (runA xs zs).2.length ≤ 8 ∧ Good (runA xs zs).2
  | [], xs, hl, g, _, _ => ⟨hl, g⟩
  | a :: r, xs, hl, g, ha, h => by
    simp only [runA] at h ⊢
    by_cases e : actC xs a = 0
    · rw [if_pos e] at h ⊢
      obtain ⟨h1, h2⟩ := act_good hl g (ha a (by simp)) e
      exact run_good h1 h2 (fun b hb => ha b (by simp [hb])) h
    · rw [if_neg e] at h
      exact absurd h e

theorem acts_of_F {i s q : Int} {zs : List ActD} (h : txnF i s q zs = 0) : (1 ≤ zs.length ∧ zs.length ≤ 4) ∧ ∀ a ∈ zs, actF a = 0 := by
  rcases txnF_ways i s q zs with ⟨_, e⟩ | ⟨_, _, e⟩ | ⟨_, _, _, e⟩ | ⟨_, _, _, ⟨_, e⟩ | ⟨_, e⟩ | ⟨h4, h5, e⟩⟩
  · rw [h] at e; simp at e
  · rw [h] at e; simp at e
  · rw [h] at e; simp at e
  · rw [h] at e; simp at e
  · rw [h] at e; simp at e
  · refine ⟨by omega, ?_⟩
    rw [h] at e
    have : ∀ l : List ActD, actsF l = 0 → ∀ a ∈ l, actF a = 0 := by
      intro l
      induction l with
      | nil => simp
      | cons x r ih =>
        intro h0 a ha
        simp only [actsF] at h0
        by_cases hx : actF x = 0
        · rw [if_pos hx] at h0
          rcases List.mem_cons.1 ha with rfl | ha
          · exact hx
          · exact ih h0 a ha
        · rw [if_neg hx] at h0; exact absurd h0 hx
    exact this zs e.symm

end Go.Proofs.Ytjaoggkpnjkkpaa
