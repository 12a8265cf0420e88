/- The program's shelf told as items, rising by key: slices.Sorted over maps.Keys, then one by one. No condition. -/
import Derived.Test.YtjaoggkpnjkkpaaS3m
namespace Go.Proofs.Ytjaoggkpnjkkpaa
open Go.RowKit Go.Maps Go.Sort Go.Shelf
set_option linter.unusedVariables false
set_option linter.unusedSimpArgs false

theorem sorts3 (m : Nat) : AnyZI.SortsIn Try.prog shSorted_ren Fence.wide m :=
  ⟨fun blk off cap ss W hH hblk hsz => callsIn_wide.2 (AnyM.slices_Sort_int shSort blk off cap ss W hH hblk hsz), fun p cap W => callsIn_wide.2 (AnyM.slices_Sort_int_none shSort p cap W)⟩

theorem keys3 (mb : Option Nat) (W : World) : Calls Try.prog 84 #[.map mb] W fun e w' => e = .returned (.func (.func 100) #[] #[.pointer (some ⟨W.heap.size, 0, none⟩)]) ∧ w' = W.alloc (.cells #[.map mb] 76) :=
  (callsIn_wide (n := 5)).1 (AnyZI.keys_in shKeys Fence.wide 5 trivial rfl mb W)

theorem sort_rise {xs : List ItemD} (g : Good xs) {ss : List Int} (h : ss.Perm (xs.map ItemD.key)) : ss.mergeSort (fun x y => decide (x ≤ y)) = xs.map ItemD.key := by
  have tr : ∀ a b c : Int, leI a b = true → leI b c = true → leI a c = true := fun a b c h1 h2 => by simp only [leI, decide_eq_true_eq] at *; exact Int.le_trans h1 h2
  have to : ∀ a b : Int, (leI a b || leI b a) = true := fun a b => by simp only [leI, Bool.or_eq_true, decide_eq_true_eq]; exact Int.le_total a b
  refine List.Perm.eq_of_pairwise (le := fun a b => leI a b = true) (fun a b _ _ h1 h2 => ?_) (List.pairwise_mergeSort tr to ss) ?_ ((List.mergeSort_perm ss leI).trans h)
  · simp only [leI, decide_eq_true_eq] at h1 h2
    omega
  · rw [List.pairwise_map]
    exact g.rise.imp (fun h => by simp only [leI, decide_eq_true_eq]; omega)

set_option maxHeartbeats 1000000 in
theorem sorted3 (b : Nat) (xs : List ItemD) (w : World) (h : ShelfAt w b xs) (hl : xs.length ≤ 8) (g : Good xs) :
    Calls Try.prog 83 #[.func (.func 100) #[] #[.pointer (some ⟨w.heap.size, 0, none⟩)]] (w.alloc (.cells #[.map (some b)] 76)) fun e w' => ∃ a c, e = .returned (.slice a xs.length c) ∧
      w'.ownsRow (w.heap.size + 1) 2 1 (.slice a xs.length c) xs.length ((xs.map ItemD.key).map (Value.int .i64)) ∧ Below w.heap.size w w' := by
  have hbl := h.lt
  have hseq : SeqGives Fence.wide 2 Try.prog 100 #[.pointer (some ⟨w.heap.size, 0, none⟩)] encZ (fun ss => ss.Perm (intKeys (shelfD xs))) (Maps.size (shelfD xs)) (w.alloc (.cells #[.map (some b)] 76)) :=
    AnyZI.keys_gives (ρ := shKeys_ren) { shKeys with } Fence.wide _ trivial rfl (by omega) w.heap.size b xs.length (shelfD xs) _ (by simp) (by simp) (by
      obtain ⟨es, clock, hb, Ft, hs, hD⟩ := h
      exact ⟨es, clock, (Below.heap_alloc _ _ b hbl).trans hb, Ft, hs, hD⟩)
  have hz := shelf_size xs
  have cS := AnyZI.sorted_in shSorted Fence.wide 5 trivial trivial trivial trivial rfl (by omega) (sorts3 _) (enters_of Try.func99 (by kernel_rfl) rfl) 100 #[.pointer (some ⟨w.heap.size, 0, none⟩)] trivial (enters_of Try.func100 (by kernel_rfl) rfl) _ _ (by rw [hz]; unfold maxLen; omega) (by rw [hz]; omega) _ hseq
  change CallsIn _ _ Try.prog 83 _ _ _ at cS
  refine ((callsIn_wide (n := 5)).1 cS).mono ?_
  rintro e w' ⟨v, ss, rfl, hS, hrow, hnil, hb⟩
  rw [shelf_keys] at hS
  rw [sort_rise g hS] at hrow
  have hlen : ss.length = xs.length := by simpa using hS.length_eq
  rw [hlen] at hrow
  obtain ⟨a, c, rfl⟩ := own_shape hrow
  refine ⟨a, c, rfl, ?_, ?_⟩
  · rw [World.size_alloc] at hrow
    exact hrow
  · exact ((Below.refl _ w).alloc (Nat.le_refl _) _).trans (hb.mono (by simp))

theorem valI_at {xs : List ItemD} (g : Good xs) {k : Nat} (hk : k < xs.length) : valI xs (xs.getD k itemNo).key = (xs.getD k itemNo).val := by
  have e : xs.getD k itemNo = xs[k] := by simp [List.getD, hk]
  have hf : xs.find? (fun x => x.key == (xs.getD k itemNo).key) = some (xs.getD k itemNo) := by
    rw [List.find?_eq_some_iff_getElem]
    refine ⟨by simp, k, hk, e.symm, ?_⟩
    intro j hj
    have := (List.pairwise_iff_getElem.1 g.rise) j k (by omega) hk hj
    rw [e]
    simp
    omega
  unfold valI
  rw [hf]

set_option maxRecDepth 100000 in
set_option maxHeartbeats 1000000 in
theorem items_any (b : Nat) (xs : List ItemD) (w : World) (h : ShelfAt w b xs) (hl : xs.length ≤ 8) (g : Good xs) :
    Calls Try.prog 53 #[.map (some b)] w fun e w' => ∃ a c, e = .returned (.slice a xs.length c) ∧
      w'.ownsRow w.heap.size 94 2 (.slice a xs.length c) xs.length (itemCells xs) ∧ Below w.heap.size w w' := by
  obtain ⟨i0, hi, hz0, hz1, hz2⟩ := info_parts infoItem
  have cS := sorted3 b xs w h hl g
  go_enter Try.func53, Try.ntmps53
  go_wp2_with (first | (go_at_call 84; refine (keys3 _ _).mono ?_; rintro e w' ⟨rfl, rfl⟩) | (go_at_call 83; refine cS.mono ?_; rintro e w1 ⟨ka, kc, rfl, hko, hb1⟩))
  clear cS
  have hR : Row .i64 w1 ka (xs.map ItemD.key) := Row.own (zs := xs.map ItemD.key) (by simpa using hko)
  have h1 := h.below hb1
  clear hko
  go_loopw [3, 10] (fun v i wr => ∃ k : Nat, k ≤ xs.length ∧ i = .int .i64 k ∧ wr.ownsRow w1.heap.size 94 2 v k (itemCells (xs.take k)) ∧ Below w1.heap.size w1 wr) (fun _ i _ => xs.length - (intOf i).toNat)
  case atStart => exact ⟨0, Nat.zero_le _, rfl, World.ownsRow_nil _ _ _ _, Below.refl _ _⟩
  case round =>
    obtain ⟨k, hk, rfl, ho, hb⟩ := hrel
    obtain ⟨a1, c1, rfl⟩ := own_shape ho
    have hsz := hb.size
    by_cases hlt : k < xs.length
    · obtain ⟨bb, off, rfl, hbs, hc⟩ := (hR.below hb) k (by simpa using hlt)
      have ek : (xs.map ItemD.key).getD k 0 = (xs.getD k itemNo).key := by simp [List.getD, hlt]
      rw [ek] at hc
      have hsh := h1.below hb
      have HS : Hid (xs.take (k + 1) = xs.take k ++ [xs.getD k itemNo]) := by
        have e : xs.getD k itemNo = xs[k] := by simp [List.getD, hlt]
        show _ = _
        rw [List.take_succ_eq_append_getElem hlt, e]
      have hgk := g.key _ (getD_mem hlt)
      have hva := valI_at g hlt
      have hlook : ∀ (ops : Array Oper) (rest : List Oper) (o : Oper) (a : Act) (Q : Exit → Act → World → Prop) (hg : o.guard = none) (m x : Operand) (hop : o.op = Op.lookup 76 m x false) (hm : a.eval m = .map (some b)) (hx : a.eval x = .int .i64 (xs.getD k itemNo).key) (hK : wpList Try.prog ops Q rest (a.put o.dst (.int .i64 (xs.getD k itemNo).val)) wr), wpList Try.prog ops Q (o :: rest) a wr :=
        fun ops rest o a Q hg m x hop hm hx hK => wpList_shelf_at wr hg m x hop b xs hm hsh _ hx (by omega) (by rw [hva]; exact hK)
      clear hva hsh
      generalize xs.getD k itemNo = z at hc HS hgk hlook
      obtain ⟨z0, z1⟩ := z
      dsimp only at hc hgk hlook
      have hW2 : Below w1.heap.size wr (wr.alloc (.cells #[.int .i64 z0, .int .i64 z1] 94)) := (Below.refl _ _).alloc (by omega) _
      have ho2 := ho.alloc (.cells #[.int .i64 z0, .int .i64 z1] 94)
      go_wp2_with (first | (at_lookup; refine hlook _ _ _ _ _ rfl _ _ rfl rfl rfl ?_) | (at_builtin; refine wpList_append_own _ rfl _ _ 24 rfl w1.heap.size 94 i0 (.agg #[.int .i64 0, .int .i64 0]) 2 16 Try.underlying24 hi hz0 hz1 hz2 rfl (by decide) _ k (itemCells (xs.take k)) rfl ho2 ⟨wr.heap.size, 0, none⟩ 1 1 [.int .i64 z0, .int .i64 z1] rfl rfl ?c1 ?c2 ?c3 ?c4 ?c5 ?_))
      all_goals try
        (case c1 => intro j u hj; match j, hj with | 0, hj => simp at hj; subst hj; simp [Addr.add] | 1, hj => simp at hj; subst hj; simp [Addr.add])
      all_goals try (case c2 => first | rfl | (intro u hu; simp at hu; rcases hu with rfl | rfl <;> rfl))
      all_goals try (case c3 => unfold maxLen; omega)
      all_goals try (case c4 => omega)
      all_goals try (case c5 => first | omega | (simp; omega))
      intro v' w3 hown hgrow _
      obtain ⟨a2, c2, rfl⟩ := own_shape hown
      have hW3 : Below w1.heap.size wr w3 := hW2.grown hgrow (by simp; omega) (fun j hj => (ho.lt j hj).1)
      have R : Hid (w3.ownsRow w1.heap.size 94 2 (.slice a2 (k + 1) c2) (k + 1) (itemCells (xs.take (k + 1))) ∧ Below w1.heap.size w1 w3) := ⟨by rw [HS.out]; simpa [itemCells, ItemD.cells] using hown, hb.trans hW3⟩
      clear hW2 hgrow ho2 ho hown hW3
      go_wp2
      go_roundw
      case rel => exact ⟨k + 1, by omega, by go_num, R.out.1, R.out.2⟩
      case measure => simp [intOf]; omega
    · have hkl : k = xs.length := by omega
      subst hkl
      rw [List.take_length] at ho
      go_wp2
      go_ret
      exact ⟨_, _, rfl, own_base ho hb1.size, below_from hb1 hb⟩

end Go.Proofs.Ytjaoggkpnjkkpaa
