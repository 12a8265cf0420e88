/- The fault of a batch, of the program: Ids are sorted, and of equal neighbours one stays. -/
import Derived.Test.YtmlkfmjenkcflaaGreatDoorM6a
import Derived.Test.YtmlkfmjenkcflaaGreatDoorGF
import Derived.Test.YtmlkfmjenkcflaaGreatDoorLay6
import Derived.Sort.EveryDepth
namespace Go.Proofs.YtmlkfmjenkcflaaGreatDoor
open Go.RowKit
open Go.BigFrame
open Go.Sort
set_option linter.unusedVariables false
set_option maxRecDepth 100000
set_option linter.unusedSimpArgs false

theorem sorted_nodup : ∀ (L : List Int), L.Pairwise (· ≤ ·) → (∀ j, j + 1 < L.length → L.getD (j + 1) 0 ≠ L.getD j 0) → L.Nodup
  | [], _, _ => List.nodup_nil
  | [a], _, _ => by simp
  | a :: b :: t, hs, hadj => by
    rw [List.pairwise_cons] at hs
    have hab : a ≠ b := fun e => hadj 0 (by simp) (by simpa using e.symm)
    have ih := sorted_nodup (b :: t) hs.2 (fun j hj => by simpa using hadj (j + 1) (by simpa using hj))
    rw [List.nodup_cons]
    refine ⟨fun hm => ?_, ih⟩
    have h1 := hs.1 b (by simp)
    rcases List.mem_cons.1 hm with h | h
    · exact hab h
    · have h2 := (List.pairwise_cons.1 hs.2).1 a h
      omega
theorem getB (L : List Int) (j : Nat) : L.toArray[j]! = L.getD j 0 := by
  rw [List.getElem!_toArray]
  by_cases h : j < L.length
  · rw [getElem!_pos L j h]; simp [List.getD, h]
  · rw [getElem!_neg L j h]; simp [List.getD, List.getElem?_eq_none (show L.length ≤ j by omega)]
/-- Of equal neighbours one stays: nothing goes just where none stands twice. -/
theorem compact_len (L : List Int) (hs : L.Pairwise (· ≤ ·)) : (L.Nodup → (Lib.compact L).length = L.length) ∧ (¬ L.Nodup → (Lib.compact L).length < L.length) := by
  constructor
  · intro h
    rw [Lib.compact_all]
    intro j hj
    unfold Lib.keeps
    rw [decide_eq_true_eq, getB, getB]
    by_cases h0 : j = 0
    · exact Or.inl h0
    · right
      intro e
      have e1 : L.getD j 0 = L[j] := by simp [List.getD, hj]
      have e2 : L.getD (j - 1) 0 = L[j - 1]'(by omega) := by simp [List.getD, show j - 1 < L.length by omega]
      rw [e1, e2] at e
      exact List.pairwise_iff_getElem.1 h (j - 1) j (by omega) hj (by omega) e.symm
  · intro h
    have hex : ∃ j, j + 1 < L.length ∧ L.getD (j + 1) 0 = L.getD j 0 := by
      apply Classical.byContradiction
      intro hn
      exact h (sorted_nodup L hs (fun j hj e => hn ⟨j, hj, e⟩))
    obtain ⟨j, hj, e⟩ := hex
    unfold Lib.compact Lib.compactUpTo
    rw [List.length_map]
    have := (List.length_filter_lt_length_iff_exists (p := Lib.keeps L.toArray) (l := List.range L.length)).2 ⟨j + 1, List.mem_range.2 hj, by
      unfold Lib.keeps
      rw [decide_eq_true_eq, getB, getB]
      rintro (h | h)
      · omega
      · exact h (by simpa using e)⟩
    rwa [List.length_range] at this

/-- A row that is written over in place. -/
theorem own_put {w w' : World} {base g n cap q : Nat} {zs ys : List Int} {os : Array Obj} (h : w.ownsRow base 2 1 (.slice (some ⟨g, 0, none⟩) n cap) n (zs.map (Value.int .i64))) (hl : ys.length = n)
    (hw : w' = grow (putRow (Value.int .i64) (Sort.ahead w q) g 0 ys.toArray) os) : w'.ownsRow base 2 1 (.slice (some ⟨g, 0, none⟩) n cap) n (ys.map (Value.int .i64)) ∧ Out [g] w w' := by
  rcases h.2 with ⟨he, hn⟩ | ⟨g', cap', cur, he, hb, hh, h1, h2, h3, h4⟩
  · simp at he
  · simp only [Value.slice.injEq, Option.some.injEq, Addr.mk.injEq, and_true, true_and] at he
    obtain ⟨rfl, rfl⟩ := he
    have hlt : g < w.heap.size := (Array.getElem?_eq_some_iff.1 hh).1
    have hsz : (putRow (Value.int .i64) (Sort.ahead w q) g 0 ys.toArray).heap.size = w.heap.size := by simp
    have hblk : ∀ k, k < w.heap.size → w'.heap[k]? = (putRow (Value.int .i64) (Sort.ahead w q) g 0 ys.toArray).heap[k]? := fun k hk => by
      rw [hw]
      exact Array.getElem?_append_left (by rw [hsz]; exact hk)
    have hg : w'.heap[g]? = some (.cells (putCells (Value.int .i64) 0 ys.toArray cur) 2 (0, 0)) := by
      rw [hblk g hlt]
      show (w.heap.modify g _)[g]? = _
      rw [Array.getElem?_modify, if_pos rfl, hh]
      rfl
    have hcs : (putCells (Value.int .i64) 0 ys.toArray cur).size = cur.size := by simp [putCells]
    refine ⟨⟨by simp [hl], Or.inr ⟨g, cap, _, rfl, hb, hg, h1, h2, by rw [hcs]; exact h3, ?_⟩⟩, ?_⟩
    · apply List.ext_getElem?
      intro j
      by_cases hj : j < n
      · rw [List.getElem?_take, if_pos (by omega), Array.getElem?_toList]
        simp only [putCells, Array.getElem?_mapIdx]
        rw [Array.getElem?_eq_getElem (by omega), Option.map_some, if_pos ⟨Nat.zero_le _, by rw [List.size_toArray]; omega⟩]
        simp only [Nat.sub_zero]
        rw [getB, List.getElem?_map, List.getElem?_eq_getElem (by omega)]
        simp [List.getD, show j < ys.length by omega]
      · rw [List.getElem?_eq_none (by simp; omega), List.getElem?_eq_none (by simp; omega)]
    · refine ⟨by rw [hw]; rfl, by rw [hw]; rfl, by rw [hw]; rfl, ?_, fun k hk hn => ?_⟩
      · rw [hw]
        show w.heap.size ≤ (_ ++ os).size
        rw [Array.size_append, hsz]
        omega
      · rw [hblk k hk]
        show (w.heap.modify g _)[k]? = _
        rw [Array.getElem?_modify, if_neg (fun e => hn (by simp [e]))]
theorem holds_own {w : World} {base g n cap : Nat} {zs : List Int} (h : w.ownsRow base 2 1 (.slice (some ⟨g, 0, none⟩) n cap) n (zs.map (Value.int .i64))) : Holds (Value.int .i64) w g 0 zs.toArray ∧ g < w.heap.size ∧ n ≤ cap := by
  have hl : zs.length = n := by have := h.1; simpa using this
  refine ⟨fun j hj => ?_, ?_, own_cap6 h⟩
  · rw [List.size_toArray] at hj
    refine ⟨?_, h.frozenAt _⟩
    rw [Nat.zero_add, h.cellAt j (by omega), getB]
    simp [List.getD, hj]
  · exact (h.lt g rfl).2

theorem sort6_any (g cap base : Nat) (zs : List Int) (w : World) (h : w.ownsRow base 2 1 (.slice (some ⟨g, 0, none⟩) zs.length cap) zs.length (zs.map (Value.int .i64))) (hl : zs.length ≤ 60) :
    Calls Tryz.prog 68 #[.slice (some ⟨g, 0, none⟩) zs.length cap] w fun e w' => e = .returned (.tuple #[]) ∧ ∃ ys : List Int, ys.Perm zs ∧ ys.Pairwise (· ≤ ·) ∧ w'.ownsRow base 2 1 (.slice (some ⟨g, 0, none⟩) zs.length cap) zs.length (ys.map (Value.int .i64)) ∧ Out [g] w w' := by
  obtain ⟨hH, hlt, hc⟩ := holds_own h
  refine (AnyM.slices_Sort_int shSort g 0 cap zs w hH hlt (by omega)).mono ?_
  rintro e w' ⟨rfl, q, os, hw⟩
  obtain ⟨o, u⟩ := own_put h (by rw [List.length_mergeSort]) hw
  refine ⟨rfl, _, List.mergeSort_perm _ _, ?_, o, u⟩
  have := List.pairwise_mergeSort (le := fun (x y : Int) => decide (x ≤ y)) (fun a b c h1 h2 => by simp only [decide_eq_true_eq] at *; omega) (fun a b => by simp only [Bool.or_eq_true, decide_eq_true_eq]; omega) zs
  exact this.imp (fun h => by simpa using h)

theorem compact6_any (g cap base : Nat) (zs : List Int) (w : World) (h : w.ownsRow base 2 1 (.slice (some ⟨g, 0, none⟩) zs.length cap) zs.length (zs.map (Value.int .i64))) (hl : zs.length ≤ 60) :
    Calls Tryz.prog 69 #[.slice (some ⟨g, 0, none⟩) zs.length cap] w fun e w' => e = .returned (.slice (some ⟨g, 0, none⟩) (Lib.compact zs).length cap) ∧ Out [g] w w' := by
  obtain ⟨hH, hlt, hc⟩ := holds_own h
  refine (calls_of_every_depth fun D => AnySG.slices_Compact_int_in shComp D g 0 cap zs w hH (by omega) hc).mono ?_
  rintro e w' ⟨rfl, q, hw⟩
  have hle : (Lib.compact zs).length ≤ zs.length := by
    unfold Lib.compact Lib.compactUpTo
    rw [List.length_map]
    exact Nat.le_trans (List.length_filter_le _ _) (by simp)
  exact ⟨rfl, (own_put (ys := Lib.compact zs ++ List.replicate (zs.length - (Lib.compact zs).length) 0) (os := #[]) h (by simp only [List.length_append, List.length_replicate]; omega) (by rw [hw, grow_empty])).2⟩

set_option maxHeartbeats 2000000 in
theorem batchFault_any (v : Value) (ds : List TxnD) (w : World) (h : TxnsAt w v ds) (hl : ds.length + sumA ds ≤ 1048576) :
    Calls Tryz.prog 57 #[v] w fun e w' => e = .returned (.int .i64 (batF ds)) ∧ Below w.heap.size w w' := by
  have hid := implIdsOf_any v ds w h hl
  obtain ⟨a, cap, rfl⟩ := h.shape
  by_cases hlo : ds.length < 1
  · rw [batF_many (Or.inl hlo)]
    clear hid
    go_enter Tryz.func57, Tryz.ntmps57
    go_wp2
    go_ret
    exact ⟨rfl, Below.refl _ _⟩
  · by_cases hhi : 4 < ds.length
    · rw [batF_many (Or.inr hhi)]
      clear hid
      go_enter Tryz.func57, Tryz.ntmps57
      go_wp2
      go_ret
      exact ⟨rfl, Below.refl _ _⟩
    · have HB : Hid (batF ds = if allF ds = 0 then (if (ds.map TxnD.id).Nodup then 0 else 6) else allF ds) := batF_few (by omega)
      generalize batF ds = E at HB ⊢
      have hC : idsC ds = allF ds := if_neg (by omega)
      have hlo' : 1 ≤ ds.length := by omega
      have hhi' : ds.length ≤ 4 := by omega
      clear hlo hhi
      rw [hC] at hid
      have hR : allF ds = 0 → idsR ds = ds.map TxnD.id := fun h0 => by
        unfold idsR
        rw [if_pos (by rw [hC]; exact h0)]
      have hRl : (idsR ds).length ≤ 4 := Nat.le_trans (idsR_le ds) hhi'
      have HID : Hid (allF ds = 0 → (idsR ds).length = ds.length ∧ (E = if (idsR ds).Nodup then 0 else 6)) := fun h0 => by
        rw [hR h0]
        refine ⟨by simp, ?_⟩
        have := HB.out
        rw [if_pos h0] at this
        exact this
      have HNE : Hid (allF ds ≠ 0 → E = allF ds) := fun h0 => by
        have := HB.out
        rw [if_neg h0] at this
        exact this
      clear HB hR hC
      generalize idsR ds = L at *
      generalize allF ds = C at *
      go_enter Tryz.func57, Tryz.ntmps57
      go_wp2_with fail
      refine hid.mono ?_
      rintro e w1 ⟨b, c, rfl, ho, hb1⟩
      clear hid
      have B := Blk.new w1 114 #[.int .i64 C, .slice b L.length c]
      have hb2 := hb1.alloc hb1.size (.cells #[.int .i64 C, .slice b L.length c] 114)
      by_cases h0 : C = 0
      · subst h0
        obtain ⟨hLn, hE⟩ := HID.out rfl
        have HE : Hid (E = if L.Nodup then 0 else 6) := hE
        have HL : Hid (L.length = ds.length) := hLn
        have ho2 := own_below ho ((Below.refl w1.heap.size w1).alloc (Nat.le_refl _) (.cells #[.int .i64 0, .slice b L.length c] 114))
        obtain ⟨g, hg⟩ : ∃ g, b = some ⟨g, 0, none⟩ := by
          rcases ho.2 with ⟨_, hn⟩ | ⟨g, _, _, he, _⟩
          · omega
          · simp only [Value.slice.injEq] at he
            exact ⟨g, he.1⟩
        subst hg
        have hgl := ho.lt g rfl
        have hst := sort6_any g c _ L _ ho2 (by omega)
        clear HID HNE hE hLn ho ho2
        go_wp2_with fail
        generalize w1.alloc (.cells #[.int .i64 0, .slice (some ⟨g, 0, none⟩) L.length c] 114) = W at *
        refine hst.mono ?_
        rintro e w3 ⟨rfl, ys, hperm, hsort, o3, u3⟩
        have hyl : ys.length = L.length := hperm.length_eq
        have HC : Hid (((Lib.compact ys).length < L.length → E = 6) ∧ (¬ (Lib.compact ys).length < L.length → E = 0)) := by
          obtain ⟨c1, c2⟩ := compact_len ys hsort
          have hnd := hperm.nodup_iff
          refine ⟨fun hx => ?_, fun hx => ?_⟩
          · have hn : ¬ ys.Nodup := fun hn => by have := c1 hn; omega
            rw [HE.out, if_neg (fun e => hn (hnd.2 e))]
          · have hn : ys.Nodup := Classical.byContradiction (fun hn => hx (by have := c2 hn; omega))
            rw [HE.out, if_pos (hnd.1 hn)]
        have hcp := compact6_any g c _ ys w3 (by rw [hyl]; exact o3) (by omega)
        rw [hyl] at hcp
        have hne : w1.heap.size ≠ g := by omega
        have B3 : Blk w3 w1.heap.size 114 #[.int .i64 0, .slice (some ⟨g, 0, none⟩) L.length c] := (u3.block _ B.lt (by simp only [List.mem_singleton]; exact hne)).trans B
        have hb3 : Below w.heap.size w w3 := Out.keep hb2 u3 hb2.size (fun k hk => by simp only [List.mem_singleton] at hk; omega)
        have p1 := B3.cell 1 _ rfl
        generalize (Lib.compact ys).length = m at *
        clear hst HE o3 u3 B hperm hsort hyl hb1 hb2
        go_wp2_with fail
        refine hcp.mono ?_
        rintro e w4 ⟨rfl, u4⟩
        have hb4 : Below w.heap.size w w4 := Out.keep hb3 u4 hb3.size (fun k hk => by simp only [List.mem_singleton] at hk; omega)
        clear hcp u4 B3 hb3 p1
        have hLd := HL.out
        by_cases hm : m < ds.length
        · have E2 : Hid (E = 6) := HC.out.1 (by omega)
          clear HC
          go_wp2
          go_ret
          exact ⟨by rw [E2.out]; rfl, hb4⟩
        · have E2 : Hid (E = 0) := HC.out.2 (by omega)
          clear HC
          go_wp2
          go_ret
          exact ⟨by rw [E2.out]; rfl, hb4⟩
      · have E2 : Hid (E = C) := HNE.out h0
        have h0' : (C != 0) = true := by simpa using h0
        clear HID HNE h0 ho
        go_wp2
        go_ret
        exact ⟨by rw [E2.out]; rfl, hb2⟩

end Go.Proofs.YtmlkfmjenkcflaaGreatDoor
