/- Taking back all of several lists, as plain data; the copy of a list of items. No condition. -/
import Derived.Test.YtjaoggkpnjkkpaaS4t
import Derived.Test.YtjaoggkpnjkkpaaS3c
import Derived.Test.YtjaoggkpnjkkpaaD4s
import Derived.Laws.CopyRow
namespace Go.Proofs.Ytjaoggkpnjkkpaa
open Go.RowKit Go.Maps
set_option linter.unusedVariables false
set_option linter.unusedSimpArgs false

/-- One list more is taken back. -/
def tkS (p : Int × List ItemD) (u : List UndoD) : Int × List ItemD := if p.1 = 0 then (tbC p.2 u, tbI p.2 u) else (p.1, [])
def tkF (xs : List ItemD) (l : List (List UndoD)) : Int × List ItemD := l.foldl tkS (0, xs)

theorem taR_tkF (xs : List ItemD) : ∀ l, taR xs l = tkF xs l.reverse
  | [] => rfl
  | u :: r => by
    have ih := taR_tkF xs r
    unfold tkF at ih ⊢
    rw [List.reverse_cons, List.foldl_append, ← ih]
    rfl

theorem tkF_snoc (xs : List ItemD) (l : List (List UndoD)) (u : List UndoD) : tkF xs (l ++ [u]) = tkS (tkF xs l) u := by simp [tkF, List.foldl_append]

theorem tbI_bad {xs : List ItemD} {us : List UndoD} (h : tbC xs us ≠ 0) : tbI xs us = [] := by simp [tbI, h]

theorem taR_bad {xs : List ItemD} : ∀ {l : List (List UndoD)}, (taR xs l).1 ≠ 0 → (taR xs l).2 = []
  | [], h => by simp [taR] at h
  | u :: r, h => by
    simp only [taR] at h ⊢
    by_cases e : (taR xs r).1 = 0
    · rw [if_pos e] at h ⊢
      exact tbI_bad h
    · rw [if_neg e]

theorem taR_drop {xs : List ItemD} : ∀ (l : List (List UndoD)) (m : Nat), (taR xs (l.drop m)).1 ≠ 0 → taR xs l = ((taR xs (l.drop m)).1, [])
  | [], m, h => by simp [taR] at h
  | u :: r, 0, h => by
    rw [List.drop_zero] at h ⊢
    exact Prod.ext rfl (taR_bad h)
  | u :: r, m + 1, h => by
    rw [List.drop_succ_cons] at h ⊢
    have ih := taR_drop r m h
    have e : (taR xs r).1 ≠ 0 := by rw [ih]; exact h
    simp only [taR]
    rw [if_neg e, ih]

theorem ta_ways (xs : List ItemD) (uss : List (List UndoD)) :
    (20 < uss.length ∧ taC xs uss = 2 ∧ taI xs uss = []) ∨ (¬ 20 < uss.length ∧ itemsF xs ≠ 0 ∧ taC xs uss = itemsF xs ∧ taI xs uss = []) ∨
    (¬ 20 < uss.length ∧ itemsF xs = 0 ∧ taC xs uss = (taR xs uss).1 ∧ taI xs uss = (taR xs uss).2) := by
  unfold taI taC
  by_cases h1 : 20 < uss.length
  · simp [h1]
  · by_cases h2 : itemsF xs = 0
    · by_cases h3 : (taR xs uss).1 = 0
      · simp [h1, h2, h3]
      · simp [h1, h2, h3, taR_bad h3]
    · simp [h1, h2]

section
variable {ops : Array Oper} {rest : List Oper} {o : Oper} {a : Act} {Q : Exit → Act → World → Prop}

theorem run_copyI (w : World) (ty g n : Nat) (cur : Array Value) (ad : Addr) (sc : Nat) (zs : List ItemD) (hz : zs.length = n) (hg : w.heap[g]? = some (.cells cur 94 (0, 0))) (hc : cur.size = n * 2) (hr : ItemRow w (some ad) zs) :
    (Builtin.copy_ #[24, 24] ty #[.slice (some ⟨g, 0, none⟩) n n, .slice (some ad) n sc]).run Try.prog w = .ok (goInt n) (w.setRow g (itemCells zs).toArray) := by
  obtain ⟨i0, hi, hz0, hz1, hz2⟩ := info_parts infoItem
  have hlen := itemCells_length zs
  have hl := run_loadCells_list (P := Try.prog) w ad (itemCells zs) (lies_srcI hr)
  have hst := run_storeCells_at Try.prog g 0 94 (itemCells zs) 0 cur w hg (by omega) (items_oneCell zs)
  have e : cur.toList.drop (itemCells zs).length = [] := List.drop_of_length_le (by simp; omega)
  simp only [Nat.zero_add, Nat.add_zero, List.take_zero, List.nil_append, e, List.append_nil] at hst
  rw [hlen, hz] at hl
  simp [Builtin.copy_, run_underlying Try.underlying24, Builtin.lenOf, Builtin.firstCells, sizeOf, typeInfo, hi, hz1, hl, hst]

theorem copyI_ex (w : World) (base g n : Nat) (ys : List Value) (hown : w.ownsRow base 94 2 (.slice (some ⟨g, 0, none⟩) n n) n ys) (sa : Option Addr) (zs : List ItemD) (sc : Nat) (hz : zs.length = n) (hr : ItemRow w sa zs) (hN : Nice sa n sc) :
    ∃ w', (∀ ty, (Builtin.copy_ #[24, 24] ty #[.slice (some ⟨g, 0, none⟩) n n, .slice sa n sc]).run Try.prog w = .ok (goInt n) w') ∧ w'.ownsRow base 94 2 (.slice (some ⟨g, 0, none⟩) n n) n (itemCells zs) ∧ Below base w w' := by
  have hlen := itemCells_length zs
  rcases hN with ⟨ad, rfl⟩ | ⟨rfl, hn, rfl⟩
  · rcases hown.2 with ⟨hv, _⟩ | ⟨g', cap', cur, hv, hb, hh, h1, h2, h3, h4⟩
    · simp at hv
    · simp only [Value.slice.injEq, Option.some.injEq, Addr.mk.injEq, and_true, true_and] at hv
      obtain ⟨rfl, rfl⟩ := hv
      refine ⟨_, fun ty => run_copyI w ty g n cur ad sc zs hz hh h3 hr, ⟨by omega, Or.inr ⟨g, n, (itemCells zs).toArray, rfl, hb, setRow_heap w g _ _ _ _ hh, h1, h2, by simp; omega, ?_⟩⟩, ?_⟩
      · simp only [List.toList_toArray]
        rw [List.take_of_length_le (by omega)]
      · exact (Below.refl _ _).trans ⟨rfl, rfl, rfl, by simp [World.setRow], fun k hk => setRow_other w g k _ (by omega)⟩
  · subst hn
    have hz' : zs = [] := List.eq_nil_of_length_eq_zero hz
    subst hz'
    obtain ⟨i0, hi, hz0, hz1, hz2⟩ := info_parts infoItem
    have hys : ys = [] := List.eq_nil_of_length_eq_zero (by have := hown.1; omega)
    subst hys
    refine ⟨w, fun ty => ?_, hown, Below.refl _ _⟩
    simp [Builtin.copy_, run_underlying Try.underlying24, Builtin.lenOf, Builtin.firstCells, sizeOf, typeInfo, hi, storeCells]
end

set_option maxRecDepth 100000 in
set_option maxHeartbeats 1000000 in
theorem copyItems_any (a : Option Addr) (cap : Nat) (zs : List ItemD) (w : World) (h : ItemRow w a zs) (hN : Nice a zs.length cap) (hl : zs.length ≤ 1048576) :
    Calls Try.prog 56 #[.slice a zs.length cap] w fun e w' => ∃ a' c', e = .returned (.slice a' zs.length c') ∧ w'.ownsRow w.heap.size 94 2 (.slice a' zs.length c') zs.length (itemCells zs) ∧ Below w.heap.size w w' := by
  obtain ⟨i0, hi, hz0, hz1, hz2⟩ := info_parts infoItem
  have hbytes : i0.bytes * zs.length ≤ 281474976710656 := by rw [hz2]; omega
  have hmax : zs.length ≤ maxLen := by unfold maxLen; omega
  go_enter Try.func56, Try.ntmps56
  go_wp2_with (at_make; refine wpList_make_full _ rfl _ _ 24 rfl w.heap.size 94 i0 (.agg #[.int .i64 0, .int .i64 0]) 2 Try.underlying24 hi hz0 hz1 _ _ _ _ zs.length rfl rfl rfl rfl hbytes hmax (Nat.le_refl _) ?_)
  intro w1 hown hgrow
  have hb1 : Below w.heap.size w w1 := (Below.refl _ _).grown hgrow (Nat.le_refl _) (by simp)
  generalize (madeCells #[Value.int .i64 0, .int .i64 0] (zs.length * 2)).toList = ys at hown
  clear hgrow
  obtain ⟨w2, hcp, hown2, hb2⟩ := copyI_ex w1 w.heap.size w.heap.size zs.length ys hown a zs cap rfl (h.below hb1) hN
  go_wp2
  go_ret
  exact ⟨_, _, rfl, hown2, hb1.trans hb2⟩

end Go.Proofs.Ytjaoggkpnjkkpaa
