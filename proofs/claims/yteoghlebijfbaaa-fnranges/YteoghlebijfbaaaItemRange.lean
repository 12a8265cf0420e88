/- RangeOf of the program: one plain function tells it. No condition. -/
import Derived.Test.YteoghlebijfbaaaIR
namespace Go.Proofs.Yteoghlebijfbaaa
open Go.RowKit
open Go.BigFrame
set_option linter.unusedVariables false
set_option linter.unusedSimpArgs false

/-- The first m of the first k items whose key is f on. -/
def rgL (xs : List ItemD) (f : Int) (m k : Nat) : List ItemD := ((xs.take k).filter (fun x => decide (f ≤ x.key))).take m

theorem rgL_zero (xs : List ItemD) (f : Int) (m : Nat) : rgL xs f m 0 = [] := by simp [rgL]

theorem rgL_le (xs : List ItemD) (f : Int) (m k : Nat) : (rgL xs f m k).length ≤ m := by simp [rgL]; omega

theorem rgL_leK (xs : List ItemD) (f : Int) (m k : Nat) : (rgL xs f m k).length ≤ xs.length := by
  have h1 : ((xs.take k).filter (fun x => decide (f ≤ x.key))).length ≤ (xs.take k).length := List.length_filter_le _ _
  simp [rgL] at h1 ⊢
  omega

theorem filter_take_succ (xs : List ItemD) (p : ItemD → Bool) (k : Nat) (hk : k < xs.length) : (xs.take (k + 1)).filter p = (xs.take k).filter p ++ (if p (xs.getD k itemNo) then [xs.getD k itemNo] else []) := by
  have e : xs.getD k itemNo = xs[k] := by simp [List.getD, hk]
  rw [List.take_succ_eq_append_getElem hk, List.filter_append, e]
  congr 1
  cases hp : p xs[k] <;> simp [hp]

theorem rgL_hit (xs : List ItemD) (f : Int) (m k : Nat) (hk : k < xs.length) (hf : f ≤ (xs.getD k itemNo).key) (hl : (rgL xs f m k).length < m) : rgL xs f m (k + 1) = rgL xs f m k ++ [xs.getD k itemNo] := by
  unfold rgL at hl ⊢
  rw [filter_take_succ _ _ _ hk, if_pos (by simpa using hf)]
  generalize (xs.take k).filter (fun x => decide (f ≤ x.key)) = A at hl
  have hA : A.length < m := by simp at hl; omega
  rw [List.take_of_length_le (by simp; omega), List.take_of_length_le (by omega)]

theorem rgL_miss (xs : List ItemD) (f : Int) (m k : Nat) (hk : k < xs.length) (hf : ¬ f ≤ (xs.getD k itemNo).key) : rgL xs f m (k + 1) = rgL xs f m k := by
  unfold rgL
  rw [filter_take_succ _ _ _ hk, if_neg (by simpa using hf), List.append_nil]

theorem rgL_full (xs : List ItemD) (f : Int) (m k : Nat) (hl : ¬ (rgL xs f m k).length < m) : ∀ n, k ≤ n → rgL xs f m n = rgL xs f m k := by
  intro n hn
  unfold rgL at hl ⊢
  have e : xs.take n = xs.take k ++ (xs.take n).drop k := by
    conv => lhs; rw [← List.take_append_drop k (xs.take n)]
    rw [List.take_take, Nat.min_eq_left hn]
  rw [e, List.filter_append]
  simp only [List.length_take, Nat.not_lt] at hl
  rw [List.take_append_of_le_length (by omega)]

def rgC (xs : List ItemD) (f q : Int) : Int := if itemsF xs ≠ 0 then itemsF xs else if inW f 1 20 = false ∨ inW q 1 8 = false then 3 else 0
def rgR (xs : List ItemD) (f q : Int) : List ItemD := if rgC xs f q = 0 then rgL xs f q.toNat xs.length else []

theorem rgR_le (xs : List ItemD) (f q : Int) : (rgR xs f q).length ≤ xs.length := by
  unfold rgR
  split
  · exact rgL_leK xs f q.toNat xs.length
  · simp

theorem rg_ways (xs : List ItemD) (f q : Int) :
    (itemsF xs ≠ 0 ∧ rgC xs f q = itemsF xs ∧ rgR xs f q = []) ∨ (itemsF xs = 0 ∧ inW f 1 20 = false ∧ rgC xs f q = 3 ∧ rgR xs f q = []) ∨ (itemsF xs = 0 ∧ inW f 1 20 = true ∧ inW q 1 8 = false ∧ rgC xs f q = 3 ∧ rgR xs f q = []) ∨
    (itemsF xs = 0 ∧ inW f 1 20 = true ∧ inW q 1 8 = true ∧ (∃ m : Nat, q = m ∧ 1 ≤ m ∧ m ≤ 8) ∧ rgC xs f q = 0 ∧ rgR xs f q = rgL xs f q.toNat xs.length) := by
  by_cases h0 : itemsF xs = 0
  · cases h1 : inW f 1 20 <;> cases h2 : inW q 1 8
    · exact Or.inr (Or.inl ⟨h0, rfl, by simp [rgC, h0, h1], by simp [rgR, rgC, h0, h1]⟩)
    · exact Or.inr (Or.inl ⟨h0, rfl, by simp [rgC, h0, h1], by simp [rgR, rgC, h0, h1]⟩)
    · exact Or.inr (Or.inr (Or.inl ⟨h0, rfl, rfl, by simp [rgC, h0, h2], by simp [rgR, rgC, h0, h2]⟩))
    · refine Or.inr (Or.inr (Or.inr ⟨h0, rfl, rfl, ⟨q.toNat, ?_, ?_, ?_⟩, by simp [rgC, h0, h1, h2], by simp [rgR, rgC, h0, h1, h2]⟩)) <;> simp [inW] at h2 <;> omega
  · exact Or.inl ⟨h0, by simp [rgC, h0], by simp [rgR, rgC, h0]⟩

theorem itemsF_le {xs : List ItemD} (h : itemsF xs = 0) : xs.length ≤ 8 := by
  unfold itemsF at h
  split at h
  · simp at h
  · omega

/-- A row of whatever cells that came to be owned: one element more. -/
theorem itemCells_snoc (xs : List ItemD) (z0 z1 : Int) : itemCells (xs ++ [⟨z0, z1⟩]) = itemCells xs ++ [.int .i64 z0, .int .i64 z1] := by simp [itemCells, ItemD.cells]

set_option maxHeartbeats 2000000 in
theorem implRangeOf_any (a : Option Addr) (cap : Nat) (zs : List ItemD) (f q : Int) (w : World) (h : ItemRow w a zs) (hl : zs.length ≤ 1048576) :
    Calls Try.prog 26 #[.slice a zs.length cap, .int .i64 f, .int .i64 q] w fun e w' => ∃ b c, e = .returned (.agg #[.int .i64 (rgC zs f q), .int .i64 (rgR zs f q).length, .slice b (rgR zs f q).length c]) ∧
      w'.ownsRow w.heap.size 53 2 (.slice b (rgR zs f q).length c) (rgR zs f q).length (itemCells (rgR zs f q)) ∧ Below w.heap.size w w' := by
  have hF := fun w h => implItemsFault_any a cap zs w h hl
  have hb0 : Below w.heap.size w (w.alloc (.cells #[.int .i64 0, .int .i64 0, .slice none 0 0] 31)) := by go_grown
  have B0 := Blk.new w 31 #[.int .i64 0, .int .i64 0, .slice none 0 0]
  rcases rg_ways zs f q with ⟨h0, e1, e2⟩ | ⟨h0, h1, e1, e2⟩ | ⟨h0, h1, h2, e1, e2⟩ | ⟨h0, h1, h2, ⟨m, rfl, hm1, hm8⟩, e1, e2⟩ <;> rw [e1, e2] <;> clear e1 e2
  case inl =>
    have hne : (itemsF zs != 0) = true := by simpa using h0
    clear h0
    generalize itemsF zs = r at hF hne
    go_enter Try.func26, Try.ntmps26
    go_wp2_with fail
    generalize w.alloc (.cells #[.int .i64 0, .int .i64 0, .slice none 0 0] 31) = W0 at hb0 B0
    refine (hF _ (h.below hb0)).mono ?_
    rintro e w1 ⟨rfl, hb⟩
    replace B0 := B0.below hb
    replace hb0 := hb0.trans (hb.mono hb0.size)
    have p0 := B0.cell 0 _ rfl
    have p1 := B0.cell 1 _ rfl
    have p2 := B0.cell 2 _ rfl
    have f0 := B0.frozen 0
    have f1 := B0.frozen 1
    have f2 := B0.frozen 2
    have hlt := B0.lt
    clear hb B0
    go_wp2
    refine bodyPost_ret (v := .agg #[.int .i64 r, .int .i64 0, .slice none 0 0]) (by simp [results, Try.results26, go_sem, p0, p1, p2]) rfl ⟨_, _, rfl, World.ownsRow_nil _ _ _ _, ?_⟩
    repeat' (refine Below.setCell ?_ (by dsimp only; omega) _)
    exact hb0
  case inr.inl =>
    rw [h0] at hF
    clear h0
    go_enter Try.func26, Try.ntmps26
    go_wp2_with fail
    generalize w.alloc (.cells #[.int .i64 0, .int .i64 0, .slice none 0 0] 31) = W0 at hb0 B0
    refine (hF _ (h.below hb0)).mono ?_
    rintro e w1 ⟨rfl, hb⟩
    replace B0 := B0.below hb
    replace hb0 := hb0.trans (hb.mono hb0.size)
    have p0 := B0.cell 0 _ rfl
    have p1 := B0.cell 1 _ rfl
    have p2 := B0.cell 2 _ rfl
    have f0 := B0.frozen 0
    have f1 := B0.frozen 1
    have f2 := B0.frozen 2
    have hlt := B0.lt
    clear hb B0
    go_wp2_with (go_at_call 59; refine (isWithin_any _ _ _ _).mono ?_; rintro e w' ⟨rfl, hw⟩; replace hw := hw.symm; subst hw)
    refine bodyPost_ret (v := .agg #[.int .i64 3, .int .i64 0, .slice none 0 0]) (by simp [results, Try.results26, go_sem, p0, p1, p2]) rfl ⟨_, _, rfl, World.ownsRow_nil _ _ _ _, ?_⟩
    repeat' (refine Below.setCell ?_ (by dsimp only; omega) _)
    exact hb0
  case inr.inr.inl =>
    rw [h0] at hF
    clear h0
    go_enter Try.func26, Try.ntmps26
    go_wp2_with fail
    generalize w.alloc (.cells #[.int .i64 0, .int .i64 0, .slice none 0 0] 31) = W0 at hb0 B0
    refine (hF _ (h.below hb0)).mono ?_
    rintro e w1 ⟨rfl, hb⟩
    replace B0 := B0.below hb
    replace hb0 := hb0.trans (hb.mono hb0.size)
    have p0 := B0.cell 0 _ rfl
    have p1 := B0.cell 1 _ rfl
    have p2 := B0.cell 2 _ rfl
    have f0 := B0.frozen 0
    have f1 := B0.frozen 1
    have f2 := B0.frozen 2
    have hlt := B0.lt
    clear hb B0
    go_wp2_with (go_at_call 59; refine (isWithin_any _ _ _ _).mono ?_; rintro e w' ⟨rfl, hw⟩; replace hw := hw.symm; subst hw)
    refine bodyPost_ret (v := .agg #[.int .i64 3, .int .i64 0, .slice none 0 0]) (by simp [results, Try.results26, go_sem, p0, p1, p2]) rfl ⟨_, _, rfl, World.ownsRow_nil _ _ _ _, ?_⟩
    repeat' (refine Below.setCell ?_ (by dsimp only; omega) _)
    exact hb0
  case inr.inr.inr =>
    have hz8 := itemsF_le h0
    rw [h0] at hF
    clear h0
    rw [show (m : Int).toNat = m by omega]
    obtain ⟨i0, hi, hz0, hz1, hz2⟩ := info_parts infoItem
    go_enter Try.func26, Try.ntmps26
    go_wp2_with fail
    generalize w.alloc (.cells #[.int .i64 0, .int .i64 0, .slice none 0 0] 31) = W0 at hb0 B0
    refine (hF _ (h.below hb0)).mono ?_
    rintro e w1 ⟨rfl, hb⟩
    replace B0 := B0.below hb
    replace hb0 := hb0.trans (hb.mono hb0.size)
    have hlt0 := B0.lt
    replace h := h.below hb0
    clear hb hF
    go_wp2_with (go_at_call 59; refine (isWithin_any _ _ _ _).mono ?_; rintro e w' ⟨rfl, hw⟩; replace hw := hw.symm; subst hw)
    go_loopw [8, 28] (fun v j wr => ∃ k : Nat, k ≤ zs.length ∧ j = .int .i64 k ∧ wr.ownsRow w1.heap.size 53 2 v (rgL zs f m k).length (itemCells (rgL zs f m k)) ∧ Below w1.heap.size w1 wr) (fun _ j _ => zs.length - (intOf j).toNat)
    case atStart => exact ⟨0, Nat.zero_le _, rfl, by rw [rgL_zero]; exact World.ownsRow_nil _ _ _ _, Below.refl _ _⟩
    case round =>
      obtain ⟨k, hk, rfl, ho, hb⟩ := hrel
      have hsz := hb.size
      have hle := rgL_le zs f m k
      obtain ⟨a1, c1, rfl⟩ := own_shape ho
      by_cases hlt : k < zs.length
      · obtain ⟨b, off, rfl, hbs, hc0, hc1⟩ := (h.below hb).at k hlt
        by_cases hf : f ≤ (zs.getD k itemNo).key
        · by_cases hfull : (rgL zs f m k).length < m
          · have hsu : Hid (rgL zs f m (k + 1) = rgL zs f m k ++ [zs.getD k itemNo]) := rgL_hit zs f m k hlt hf hfull
            generalize rgL zs f m k = F at ho hle hfull hsu
            generalize zs.getD k itemNo = z at hc0 hc1 hf hsu
            obtain ⟨z0, z1⟩ := z
            dsimp only at hc0 hc1 hf
            have hW2 : Below w1.heap.size wr ((wr.alloc (.cells #[.int .i64 z0, .int .i64 z1] 53)).alloc (.cells #[.int .i64 z0, .int .i64 z1] 53)) := ((Below.refl _ _).alloc (by omega) _).alloc (by simp; omega) _
            have ho2 := (ho.alloc (.cells #[.int .i64 z0, .int .i64 z1] 53)).alloc (.cells #[.int .i64 z0, .int .i64 z1] 53)
            go_wp2_with (at_builtin; refine wpList_append_own _ rfl _ _ 24 rfl w1.heap.size 53 i0 (.agg #[.int .i64 0, .int .i64 0]) 2 16 Try.underlying24 hi hz0 hz1 hz2 rfl (by decide) _ F.length (itemCells F) rfl ho2 ⟨wr.heap.size + 1, 0, none⟩ 1 1 [.int .i64 z0, .int .i64 z1] rfl rfl ?c1 ?c2 ?c3 ?c4 ?c5 ?_)
            all_goals try
              (case c1 => intro j u hj; match j, hj with | 0, hj => simp at hj; subst hj; simp [Addr.add] | 1, hj => simp at hj; subst hj; simp [Addr.add])
            all_goals try (case c2 => first | rfl | (intro u hu; simp at hu; rcases hu with rfl | rfl <;> rfl))
            all_goals try (case c3 => unfold maxLen; omega)
            all_goals try (case c4 => omega)
            all_goals try (case c5 => first | omega | (simp; omega))
            intro v' w3 hown hgrow _
            obtain ⟨a2, c2, rfl⟩ := own_shape hown
            have hW3 : Below w1.heap.size wr w3 := hW2.grown hgrow (by simp; omega) (fun j hj => (ho.lt j hj).1)
            have R : Hid (w3.ownsRow w1.heap.size 53 2 (.slice a2 (F.length + 1) c2) (F.length + 1) (itemCells (F ++ [⟨z0, z1⟩])) ∧ Below w1.heap.size w1 w3) := ⟨by rw [itemCells_snoc]; simpa using hown, hb.trans hW3⟩
            clear hW2 hgrow ho2 ho hown hW3
            go_wp2
            go_roundw
            case rel =>
              refine ⟨k + 1, by omega, by go_num, ?_, R.out.2⟩
              rw [hsu.out]
              simpa using R.out.1
            case measure => simp [intOf]; omega
          · have hsu : Hid (rgL zs f m (k + 1) = rgL zs f m k) := rgL_full zs f m k hfull (k + 1) (by omega)
            generalize hrg : rgL zs f m k = F at ho hle hfull hsu
            clear hrg
            generalize zs.getD k itemNo = z at hc0 hc1 hf
            obtain ⟨z0, z1⟩ := z
            dsimp only at hc0 hc1 hf
            have R : Hid (_ ∧ _) := ⟨ho.alloc (.cells #[.int .i64 z0, .int .i64 z1] 53), hb.alloc hsz (.cells #[.int .i64 z0, .int .i64 z1] 53)⟩
            clear ho
            go_wp2
            go_roundw
            case rel => exact ⟨k + 1, by omega, by go_num, by rw [hsu.out]; exact R.out.1, R.out.2⟩
            case measure => simp [intOf]; omega
        · have hsu : Hid (rgL zs f m (k + 1) = rgL zs f m k) := rgL_miss zs f m k hlt hf
          generalize hrg : rgL zs f m k = F at ho hle hsu
          clear hrg
          generalize zs.getD k itemNo = z at hc0 hc1 hf
          obtain ⟨z0, z1⟩ := z
          dsimp only at hc0 hc1 hf
          have R : Hid (_ ∧ _) := ⟨ho.alloc (.cells #[.int .i64 z0, .int .i64 z1] 53), hb.alloc hsz (.cells #[.int .i64 z0, .int .i64 z1] 53)⟩
          clear ho
          go_wp2
          go_roundw
          case rel => exact ⟨k + 1, by omega, by go_num, by rw [hsu.out]; exact R.out.1, R.out.2⟩
          case measure => simp [intOf]; omega
      · have hkl : k = zs.length := by omega
        subst hkl
        generalize hFe : rgL zs f m zs.length = F at ho hle
        have HF : Hid (rgL zs f m zs.length = F) := hFe
        clear hFe
        replace B0 : Blk wr w.heap.size 31 #[.int .i64 0, .int .i64 0, .slice none 0 0] := (hb.block _ hlt0).trans B0
        have p0 := B0.cell 0 _ rfl
        have p1 := B0.cell 1 _ rfl
        have p2 := B0.cell 2 _ rfl
        have f0 := B0.frozen 0
        have f1 := B0.frozen 1
        have f2 := B0.frozen 2
        have hbw : Below w.heap.size w wr := hb0.trans (hb.mono hb0.size)
        clear B0
        go_wp2
        refine bodyPost_ret (v := .agg #[.int .i64 0, .int .i64 F.length, .slice a1 F.length c1]) (by simp [results, Try.results26, go_sem, p0, p1, p2]) rfl ?_
        rw [HF.out]
        refine ⟨_, _, rfl, ?_, ?_⟩
        · refine own_base (base := w1.heap.size) ?_ hb0.size
          repeat' (refine ownsRow_setCell_below ?_ (by dsimp only; omega) _)
          exact ho
        · repeat' (refine Below.setCell ?_ (by dsimp only; omega) _)
          exact hbw

end Go.Proofs.Yteoghlebijfbaaa
