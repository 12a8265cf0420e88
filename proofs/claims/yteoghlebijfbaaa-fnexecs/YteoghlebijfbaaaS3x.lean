/- ValueAt and ExecTxn of the program: one plain function each tells them. No condition. -/
import Derived.Test.YteoghlebijfbaaaS3k
import Derived.Test.YteoghlebijfbaaaQuiet1
import Derived.Test.YteoghlebijfbaaaIR
namespace Go.Proofs.Yteoghlebijfbaaa
open Go.RowKit Go.Maps
open Go.BigFrame
set_option linter.unusedVariables false
set_option linter.unusedSimpArgs false

def vaC (xs : List ItemD) (k : Int) : Int := if itemsF xs ≠ 0 then itemsF xs else if inW k 1 20 = false then 3 else if hasI xs k = true then 0 else 4
def vaV (xs : List ItemD) (k : Int) : Int := if vaC xs k = 0 then valI xs k else 0

theorem va_ways (xs : List ItemD) (k : Int) :
    (itemsF xs ≠ 0 ∧ vaC xs k = itemsF xs ∧ vaV xs k = 0) ∨ (itemsF xs = 0 ∧ inW k 1 20 = false ∧ vaC xs k = 3 ∧ vaV xs k = 0) ∨
    (itemsF xs = 0 ∧ inW k 1 20 = true ∧ (1 ≤ k ∧ k ≤ 20) ∧ hasI xs k = false ∧ vaC xs k = 4 ∧ vaV xs k = 0) ∨ (itemsF xs = 0 ∧ inW k 1 20 = true ∧ (1 ≤ k ∧ k ≤ 20) ∧ hasI xs k = true ∧ vaC xs k = 0 ∧ vaV xs k = valI xs k) := by
  by_cases h0 : itemsF xs = 0
  · cases h1 : inW k 1 20
    · exact Or.inr (Or.inl ⟨h0, rfl, by simp [vaC, h0, h1], by simp [vaV, vaC, h0, h1]⟩)
    · have hk : 1 ≤ k ∧ k ≤ 20 := by simpa [inW] using h1
      cases h2 : hasI xs k
      · exact Or.inr (Or.inr (Or.inl ⟨h0, rfl, hk, rfl, by simp [vaC, h0, h1, h2], by simp [vaV, vaC, h0, h1, h2]⟩))
      · exact Or.inr (Or.inr (Or.inr ⟨h0, rfl, hk, rfl, by simp [vaC, h0, h1, h2], by simp [vaV, vaC, h0, h1, h2]⟩))
  · exact Or.inl ⟨h0, by simp [vaC, h0], by simp [vaV, vaC, h0]⟩

set_option maxRecDepth 100000 in
set_option maxHeartbeats 2000000 in
theorem implValueAt_any (a : Option Addr) (cap : Nat) (zs : List ItemD) (k : Int) (w : World) (h : ItemRow w a zs) (hl : zs.length ≤ 1048576) :
    Calls Try.prog 17 #[.slice a zs.length cap, .int .i64 k] w fun e w' => e = .returned (.agg #[.int .i64 (vaC zs k), .int .i64 (vaV zs k)]) ∧ Below w.heap.size w w' := by
  have hF := fun w h => implItemsFault_any a cap zs w h hl
  have hb0 : Below w.heap.size w (w.alloc (.cells #[.int .i64 0, .int .i64 0] 43)) := by go_grown
  have B0 := Blk.new w 43 #[.int .i64 0, .int .i64 0]
  rcases va_ways zs k with ⟨h0, e1, e2⟩ | ⟨h0, h1, e1, e2⟩ | ⟨h0, h1, hk, h2, e1, e2⟩ | ⟨h0, h1, hk, h2, e1, e2⟩ <;> rw [e1, e2] <;> clear e1 e2
  case inl =>
    have hne : (itemsF zs != 0) = true := by simpa using h0
    clear h0
    generalize itemsF zs = r at hF hne
    go_enter Try.func17, Try.ntmps17
    go_wp2_with fail
    generalize w.alloc (.cells #[.int .i64 0, .int .i64 0] 43) = W0 at hb0 B0
    refine (hF _ (h.below hb0)).mono ?_
    rintro e w1 ⟨rfl, hb⟩
    replace B0 := B0.below hb
    replace hb0 := hb0.trans (hb.mono hb0.size)
    have p0 := B0.cell 0 _ rfl
    have p1 := B0.cell 1 _ rfl
    have f0 := B0.frozen 0
    have f1 := B0.frozen 1
    have hlt := B0.lt
    clear hb B0
    go_wp2
    refine bodyPost_ret (v := .agg #[.int .i64 r, .int .i64 0]) (by simp [results, Try.results17, go_sem, p0, p1]) rfl ⟨rfl, ?_⟩
    repeat' (refine Below.setCell ?_ (by dsimp only; omega) _)
    exact hb0
  case inr.inl =>
    rw [h0] at hF
    clear h0
    go_enter Try.func17, Try.ntmps17
    go_wp2_with fail
    generalize w.alloc (.cells #[.int .i64 0, .int .i64 0] 43) = W0 at hb0 B0
    refine (hF _ (h.below hb0)).mono ?_
    rintro e w1 ⟨rfl, hb⟩
    replace B0 := B0.below hb
    replace hb0 := hb0.trans (hb.mono hb0.size)
    have p0 := B0.cell 0 _ rfl
    have p1 := B0.cell 1 _ rfl
    have f0 := B0.frozen 0
    have f1 := B0.frozen 1
    have hlt := B0.lt
    clear hb B0
    go_wp2_with (go_at_call 59; refine (isWithin_any _ _ _ _).mono ?_; rintro e w' ⟨rfl, hw⟩; replace hw := hw.symm; subst hw)
    refine bodyPost_ret (v := .agg #[.int .i64 3, .int .i64 0]) (by simp [results, Try.results17, go_sem, p0, p1]) rfl ⟨rfl, ?_⟩
    repeat' (refine Below.setCell ?_ (by dsimp only; omega) _)
    exact hb0
  all_goals
    obtain ⟨h8, g⟩ := good_of_F h0
    rw [h0] at hF
    clear h0
    have hsh := fun w h => shelfOf_any a cap zs w h h8 g
    have hlook : ∀ (b : Nat) (w : World) (_ : ShelfAt w b zs) (ops : Array Oper) (rest : List Oper) (o : Oper) (a : Act) (Q : Exit → Act → World → Prop) (hg : o.guard = none) (m x : Operand) (hop : o.op = Op.lookup 87 m x true) (hm : a.eval m = .map (some b)) (hx : a.eval x = .int .i64 k) (hK : wpList Try.prog ops Q rest (a.put o.dst (.tuple #[.int .i64 (valI zs k), .bool (hasI zs k)])) w), wpList Try.prog ops Q (o :: rest) a w :=
      fun b w h ops rest o a Q hg m x hop hm hx hK => wpList_shelf_ok w hg m x hop b zs hm h k hx (by omega) hK
    rw [h2] at hlook
    generalize valI zs k = c at hlook
    go_enter Try.func17, Try.ntmps17
    go_wp2_with fail
    generalize w.alloc (.cells #[.int .i64 0, .int .i64 0] 43) = W0 at hb0 B0
    refine (hF _ (h.below hb0)).mono ?_
    rintro e w1 ⟨rfl, hb⟩
    replace B0 := B0.below hb
    replace hb0 := hb0.trans (hb.mono hb0.size)
    clear hb
    go_wp2_with (go_at_call 59; refine (isWithin_any _ _ _ _).mono ?_; rintro e w' ⟨rfl, hw⟩; replace hw := hw.symm; subst hw)
    refine (hsh _ (h.below hb0)).mono ?_
    rintro e w2 ⟨rfl, hS, hb⟩
    replace B0 := B0.below hb
    replace hb0 := hb0.trans (hb.mono hb0.size)
    have p0 := B0.cell 0 _ rfl
    have p1 := B0.cell 1 _ rfl
    have f0 := B0.frozen 0
    have f1 := B0.frozen 1
    have hlt := B0.lt
    clear hb B0
    go_wp2_with (at_lookup; refine hlook _ _ hS _ _ _ _ _ rfl _ _ rfl rfl rfl ?_)
  · refine bodyPost_ret (v := .agg #[.int .i64 4, .int .i64 0]) (by simp [results, Try.results17, go_sem, p0, p1]) rfl ⟨rfl, ?_⟩
    repeat' (refine Below.setCell ?_ (by dsimp only; omega) _)
    exact hb0
  · refine bodyPost_ret (v := .agg #[.int .i64 0, .int .i64 c]) (by simp [results, Try.results17, go_sem, p0, p1]) rfl ⟨rfl, ?_⟩
    repeat' (refine Below.setCell ?_ (by dsimp only; omega) _)
    exact hb0

end Go.Proofs.Yteoghlebijfbaaa
