/- The model's doing of a right transaction with right items, and its ExecTxn. No condition. -/
import Derived.Test.YtjaoggkpnjkkpaaS3b
import Derived.Laws.AppendOwnNone
namespace Go.Proofs.Ytjaoggkpnjkkpaa
open Go.RowKit Go.Maps
open Go.BigFrame
set_option linter.unusedVariables false
set_option linter.unusedSimpArgs false

theorem items_oneCell (zs : List ItemD) : ∀ u ∈ itemCells zs, u.oneCell' = true := by
  intro u hu
  simp only [itemCells, List.mem_flatMap, ItemD.cells, List.mem_cons, List.not_mem_nil, or_false] at hu
  obtain ⟨z, _, rfl | rfl⟩ := hu <;> rfl

theorem lies_srcI {w : World} {ad : Addr} {xs : List Value} (h : Lies w (some ad) xs) : ∀ j u, xs[j]? = some u → w.cell? (ad.add j) = some u := by
  intro j u hj
  rcases h with rfl | ⟨b', off', e, _, hc⟩
  · simp at hj
  · simp only [Option.some.injEq] at e
    subst e
    rw [Addr.add_lit]
    exact hc j u hj

section
variable {ops : Array Oper} {rest : List Oper} {o : Oper} {a : Act} {Q : Exit → Act → World → Prop}

/-- All of a list of items behind an empty one of the call's own. -/
theorem wpList_copy_items (w : World) (hgd : o.guard = none) (s x : Operand) (ho : o.op = .call { callee := .builtin .append, args := #[s, x], argTypes := #[24, 24] }) (base g : Nat)
    (hs : a.eval s = .slice (some ⟨g, 0, none⟩) 0 0) (hown : w.ownsRow base 94 2 (.slice (some ⟨g, 0, none⟩) 0 0) 0 []) (sa : Option Addr) (zs : List ItemD) (sc : Nat) (hx : a.eval x = .slice sa zs.length sc) (hr : ItemRow w sa zs) (hN : Nice sa zs.length sc) (hl : zs.length ≤ 1048576) (hbase : base ≤ w.heap.size)
    (h : ∀ a' c' w', w'.ownsRow base 94 2 (.slice a' zs.length c') zs.length (itemCells zs) → Below base w w' → wpList Try.prog ops Q rest (a.put o.dst (.slice a' zs.length c')) w') : wpList Try.prog ops Q (o :: rest) a w := by
  obtain ⟨i0, hi, hz0, hz1, hz2⟩ := info_parts infoItem
  rcases hN with ⟨ad, rfl⟩ | ⟨rfl, hn, rfl⟩
  · refine wpList_append_own w hgd s x 24 ho base 94 i0 (.agg #[.int .i64 0, .int .i64 0]) 2 16 Try.underlying24 hi hz0 hz1 hz2 rfl (by decide) _ 0 [] hs hown ad zs.length sc (itemCells zs) hx (itemCells_length zs) (lies_srcI hr) (items_oneCell zs) (by unfold maxLen; omega) (by omega) hbase ?_
    intro v' w' hown' hgrow _
    simp only [Nat.zero_add, List.nil_append] at hown'
    obtain ⟨a', c', rfl⟩ := own_shape hown'
    exact h a' c' w' hown' ((Below.refl _ _).grown hgrow hbase (fun k hk => (hown.lt k hk).1))
  · have hz : zs = [] := List.eq_nil_of_length_eq_zero hn
    subst hz
    refine wpList_append_own_none hgd s x 24 ho base 94 i0 2 Try.underlying24 hi _ 0 [] hs hown hx ?_
    exact h _ _ w hown (Below.refl _ _)
end

theorem latB_cellI {B : Nat} {w : World} {a : Addr} {v : Value} (h : w.cell? a = some v) (hlt : a.block < B) : ∀ u : LatB B w, u.val.cell? a = some v := fun u => by
  rw [u.isBelow.cell hlt]; exact h

def runR (xs : List ItemD) (zs : List ActD) : List ItemD := if (runA xs zs).1 = 0 then (runA xs zs).2 else []
def runV (xs : List ItemD) (zs : List ActD) : Int := if (runA xs zs).1 = 0 then valI (runA xs zs).2 (lastK zs) else 0

end Go.Proofs.Ytjaoggkpnjkkpaa
