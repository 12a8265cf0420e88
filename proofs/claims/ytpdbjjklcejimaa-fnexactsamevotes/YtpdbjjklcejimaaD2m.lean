/- Marking a list of transactions turns its own memory alone. -/
import Derived.Test.YtpdbjjklcejimaaD2s
namespace Go.Proofs.Ytpdbjjklcejimaa
open Go.RowKit
set_option linter.unusedVariables false
set_option linter.unusedSimpArgs false

theorem own_again {w w' : World} {lo e s n n' : Nat} {v v' : Value} {xs xs2 xs' : List Value} (h : w.ownsRow lo e s v n xs) (h2 : w'.ownsRow lo e s v n xs2) (hg : w.grownBy w' v.ownBlock) (h' : w.ownsRow lo e s v' n' xs') : ∃ ys, w'.ownsRow lo e s v' n' ys := by
  rcases h'.2 with ⟨rfl, rfl⟩ | ⟨g', cap', cur', rfl, hb', hh', hn', hm', hs', ht'⟩
  · exact ⟨[], World.ownsRow_nil _ _ _ _⟩
  · by_cases hgg : v.ownBlock = some g'
    · rcases h.2 with ⟨rfl, _⟩ | ⟨g, cap, cur, rfl, hb, hh, _, _, hs, _⟩
      · simp [Value.ownBlock] at hgg
      · simp only [Value.ownBlock, Option.some.injEq] at hgg
        subst hgg
        rcases h2.2 with ⟨he, _⟩ | ⟨g2, cap2, cur2, he, _, hh2, _, _, hs2, _⟩
        · simp at he
        · simp only [Value.slice.injEq, Option.some.injEq, Addr.mk.injEq, and_true, true_and] at he
          obtain ⟨rfl, rfl⟩ := he
          rw [hh] at hh'
          simp only [Option.some.injEq, Obj.cells.injEq] at hh'
          obtain ⟨rfl, _⟩ := hh'
          refine ⟨cur2.toList.take (n' * s), ?_, Or.inr ⟨_, cap', cur2, rfl, hb', hh2, hn', hm', by omega, rfl⟩⟩
          have : n' * s ≤ cap' * s := Nat.mul_le_mul_right _ hn'
          simp; omega
    · exact ⟨xs', h'.kept hg (Or.inr (fun e => hgg e.symm))⟩

theorem only_set {lo hi g j : Nat} {w wr : World} {u : Value} (h : Only lo hi w wr) (h1 : lo ≤ g) (h2 : g < hi) : Only lo hi w (wr.setCell ⟨g, j, none⟩ u) :=
  ⟨h.os, h.tape, h.output, by simpa [World.setCell] using h.size, fun k hk hc => by rw [Below.heap_setCell _ _ _ _ (by dsimp only; omega)]; exact h.block k hk hc⟩

end Go.Proofs.Ytpdbjjklcejimaa
