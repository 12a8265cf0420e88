/- Memory that is owned within bounds, and how it lasts; the helpers of the laws in one form. No condition. -/
import Derived.Test.YtjaoggkpnjkkpaaMB
import Derived.Test.YtjaoggkpnjkkpaaD2m
namespace Go.Proofs.Ytjaoggkpnjkkpaa
open Go.RowKit
set_option linter.unusedVariables false
set_option linter.unusedSimpArgs false

/-- v owns its row, which lies in blocks from lo up to hi. -/
def OwnS (e size lo hi : Nat) (w : World) (v : Value) (n : Nat) (xs : List Value) : Prop := w.ownsRow lo e size v n xs ∧ ∀ g, v.ownBlock = some g → g < hi

theorem OwnS.of {e size lo n : Nat} {w : World} {v : Value} {xs : List Value} (o : w.ownsRow lo e size v n xs) : OwnS e size lo w.heap.size w v n xs := ⟨o, fun g hg => (o.lt g hg).2⟩
theorem OwnS.below {e size lo hi n : Nat} {w w' : World} {v : Value} {xs : List Value} (o : OwnS e size lo hi w v n xs) (hb : Below w.heap.size w w') : OwnS e size lo hi w' v n xs := ⟨own_below o.1 hb, o.2⟩
theorem OwnS.only {e size lo hi n lo' hi' : Nat} {w w' : World} {v : Value} {xs : List Value} (o : OwnS e size lo hi w v n xs) (h : Only lo' hi' w w') (hh : hi' ≤ lo) : OwnS e size lo hi w' v n xs := ⟨own_only o.1 h hh, o.2⟩
theorem OwnS.lies {e size lo hi n c : Nat} {w : World} {a : Option Addr} {xs : List Value} (o : OwnS e size lo hi w (.slice a n c) n xs) : Lies w a xs := Lies.own o.1
theorem OwnS.wide {e size lo hi n lo' hi' : Nat} {w : World} {v : Value} {xs : List Value} (o : OwnS e size lo hi w v n xs) (h : lo' ≤ lo) (hh : hi ≤ hi') : OwnS e size lo' hi' w v n xs := ⟨own_base o.1 h, fun g hg => Nat.lt_of_lt_of_le (o.2 g hg) hh⟩
theorem OwnS.grown {e size lo hi n : Nat} {w w' : World} {v : Value} {xs : List Value} (o : OwnS e size lo hi w v n xs) (hg : w.grownBy w' v.ownBlock) : Only lo hi w w' := only_of_grown hg (fun g h => ⟨(o.1.lt g h).1, o.2 g h⟩)
/-- Another list's marking leaves it, where the two lie in two blocks. -/
theorem OwnS.beside {e size lo hi n : Nat} {w w' : World} {v v' : Value} {xs : List Value} (o : OwnS e size lo hi w v n xs) (hg : w.grownBy w' v'.ownBlock) (h : v.ownBlock = none ∨ v.ownBlock ≠ v'.ownBlock) : OwnS e size lo hi w' v n xs := ⟨o.1.kept hg h, o.2⟩

theorem OwnTxns.only {lo hi lo' hi' : Nat} {w w' : World} {v : Value} {ds : List TxnD} (h : OwnTxns lo hi w v ds) (ho : Only lo' hi' w w') (hh : hi' ≤ lo) : OwnTxns lo hi w' v ds := by
  obtain ⟨g, cap, ps, e, hg, hd, o, hp⟩ := h
  exact ⟨g, cap, ps, e, hg, hd, own_only o ho hh, fun p hm => ⟨own_only (hp p hm).1 ho hh, (hp p hm).2⟩⟩

theorem szItems_u (a : Option Addr) (n cap : Nat) (c : Int) (w : World) (hn : n ≤ 9223372036854775807) (h0 : 0 ≤ c) (h1 : c ≤ 1048576) :
    Calls Try.prog 23 #[.slice a n cap, .int .i64 c] w fun e w' => ∃ s : Int, e = .returned (.int .i64 s) ∧ (¬ s < 0 → (n : Int) + s = c) ∧ Below w.heap.size w w' := by
  refine (szItemS_any a n cap c w hn h0 (by omega)).mono ?_
  rintro e w' ⟨rfl, rfl⟩
  refine ⟨_, rfl, ?_, Below.refl _ _⟩
  split <;> omega

theorem szTxn_u (i s q : Int) (a : Option Addr) (n cap : Nat) (c : Int) (w : World) (hn : n ≤ 9223372036854775807) (h0 : 0 ≤ c) (h1 : c ≤ 1048576) :
    Calls Try.prog 24 #[.agg #[.int .i64 i, .int .i64 s, .int .i64 q, .slice a n cap], .int .i64 c] w fun e w' => ∃ s : Int, e = .returned (.int .i64 s) ∧ (¬ s < 0 → (n : Int) + s = c) ∧ Below w.heap.size w w' := by
  refine (szTxn_any i s q a n cap c w hn h0 (by omega)).mono ?_
  rintro e w' ⟨rfl, hb⟩
  refine ⟨_, rfl, ?_, hb⟩
  split <;> omega

theorem toItems_u (a : Option Addr) (cap : Nat) (zs : List ItemD) (w : World) (h : ItemRow w a zs) (hl : zs.length ≤ 1048576) :
    Calls Try.prog 25 #[.slice a zs.length cap] w fun e w' => ∃ a' c', e = .returned (.slice a' zs.length c') ∧ OwnS 94 2 w.heap.size w'.heap.size w' (.slice a' zs.length c') zs.length (itemCells zs) ∧ Below w.heap.size w w' := by
  refine (toItemS_any a cap zs w h hl).mono ?_
  rintro e w' ⟨g, c, rfl, o, hb⟩
  exact ⟨_, _, rfl, OwnS.of o, hb⟩

theorem toTxn_u (i s q : Int) (a : Option Addr) (cap : Nat) (zs : List ActD) (w : World) (h : ActRow w a zs) (hl : zs.length ≤ 1048576) :
    Calls Try.prog 26 #[.agg #[.int .i64 i, .int .i64 s, .int .i64 q, .slice a zs.length cap]] w fun e w' => ∃ a' c', e = .returned (.agg #[.int .i64 i, .int .i64 s, .int .i64 q, .slice a' zs.length c']) ∧
      OwnS 104 3 w.heap.size w'.heap.size w' (.slice a' zs.length c') zs.length (actCells zs) ∧ Below w.heap.size w w' := by
  refine (toTxn_any i s q a cap zs w h hl).mono ?_
  rintro e w' ⟨g, c, rfl, o, hb⟩
  exact ⟨_, _, rfl, OwnS.of o, hb⟩

theorem markItems_u (lo hi : Nat) (v : Value) (n : Nat) (xs : List Value) (c : Int) (w : World) (h : OwnS 94 2 lo hi w v n xs) (hn : n ≤ 1048576) (h0 : 0 ≤ c) (h1 : c ≤ 16777216) :
    Calls Try.prog 30 #[v, .int .i64 c] w fun e w' => ∃ m, e = .returned (.int .i64 m) ∧ (c ≤ m ∧ m ≤ c + 3145728) ∧ Only lo hi w w' := by
  refine (markItemS_any lo v n xs c w h.1 (by omega) h0 (by omega)).mono ?_
  rintro e w' ⟨rfl, o, hg⟩
  exact ⟨_, rfl, by omega, h.grown hg⟩

theorem markTxn_u (i s q : Int) (lo hi : Nat) (v : Value) (n : Nat) (xs : List Value) (c : Int) (w : World) (h : OwnS 104 3 lo hi w v n xs) (hn : n ≤ 1048576) (h0 : 0 ≤ c) (h1 : c ≤ 16777216) :
    Calls Try.prog 31 #[.agg #[.int .i64 i, .int .i64 s, .int .i64 q, v], .int .i64 c] w fun e w' => ∃ m, e = .returned (.int .i64 m) ∧ (c ≤ m ∧ m ≤ c + 3145728) ∧ Only lo hi w w' := by
  refine (markTxn_any i s q lo v n xs c w h.1 (by omega) h0 (by omega)).mono ?_
  rintro e w' ⟨rfl, o, hg⟩
  exact ⟨_, rfl, by omega, h.grown hg⟩

end Go.Proofs.Ytjaoggkpnjkkpaa
