/- What the great test of FnTxns wants: regions cut off, fields, lists of one. No condition. -/
import Derived.Test.YtjaoggkpnjkkpaaDoorDraw2h
import Derived.Test.YtjaoggkpnjkkpaaDoorDraw2f
import Derived.Test.YtjaoggkpnjkkpaaDoorLawBig
import Derived.Test.YtjaoggkpnjkkpaaDoorLawHelp
import Derived.Test.YtjaoggkpnjkkpaaDoorTxnPackI
import Derived.Test.YtjaoggkpnjkkpaaDoorTxnIdsI
import Derived.Test.YtjaoggkpnjkkpaaDoorTxnFindI
import Derived.Test.YtjaoggkpnjkkpaaDoorTxnSameI
import Derived.Test.YtjaoggkpnjkkpaaDoorQuiet1
namespace Go.Proofs.YtjaoggkpnjkkpaaDoor
open Go.RowKit
open Go.BigFrame
set_option linter.unusedVariables false
set_option linter.unusedSimpArgs false

section
variable {P : Program} {ops : Array Oper} {Q : Exit → Act → World → Prop} {S : World → Prop}
theorem op_g {K : Act → World → Prop} (i : Nat) (o : Oper) {a : Act} {w : World} (ho : ops[i]? = some o) (hw : Region.wanted o (yielded ops a.tmps) = true) (h : wpList P ops (ThenGo Q K) [{ o with guard := none }] a w) : wpOp P ops (NoPanic Q) i K a w := by
  refine op_one i o ho ?_
  simp only [wpList] at h ⊢
  rw [if_pos hw]
  rw [if_pos (by rfl)] at h
  exact h
theorem one_g (i : Nat) (o : Oper) (fuel : Nat) {F : Nat} {l : Array Bool} {a : Act} {w : World} (hF : F = fuel + 1) (ho : ops[i]? = some o) (hr : Region.ready .any ops l = [i]) (hw : Region.wanted o (yielded ops a.tmps) = true)
    (h : wpList P ops (ThenGo Q (fun a' w' => S w' ∧ wpAnyH P .any ops (NoPanic Q) S fuel (upTo [i] l) a' w')) [{ o with guard := none }] a w) : wpAnyH P .any ops (NoPanic Q) S F l a w := by
  refine one_at i o fuel hF ho hr ?_
  simp only [wpList] at h ⊢
  rw [if_pos hw]
  rw [if_pos (by rfl)] at h
  exact h

/-- A region cut off: what it leaves in its own temporaries but the last one is forgotten. -/
def CutQ (a : Act) (lo n : Nat) (v : Value) (R : World → Prop) (e : Exit) (a' : Act) (w' : World) : Prop :=
  e = .normal ∧ a'.defers = a.defers ∧ a'.tmps.toList.take lo = a.tmps.toList.take lo ∧ a'.tmps.toList.drop (lo + n) = v :: a.tmps.toList.drop (lo + n + 1) ∧ lo + n ≤ a'.tmps.toList.length ∧ R w'
theorem CutQ.mk {a : Act} {lo n : Nat} {v : Value} {R : World → Prop} {a' : Act} {w' : World} (h1 : a'.defers = a.defers) (h2 : a'.tmps.toList.take lo = a.tmps.toList.take lo) (h3 : a'.tmps.toList.drop (lo + n) = v :: a.tmps.toList.drop (lo + n + 1)) (h4 : lo + n ≤ a'.tmps.toList.length) (h5 : R w') : CutQ a lo n v R .normal a' w' := ⟨rfl, h1, h2, h3, h4, h5⟩

theorem region_cut {id : Nat} {a : Act} {w : World} (lo n : Nat) (v : Value) (R : World → Prop)
    (hreg : (Code.region id ops true).wp P (CutQ a lo n v R) a w)
    (himp : ∀ mid w', mid.length = n → R w' → Q .normal { a with tmps := (a.tmps.toList.take lo ++ (mid ++ v :: a.tmps.toList.drop (lo + n + 1))).toArray } w') : (Code.region id ops true).wp P Q a w := by
  refine Code.wp_mono ?_ hreg
  rintro e a' w' ⟨rfl, h1, h2, h3, h4, h5⟩
  have key := himp ((a'.tmps.toList.drop lo).take n) w' (by rw [List.length_take, List.length_drop]; omega) h5
  have e1 : a.tmps.toList.take lo ++ ((a'.tmps.toList.drop lo).take n ++ v :: a.tmps.toList.drop (lo + n + 1)) = a'.tmps.toList := by
    rw [← h2, ← h3, ← List.drop_drop, List.take_append_drop, List.take_append_drop]
  rw [e1] at key
  have e2 : ({ a with tmps := a'.tmps.toList.toArray } : Act) = a' := by
    cases a'
    simp only at h1
    simp [h1]
  rw [e2] at key
  exact key
end

theorem fieldT0 (c i s q : Int) (a : Option Addr) (l k : Nat) (w : World) : (Instr.field 29 (.agg #[.int .i64 c, .int .i64 i, .int .i64 s, .int .i64 q, .slice a l k]) 0).run Tryd.prog w = .ok (.int .i64 c) w := by kernel_rfl
theorem fieldT1 (c i s q : Int) (a : Option Addr) (l k : Nat) (w : World) : (Instr.field 29 (.agg #[.int .i64 c, .int .i64 i, .int .i64 s, .int .i64 q, .slice a l k]) 1).run Tryd.prog w = .ok (.agg #[.int .i64 i, .int .i64 s, .int .i64 q, .slice a l k]) w := by kernel_rfl
theorem fieldB0 (c : Int) (a : Option Addr) (l k : Nat) (w : World) : (Instr.field 33 (.agg #[.int .i64 c, .slice a l k]) 0).run Tryd.prog w = .ok (.int .i64 c) w := by kernel_rfl
theorem fieldB1 (c : Int) (a : Option Addr) (l k : Nat) (w : World) : (Instr.field 33 (.agg #[.int .i64 c, .slice a l k]) 1).run Tryd.prog w = .ok (.slice a l k) w := by kernel_rfl
theorem fieldN0 (c : Int) (a : Option Addr) (l k : Nat) (w : World) : (Instr.field 41 (.agg #[.int .i64 c, .slice a l k]) 0).run Tryd.prog w = .ok (.int .i64 c) w := by kernel_rfl

theorem lwBytesB (a a' : Option Addr) (cap cap' : Nat) (zs : List Int) (w : World) (h : Row .u8 w a zs) (h' : Row .u8 w a' zs) (hl : zs.length ≤ 1099511627776) :
    Calls Tryd.prog 13 #[.slice a zs.length cap, .slice a' zs.length cap'] w fun e w' => e = .returned (.bool true) ∧ Below w.heap.size w w' := by
  refine (lwBytes_true a a' cap cap' zs w h h' hl).mono ?_
  rintro e w' ⟨rfl, rfl⟩
  exact ⟨rfl, Below.refl _ _⟩

theorem txn_one {w : World} {g c : Nat} {i s q : Int} {a : Option Addr} {k : Nat} {zs : List ActD} (B : Blk w g 27 #[.int .i64 i, .int .i64 s, .int .i64 q, .slice a zs.length k]) (h : ActRow w a zs) : TxnsAt w (.slice (some ⟨g, 0, none⟩) 1 c) [⟨i, s, q, zs⟩] := by
  refine ⟨_, c, [⟨⟨i, s, q, zs⟩, a, k⟩], rfl, rfl, Or.inr ⟨g, 0, rfl, B.lt, ?_⟩, ?_⟩
  · intro j x hx
    match j, hx with
    | 0, hx => simp [txnCells, TxnP.cells, TxnP.sl] at hx; subst hx; exact B.cell 0 _ rfl
    | 1, hx => simp [txnCells, TxnP.cells, TxnP.sl] at hx; subst hx; exact B.cell 1 _ rfl
    | 2, hx => simp [txnCells, TxnP.cells, TxnP.sl] at hx; subst hx; exact B.cell 2 _ rfl
    | 3, hx => simp [txnCells, TxnP.cells, TxnP.sl] at hx; subst hx; exact B.cell 3 _ rfl
  · intro p hp
    simp only [List.mem_singleton] at hp
    subst hp
    exact h

theorem sumA_le5 {ds : List TxnD} (h : ∀ d ∈ ds, d.acts.length ≤ 5) : sumA ds ≤ 5 * ds.length := by
  induction ds with
  | nil => simp [sumA]
  | cons x r ih =>
    have := ih (fun d hd => h d (by simp [hd]))
    have hx := h x (by simp)
    simp only [sumA, List.map_cons, List.sum_cons, List.length_cons] at this ⊢
    omega

end Go.Proofs.YtjaoggkpnjkkpaaDoor
