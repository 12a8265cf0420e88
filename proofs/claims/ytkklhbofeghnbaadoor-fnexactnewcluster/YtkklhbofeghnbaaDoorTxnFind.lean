/- FindTxn of the program and of its model: the same code, the same transaction. No condition. -/
import Derived.Test.YtkklhbofeghnbaaDoorTxnIdsI
namespace Go.Proofs.YtkklhbofeghnbaaDoor
open Go.RowKit
open Go.BigFrame
set_option linter.unusedVariables false
set_option linter.unusedSimpArgs false

/-- The first place of x, or the length. -/
def idxN : List Int → Int → Nat
  | [], _ => 0
  | y :: r, x => if y = x then 0 else idxN r x + 1
theorem idxN_at (L : List Int) (x : Int) : ∀ k, (∀ j, j < k → L.getD j 0 ≠ x) → k < L.length → L.getD k 0 = x → idxN L x = k := by
  induction L with
  | nil => intro k _ h; simp at h
  | cons y r ih =>
    intro k h0 hk he
    cases k with
    | zero => simp [List.getD] at he; simp [idxN, he]
    | succ k =>
      have hy : y ≠ x := by simpa [List.getD] using h0 0 (by omega)
      simp only [idxN, hy, if_false]
      rw [ih k (fun j hj => by simpa [List.getD] using h0 (j + 1) (by omega)) (by simpa using hk) (by simpa [List.getD] using he)]
theorem idxN_none (L : List Int) (x : Int) (h : ∀ j, j < L.length → L.getD j 0 ≠ x) : idxN L x = L.length := by
  induction L with
  | nil => rfl
  | cons y r ih =>
    have hy : y ≠ x := by simpa [List.getD] using h 0 (by simp)
    simp only [idxN, hy, if_false, List.length_cons]
    rw [ih (fun j hj => by simpa [List.getD] using h (j + 1) (by simpa using hj))]
def idxI (L : List Int) (x : Int) : Int := if idxN L x < L.length then (idxN L x : Int) else -1

def findC (ds : List TxnD) (x : Int) : Int := if idsC ds ≠ 0 then idsC ds else if idxN (ds.map TxnD.id) x < ds.length then 0 else 4
def findT (ds : List TxnD) (x : Int) : TxnD := if findC ds x = 0 then ds.getD (idxN (ds.map TxnD.id) x) txnNo else txnNo

theorem findR_le (ds : List TxnD) (x : Int) : (findT ds x).acts.length ≤ sumA ds := by
  unfold findT
  split
  · by_cases h : idxN (ds.map TxnD.id) x < ds.length
    · exact mem_le_sumA (by simp [List.getD, h])
    · simp [List.getD, List.getElem?_eq_none (show ds.length ≤ idxN (ds.map TxnD.id) x by omega), txnNo]
  · simp [txnNo]

theorem acts_oneCell (zs : List ActD) : ∀ u ∈ actCells zs, u.oneCell' = true := by
  intro u hu
  simp only [actCells, List.mem_flatMap, ActD.cells, List.mem_cons, List.not_mem_nil, or_false] at hu
  obtain ⟨z, _, rfl | rfl | rfl⟩ := hu <;> rfl

theorem lies_src {w : World} {b off : Nat} {xs : List Value} (h : Lies w (some ⟨b, off, none⟩) xs) : ∀ j u, xs[j]? = some u → w.cell? ((⟨b, off, none⟩ : Addr).add j) = some u := by
  intro j u hj
  rcases h with rfl | ⟨b', off', e, _, hc⟩
  · simp at hj
  · simp only [Option.some.injEq, Addr.mk.injEq, and_true] at e
    obtain ⟨rfl, rfl⟩ := e
    rw [Addr.add_lit]
    exact hc j u hj

set_option maxRecDepth 100000 in
set_option maxHeartbeats 1000000 in
theorem clone_any (b off cap : Nat) (zs : List ActD) (w : World) (h : ActRow w (some ⟨b, off, none⟩) zs) (h0 : 0 < zs.length) (hl : zs.length ≤ 1048576) :
    Calls Tryd.prog 50 #[.slice (some ⟨b, off, none⟩) zs.length cap] w fun e w' => ∃ a c, e = .returned (.slice a zs.length c) ∧
      w'.ownsRow w.heap.size 97 3 (.slice a zs.length c) zs.length (actCells zs) ∧ Below w.heap.size w w' := by
  obtain ⟨i0, hi, hz0, hz1, hz2⟩ := info_parts infoAct
  have hs := lies_src (Lies.below h (w' := w.alloc (.cells #[] 97)) (by go_grown))
  have hcl := actCells_length zs
  have ho := World.ownsRow_lit (e := 97) (size := 3) w #[] 0 (Nat.le_refl _) (by decide) rfl
  have HS : Hid (∀ j u, (actCells zs)[j]? = some u → _) := hs
  clear hs
  have hnil : ∀ w, (binOp .eql 80 (.slice (some ⟨b, off, none⟩) zs.length cap) (.slice none 0 0)).run Tryd.prog w = .ok (.bool false) w := fun w => by first | rfl | kernel_rfl | (simp only [binOp]; simp [Op.equal, Op.maxDepth, Op.equalIn, run_underlying Tryd.underlying80])
  go_enter Tryd.func50, Tryd.ntmps50
  go_wp2_with (at_builtin; refine wpList_append_own _ rfl _ _ 80 rfl w.heap.size 97 i0 (.agg #[.int .i64 0, .int .i64 0, .int .i64 0]) 3 24 Tryd.underlying80 hi hz0 hz1 hz2 rfl (by decide) _ 0 [] rfl ho ⟨b, off, none⟩ zs.length cap (actCells zs) rfl hcl HS.out ?c2 ?c3 ?c4 ?c5 ?_)
  all_goals try (case c2 => exact acts_oneCell zs)
  all_goals try (case c3 => unfold maxLen; omega)
  all_goals try (case c4 => omega)
  all_goals try (case c5 => simp)
  intro v' w2 hown hgrow _
  obtain ⟨a2, c2, rfl⟩ := own_shape hown
  have hb2 : Below w.heap.size w w2 := ((Below.refl _ _).alloc (Nat.le_refl _) _).grown hgrow (by simp) (fun k hk => by simp [Value.ownBlock] at hk; omega)
  try simp only [Nat.zero_add] at hown
  clear hgrow HS ho
  go_wp2
  go_ret
  exact ⟨a2, c2, rfl, by simpa using hown, hb2⟩

set_option maxRecDepth 100000 in
set_option maxHeartbeats 1000000 in
theorem cloneTxn_any (i s q : Int) (b off cap : Nat) (zs : List ActD) (w : World) (h : ActRow w (some ⟨b, off, none⟩) zs) (h0 : 0 < zs.length) (hl : zs.length ≤ 1048576) :
    Calls Tryd.prog 40 #[.agg #[.int .i64 i, .int .i64 s, .int .i64 q, .slice (some ⟨b, off, none⟩) zs.length cap]] w fun e w' => ∃ a c, e = .returned (.agg #[.int .i64 i, .int .i64 s, .int .i64 q, .slice a zs.length c]) ∧
      w'.ownsRow w.heap.size 97 3 (.slice a zs.length c) zs.length (actCells zs) ∧ Below w.heap.size w w' := by
  have hb1 : Below w.heap.size w ((w.alloc (.cells #[.int .i64 i, .int .i64 s, .int .i64 q, .slice (some ⟨b, off, none⟩) zs.length cap] 82)).alloc (.cells #[.int .i64 0, .int .i64 0, .int .i64 0, .slice none 0 0] 82)) := by go_grown
  have B1 := (Blk.new w 82 #[.int .i64 i, .int .i64 s, .int .i64 q, .slice (some ⟨b, off, none⟩) zs.length cap]).below (w' := (w.alloc (.cells #[.int .i64 i, .int .i64 s, .int .i64 q, .slice (some ⟨b, off, none⟩) zs.length cap] 82)).alloc (.cells #[.int .i64 0, .int .i64 0, .int .i64 0, .slice none 0 0] 82)) (by go_grown)
  have B2 := Blk.new (w.alloc (.cells #[.int .i64 i, .int .i64 s, .int .i64 q, .slice (some ⟨b, off, none⟩) zs.length cap] 82)) 82 #[.int .i64 0, .int .i64 0, .int .i64 0, .slice none 0 0]
  simp only [World.size_alloc] at B2
  go_enter Tryd.func40, Tryd.ntmps40
  go_wp2_with fail
  generalize (w.alloc (.cells #[.int .i64 i, .int .i64 s, .int .i64 q, .slice (some ⟨b, off, none⟩) zs.length cap] 82)).alloc (.cells #[.int .i64 0, .int .i64 0, .int .i64 0, .slice none 0 0] 82) = W at hb1 B1 B2
  have hltW := B2.lt
  refine (clone_any b off cap zs W (h.below hb1) h0 hl).mono ?_
  rintro e w2 ⟨a2, c2, rfl, hown, hb⟩
  replace B1 := B1.below hb
  replace B2 := B2.below hb
  obtain ⟨p0, p1, p2, p3⟩ := B1.cel4
  have pf := B1.frozen 3
  obtain ⟨q0, q1, q2, q3⟩ := B2.cel4
  obtain ⟨f0, f1, f2, f3⟩ := B2.frz4
  clear B1 B2
  go_wp2
  refine bodyPost_ret (v := .agg #[.int .i64 i, .int .i64 s, .int .i64 q, .slice a2 zs.length c2]) (by simp [results, Tryd.results40, go_sem, q0, q1, q2, q3]) rfl ⟨_, _, rfl, ?_, ?_⟩
  · refine own_base (base := W.heap.size) ?_ (by omega)
    repeat' (refine ownsRow_setCell_below ?_ (by dsimp only; omega) _)
    exact hown
  · repeat' (refine Below.setCell ?_ (by dsimp only; omega) _)
    exact below_from hb1 hb

end Go.Proofs.YtkklhbofeghnbaaDoor
