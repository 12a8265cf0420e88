/- IdsOf: the program's function and its model tell the same code and the same numbers. No condition. -/
import Derived.Test.YtjaoggkpnjkkpaaDoorD2s
import Derived.Test.YtjaoggkpnjkkpaaDoorTxnPackI
namespace Go.Proofs.YtjaoggkpnjkkpaaDoor
open Go.RowKit
open Go.BigFrame
set_option linter.unusedVariables false
set_option linter.unusedSimpArgs false

def TxnD.F (d : TxnD) : Int := txnF d.id d.session d.seq d.acts
def allF : List TxnD → Int
  | [] => 0
  | d :: r => if d.F = 0 then allF r else d.F
def idsC (ds : List TxnD) : Int := if 60 < ds.length then 2 else allF ds
def idsR (ds : List TxnD) : List Int := if idsC ds = 0 then ds.map TxnD.id else []
def idsL (ds : List TxnD) (k : Nat) : List Int := (ds.take k).map TxnD.id

theorem idsL_succ (ds : List TxnD) (k : Nat) (h : k < ds.length) : idsL ds (k + 1) = idsL ds k ++ [(ds.getD k txnNo).id] := by
  have e : ds.getD k txnNo = ds[k] := by simp [List.getD, h]
  rw [idsL, idsL, List.take_succ_eq_append_getElem h, e]
  simp only [List.map_append, List.map_cons, List.map_nil]
theorem idsL_length (ds : List TxnD) (k : Nat) (h : k ≤ ds.length) : (idsL ds k).length = k := by simp [idsL]; omega
theorem idsR_le (ds : List TxnD) : (idsR ds).length ≤ ds.length := by
  unfold idsR
  split <;> simp

theorem allF_first (ds : List TxnD) : ∀ k, (∀ j, j < k → (ds.getD j txnNo).F = 0) → k < ds.length → (ds.getD k txnNo).F ≠ 0 → allF ds = (ds.getD k txnNo).F := by
  induction ds with
  | nil => intro k _ h; simp at h
  | cons x r ih =>
    intro k h0 hk hne
    cases k with
    | zero => simp [List.getD] at hne ⊢; simp [allF, hne]
    | succ k =>
      have hx : x.F = 0 := by simpa [List.getD] using h0 0 (by omega)
      have := ih k (fun j hj => by simpa [List.getD] using h0 (j + 1) (by omega)) (by simpa using hk) (by simpa [List.getD] using hne)
      simp only [allF, hx, if_true]
      rw [this]
      simp [List.getD]

theorem allF_none (ds : List TxnD) (h : ∀ j, j < ds.length → (ds.getD j txnNo).F = 0) : allF ds = 0 := by
  induction ds with
  | nil => rfl
  | cons x r ih =>
    have hx : x.F = 0 := by simpa [List.getD] using h 0 (by simp)
    simp only [allF, hx, if_true]
    exact ih (fun j hj => by simpa [List.getD] using h (j + 1) (by simpa using hj))

theorem TxnsAt.box {w : World} {b off i : Nat} {z : TxnD} {aa : Option Addr} {cc : Nat} (h0 : w.cell? ⟨b, off + i * 4, none⟩ = some (.int .i64 z.id)) (h1 : w.cell? ⟨b, off + i * 4 + 1, none⟩ = some (.int .i64 z.session)) (h2 : w.cell? ⟨b, off + i * 4 + 2, none⟩ = some (.int .i64 z.seq))
    (h3 : w.cell? ⟨b, off + i * 4 + 3, none⟩ = some (.slice aa z.acts.length cc)) : Box4 w b (off + i * 4) (.int .i64 z.id) (.int .i64 z.session) (.int .i64 z.seq) (.slice aa z.acts.length cc) := ⟨h0, h1, h2, h3⟩

set_option maxHeartbeats 1000000 in
theorem l2All_any (v : Value) (ds : List TxnD) (w : World) (h : TxnsAt w v ds) (hl : ds.length + sumA ds ≤ 1048576) :
    Calls Tryd.prog 32 #[v] w fun e w' => e = .returned (.int .i64 (idsC ds)) ∧ w' = w := by
  obtain ⟨a, cap, rfl⟩ := h.shape
  by_cases h60 : 60 < ds.length
  · rw [show idsC ds = 2 from if_pos h60]
    go_enter Tryd.func32, Tryd.ntmps32
    go_wp2
    go_ret
    exact ⟨rfl, rfl⟩
  · rw [show idsC ds = allF ds from if_neg h60]
    go_enter Tryd.func32, Tryd.ntmps32
    go_wp2
    go_loop [3] (fun j => ∃ k : Nat, k ≤ ds.length ∧ j = .int .i64 k ∧ Hid (∀ j, j < k → (ds.getD j txnNo).F = 0)) (fun j => ds.length - (intOf j).toNat)
    case atStart => exact ⟨0, Nat.zero_le _, rfl, fun j hj => absurd hj (Nat.not_lt_zero _)⟩
    case round =>
      obtain ⟨k, hk, rfl, HA⟩ := hrel
      by_cases hlt : k < ds.length
      · obtain ⟨b, off, aa, cc, rfl, hbs, hc0, hc1, hc2, hc3, hA⟩ := h.at k hlt
        have hzl : (ds.getD k txnNo).acts.length ≤ sumA ds := mem_le_sumA (by simp [List.getD, hlt])
        have hcall := l2Fault_any b (off + k * 4) _ _ _ aa cc _ w (TxnsAt.box hc0 hc1 hc2 hc3) hA (by omega)
        change Calls _ _ _ _ fun e w' => e = .returned (.int .i64 ((ds.getD k txnNo).F)) ∧ _ at hcall
        clear hc0 hc1 hc2 hc3 hA
        by_cases hF : (ds.getD k txnNo).F = 0
        · have HB : Hid (∀ j, j < k + 1 → (ds.getD j txnNo).F = 0) := by
            intro j hj
            by_cases hjk : j = k
            · subst hjk; exact hF
            · exact HA.out j (by omega)
          rw [hF] at hcall
          clear HA hF
          go_wp2_with (go_at_call 38; refine hcall.mono ?_; rintro e w' ⟨rfl, rfl⟩)
          go_round
          case rel => exact ⟨k + 1, by omega, by go_num, HB⟩
          case measure => simp [intOf]; omega
        · have E : Hid (allF ds = (ds.getD k txnNo).F) := allF_first ds k HA.out hlt hF
          have hne : ((ds.getD k txnNo).F != 0) = true := by simpa using hF
          clear HA hF
          generalize (ds.getD k txnNo).F = r at hcall E hne
          go_wp2_with (go_at_call 38; refine hcall.mono ?_; rintro e w' ⟨rfl, rfl⟩)
          go_ret
          rw [E.out]
          exact ⟨rfl, rfl⟩
      · have hkl : k = ds.length := by omega
        subst hkl
        have E : Hid (allF ds = 0) := allF_none ds HA.out
        clear HA
        go_wp2
        go_ret
        rw [E.out]
        exact ⟨rfl, rfl⟩

set_option maxHeartbeats 1000000 in
theorem l2Ids_any (v : Value) (ds : List TxnD) (w : World) (h : TxnsAt w v ds) (hl : ds.length ≤ 60) :
    Calls Tryd.prog 34 #[v] w fun e w' => ∃ b c, e = .returned (.slice b (ds.map TxnD.id).length c) ∧ w'.ownsRow w.heap.size 2 1 (.slice b (ds.map TxnD.id).length c) (ds.map TxnD.id).length ((ds.map TxnD.id).map (Value.int .i64)) ∧ Below w.heap.size w w' := by
  obtain ⟨a, cap, rfl⟩ := h.shape
  obtain ⟨i0, hi, hz0, hz1, hz2⟩ := info_parts infoI64
  go_enter Tryd.func34, Tryd.ntmps34
  go_wp2
  go_loopw [3, 4] (fun v j wr => ∃ k : Nat, k ≤ ds.length ∧ j = .int .i64 k ∧ wr.ownsRow w.heap.size 2 1 v (idsL ds k).length ((idsL ds k).map (Value.int .i64)) ∧ Below w.heap.size w wr) (fun _ j _ => ds.length - (intOf j).toNat)
  case atStart => exact ⟨0, Nat.zero_le _, rfl, by first | exact World.ownsRow_lit w #[] 0 (Nat.le_refl _) (by decide) rfl | (simp [idsL]; exact World.ownsRow_lit w #[] 0 (Nat.le_refl _) (by decide) rfl), by go_grown⟩
  case round =>
    obtain ⟨k, hk, rfl, ho, hb⟩ := hrel
    have hsz := hb.size
    have hkl : (idsL ds k).length ≤ 60 := by rw [idsL_length ds k hk]; omega
    obtain ⟨a1, c1, rfl⟩ := own_shape ho
    by_cases hlt : k < ds.length
    · have hsu : Hid (idsL ds (k + 1) = idsL ds k ++ [(ds.getD k txnNo).id]) := idsL_succ ds k hlt
      obtain ⟨b, off, aa, cc, rfl, hbs, hc0, _⟩ := (h.below hb).at k hlt
      generalize (ds.getD k txnNo).id = z at hc0 hsu
      have hW2 : Below w.heap.size wr (wr.alloc (.cells #[.int .i64 z] 2)) := (Below.refl _ _).alloc hsz _
      have ho2 := ho.alloc (.cells #[.int .i64 z] 2)
      go_wp2_with (at_builtin; refine wpList_append_own _ rfl _ _ 39 rfl w.heap.size 2 i0 (.int .i64 0) 1 8 Tryd.underlying39 hi hz0 hz1 hz2 rfl (by decide) _ (idsL ds k).length ((idsL ds k).map (Value.int .i64)) rfl ho2 ⟨wr.heap.size, 0, none⟩ 1 1 [.int .i64 z] rfl rfl ?c1 ?c2 ?c3 ?c4 ?c5 ?_)
      all_goals try
        (case c1 => intro j u hj; match j, hj with | 0, hj => simp at hj; subst hj; simp [Addr.add])
      all_goals try (case c2 => first | rfl | (intro u hu; simp at hu; subst hu; rfl))
      all_goals try (case c3 => unfold maxLen; omega)
      all_goals try (case c4 => omega)
      all_goals try (case c5 => first | omega | (simp; omega))
      intro v' w2 hown hgrow _
      obtain ⟨a2, c2, rfl⟩ := own_shape hown
      have hW3 : Below w.heap.size wr w2 := hW2.grown hgrow (by simp; omega) (fun j hj => (ho.lt j hj).1)
      clear hW2 hgrow ho2 ho
      have R : Hid (w2.ownsRow w.heap.size 2 1 (.slice a2 ((idsL ds k).length + 1) c2) ((idsL ds k).length + 1) ((idsL ds k ++ [z]).map (Value.int .i64)) ∧ Below w.heap.size w w2) := ⟨by simpa using hown, hb.trans hW3⟩
      clear hown hW3
      go_wp2
      go_roundw
      case rel =>
        refine ⟨k + 1, by omega, by go_num, ?_, R.out.2⟩
        rw [hsu.out]
        simpa using R.out.1
      case measure => simp [intOf]; omega
    · have hkk : k = ds.length := by omega
      subst hkk
      have e : idsL ds ds.length = ds.map TxnD.id := by simp [idsL]
      rw [e] at ho
      clear hkl
      go_wp2
      go_ret
      rw [e]
      exact ⟨_, _, rfl, ho, hb⟩

end Go.Proofs.YtjaoggkpnjkkpaaDoor
