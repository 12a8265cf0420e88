/- Who is known by its Id, or by its Session and Seq; the model's way to ask. -/
import Derived.Test.YtbdphnmkpkgdeaaKT
import Derived.Test.YtbdphnmkpkgdeaaD2g
namespace Go.Proofs.Ytbdphnmkpkgdeaa
open Go.RowKit
open Go.BigFrame
set_option linter.unusedVariables false
set_option linter.unusedSimpArgs false

def stF (a b : TxnD) : Bool := (a.id == b.id) || ((a.session == b.session) && (a.seq == b.seq))
def knw (acc : List TxnD) (t : TxnD) : Bool := acc.any (fun a => stF a t)
/-- Each one once. -/
def onc : List TxnD → List TxnD → List TxnD
  | acc, [] => acc
  | acc, t :: r => onc (if knw acc t then acc else acc ++ [t]) r

theorem onc_append : ∀ (xs ys acc : List TxnD), onc acc (xs ++ ys) = onc (onc acc xs) ys
  | [], _, _ => rfl
  | t :: r, ys, acc => by
    simp only [List.cons_append, onc]
    exact onc_append r ys _
theorem onc_pre : ∀ (xs acc : List TxnD), ∃ zs, onc acc xs = acc ++ zs
  | [], acc => ⟨[], by simp [onc]⟩
  | t :: r, acc => by
    simp only [onc]
    obtain ⟨zs, e⟩ := onc_pre r (if knw acc t then acc else acc ++ [t])
    rw [e]
    split
    · exact ⟨zs, rfl⟩
    · exact ⟨t :: zs, by simp⟩
theorem onc_sub : ∀ (xs acc : List TxnD), ∀ t ∈ onc acc xs, t ∈ acc ∨ t ∈ xs
  | [], acc, t, h => Or.inl h
  | x :: r, acc, t, h => by
    simp only [onc] at h
    rcases onc_sub r _ t h with h | h
    · split at h
      · exact Or.inl h
      · rcases List.mem_append.1 h with h | h
        · exact Or.inl h
        · simp only [List.mem_singleton] at h
          exact Or.inr (by rw [h]; simp)
    · exact Or.inr (List.mem_cons_of_mem _ h)
theorem onc_len (xs acc : List TxnD) : (onc acc xs).length ≤ acc.length + xs.length := by
  induction xs generalizing acc with
  | nil => simp [onc]
  | cons t r ih =>
    simp only [onc, List.length_cons]
    have := ih (if knw acc t then acc else acc ++ [t])
    split at this
    · rename_i h; rw [if_pos h]; omega
    · rename_i h; rw [if_neg h]; simp only [List.length_append, List.length_singleton] at this; omega

def txnNo' : TxnD := ⟨0, 0, 0, []⟩
theorem txn_get (xs : List TxnQ) (k : Nat) (hk : k < xs.length) : (xs.map TxnQ.e).getD k txnNo' = TxnQ.e xs[k] := by simp [List.getD, hk]
theorem knw_yes {acc : List TxnD} {t : TxnD} (k : Nat) (hk : k < acc.length) (h : stF (acc.getD k txnNo') t = true) : knw acc t = true := by
  unfold knw
  rw [List.any_eq_true]
  exact ⟨acc[k], List.getElem_mem hk, by simpa [List.getD, hk] using h⟩
theorem knw_no {acc : List TxnD} {t : TxnD} (h : ∀ j, j < acc.length → stF (acc.getD j txnNo') t = false) : knw acc t = false := by
  cases hc : knw acc t with
  | false => rfl
  | true =>
    unfold knw at hc
    rw [List.any_eq_true] at hc
    obtain ⟨x, hx, hs⟩ := hc
    obtain ⟨j, hj, rfl⟩ := List.getElem_of_mem hx
    have := h j hj
    have e : acc.getD j txnNo' = acc[j] := by simp [List.getD, hj]
    rw [e, hs] at this
    exact absurd this (by decide)

set_option maxHeartbeats 4000000 in
theorem l7Known_any (v : Value) (acc : List TxnQ) (b o : Nat) (x : TxnD) (va : Value) (w : World) (h : txnK.At w v acc) (hB : Box4 w b o (.int .i64 x.id) (.int .i64 x.session) (.int .i64 x.seq) va) (hl : acc.length ≤ 1048576) :
    Calls Try.prog 54 #[v, .pointer (some ⟨b, o, none⟩)] w fun e w' => e = .returned (.bool (knw (acc.map TxnQ.e) x)) ∧ Below w.heap.size w w' := by
  obtain ⟨a, cap, rfl⟩ := h.shape
  obtain ⟨d0, d1, d2, d3⟩ := hB
  generalize hE : knw (acc.map TxnQ.e) x = E
  have HE : Hid (knw (acc.map TxnQ.e) x = E) := hE
  clear hE
  obtain ⟨xi, xs, xq, xa⟩ := x
  dsimp only at d0 d1 d2 d3
  go_enter Try.func54, Try.ntmps54
  go_wp2
  go_loopw [5] (fun j wr => ∃ k m : Nat, k ≤ acc.length ∧ j = .int .i64 k ∧ wr = w.drewN m ∧ Hid (∀ j, j < k → stF ((acc.map TxnQ.e).getD j txnNo') ⟨xi, xs, xq, xa⟩ = false)) (fun j _ => acc.length - (intOf j).toNat)
  case atStart => exact ⟨0, 0, Nat.zero_le _, rfl, rfl, fun j hj => absurd hj (Nat.not_lt_zero _)⟩
  case round =>
    obtain ⟨k, m, hk, rfl, rfl, HA⟩ := hrel
    by_cases hlt : k < acc.length
    · obtain ⟨b', off, rfl, hbs, hc, hrd⟩ := h.cell (by decide) k hlt
      have hc' : ∀ j x, (txnK.cells acc[k])[j]? = some x → w.cell? ⟨b', off + k * 4 + j, none⟩ = some x := hc
      have c0 := hc' 0 (.int .i64 acc[k].i) rfl
      have c1 := hc' 1 (.int .i64 acc[k].s) rfl
      have c2 := hc' 2 (.int .i64 acc[k].q) rfl
      rw [Nat.add_zero] at c0
      have HY : Hid (stF (TxnQ.e acc[k]) ⟨xi, xs, xq, xa⟩ = true → E = true) := fun hx => by rw [← HE.out]; exact knw_yes k (by simpa using hlt) (by rw [txn_get acc k hlt]; exact hx)
      have HN : Hid (stF (TxnQ.e acc[k]) ⟨xi, xs, xq, xa⟩ = false → ∀ j, j < k + 1 → stF ((acc.map TxnQ.e).getD j txnNo') ⟨xi, xs, xq, xa⟩ = false) := fun hx j hj => by
        by_cases hjm : j = k
        · subst hjm
          rw [txn_get acc j hlt]
          exact hx
        · exact HA.out j (by omega)
      clear HA hc hc' hrd
      generalize acc[k] = p at *
      obtain ⟨i, s, q, va', acts⟩ := p
      dsimp only [TxnQ.e, stF] at c0 c1 c2 HY HN
      have hlti : (k : Int) < (acc.length : Int) := by omega
      cases h1 : (i == xi)
      · cases h2 : (s == xs)
        · have HR := HN.out (by rw [h1, h2]; rfl)
          have HR' : Hid _ := HR
          clear HY HN HR
          go_wp2
          go_quiet (fail)
          go_wp2
          go_roundw
          case rel => exact ⟨k + 1, _, by omega, by go_num, rfl, HR'.out⟩
          case measure => simp [intOf]; omega
        · cases h3 : (q == xq)
          · have HR := HN.out (by rw [h1, h2, h3]; rfl)
            have HR' : Hid _ := HR
            clear HY HN HR
            go_wp2
            go_quiet (fail)
            go_wp2
            go_roundw
            case rel => exact ⟨k + 1, _, by omega, by go_num, rfl, HR'.out⟩
            case measure => simp [intOf]; omega
          · have E1 : Hid (E = true) := HY.out (by rw [h1, h2, h3]; rfl)
            clear HY HN
            go_wp2
            go_quiet (fail)
            go_wp2
            go_ret
            rw [E1.out]
            exact ⟨rfl, ⟨rfl, rfl, rfl, Nat.le_refl _, fun _ _ => rfl⟩⟩
      · have E1 : Hid (E = true) := HY.out (by rw [h1]; rfl)
        clear HY HN
        go_wp2
        go_quiet (fail)
        go_wp2
        go_ret
        rw [E1.out]
        exact ⟨rfl, ⟨rfl, rfl, rfl, Nat.le_refl _, fun _ _ => rfl⟩⟩
    · have E1 : Hid (E = false) := by rw [← HE.out]; exact knw_no (fun j hj => HA.out j (by simp at hj; omega))
      have hlti : ¬ (k : Int) < (acc.length : Int) := by omega
      clear HA HE
      go_wp2
      go_ret
      rw [E1.out]
      exact ⟨rfl, ⟨rfl, rfl, rfl, Nat.le_refl _, fun _ _ => rfl⟩⟩

end Go.Proofs.Ytbdphnmkpkgdeaa
