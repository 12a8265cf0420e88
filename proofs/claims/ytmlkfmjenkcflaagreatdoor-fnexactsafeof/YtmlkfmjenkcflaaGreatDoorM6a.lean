/- The fault of a batch, of the model. -/
import Derived.Test.YtmlkfmjenkcflaaGreatDoorS6
import Derived.Test.YtmlkfmjenkcflaaGreatDoorGG
import Derived.Test.YtmlkfmjenkcflaaGreatDoorGF
namespace Go.Proofs.YtmlkfmjenkcflaaGreatDoor
open Go.RowKit
open Go.BigFrame
set_option linter.unusedVariables false
set_option maxRecDepth 100000
set_option linter.unusedSimpArgs false

def slA : Value → Option Addr
  | .slice a _ _ => a
  | _ => none
def slK : Value → Nat
  | .slice _ _ k => k
  | _ => 0
def TxnQ.p (q : TxnQ) : TxnP := ⟨q.e, slA q.va, slK q.va⟩
theorem TxnQ.p_cells {w : World} {q : TxnQ} (h : actK.At w q.va q.acts) : q.p.cells = txnK.cells q := by
  obtain ⟨a, c, e⟩ := h.shape
  show [_, _, _, _] = [_, _, _, _]
  simp only [TxnP.sl, TxnQ.p, TxnQ.e, e, slA, slK]
/-- What is read by kinds is read as a list of transactions. -/
theorem txnsAt_of {w : World} {v : Value} {ps : List TxnQ} (h : txnK.At w v ps) : TxnsAt w v (ps.map TxnQ.e) := by
  obtain ⟨a, cap, e, hL, hr⟩ := h
  refine ⟨a, cap, ps.map TxnQ.p, by rw [List.length_map]; exact e, by simp only [List.map_map]; rfl, ?_, ?_⟩
  · have e2 : txnCells (ps.map TxnQ.p) = txnK.row ps := by
      clear hL e
      induction ps with
      | nil => rfl
      | cons q r ih =>
        have h1 : q.p.cells = txnK.cells q := TxnQ.p_cells (hr q (by simp))
        have h2 := ih (fun p hp => hr p (List.mem_cons_of_mem _ hp))
        show q.p.cells ++ txnCells (r.map TxnQ.p) = txnK.cells q ++ txnK.row r
        rw [h1, h2]
    rw [e2]
    exact hL
  · intro p hp
    obtain ⟨q, hq, rfl⟩ := List.mem_map.1 hp
    have h1 : actK.At w q.va q.acts := hr q hq
    obtain ⟨a', c', e', hl', _⟩ := h1
    show ActRow w (slA q.va) q.acts
    rw [e']
    exact hl'
theorem sumA_of (ps : List TxnQ) : sumA (ps.map TxnQ.e) = nmL TxnQ.n ps := by
  simp only [sumA, nmL, List.map_map]
  rfl

theorem idxN_lt (L : List Int) (x : Int) : idxN L x < L.length ↔ x ∈ L := by
  induction L with
  | nil => simp [idxN]
  | cons y r ih =>
    by_cases h : y = x
    · simp [idxN, h]
    · have : ¬ x = y := fun e => h e.symm
      simp [idxN, h, this, ih]
theorem idxI_in {L : List Int} {x : Int} (h : x ∈ L) : 0 ≤ idxI L x := by
  unfold idxI
  rw [if_pos ((idxN_lt L x).2 h)]
  omega
theorem idxI_out {L : List Int} {x : Int} (h : x ∉ L) : idxI L x = -1 := by
  unfold idxI
  rw [if_neg (fun e => h ((idxN_lt L x).1 e))]
theorem nodup_take {L : List Int} {k : Nat} (h : (L.take k).Nodup) (hk : k < L.length) (hx : L.getD k 0 ∉ L.take k) : (L.take (k + 1)).Nodup := by
  have e : L.getD k 0 = L[k] := by simp [List.getD, hk]
  rw [e] at hx
  rw [List.take_succ_eq_append_getElem hk, List.nodup_append]
  refine ⟨h, by simp, fun a ha b hb e => ?_⟩
  simp only [List.mem_singleton] at hb
  subst hb e
  exact hx ha
theorem not_nodup {L : List Int} {k : Nat} (hk : k < L.length) (hx : L.getD k 0 ∈ L.take k) : ¬ L.Nodup := by
  intro h
  have e : L.getD k 0 = L[k] := by simp [List.getD, hk]
  rw [e] at hx
  have h2 : (L.take (k + 1)).Nodup := List.Sublist.nodup (List.take_sublist _ _) h
  rw [List.take_succ_eq_append_getElem hk, List.nodup_append] at h2
  exact h2.2.2 _ hx _ (by simp) rfl
theorem Row.take6 {k : IntKind} {w : World} {a : Option Addr} {zs : List Int} (h : Row k w a zs) (j : Nat) : Row k w a (zs.take j) := by
  intro i hi
  have hi2 : i < j ∧ i < zs.length := by rw [List.length_take] at hi; omega
  obtain ⟨b, off, ha, hlt, hc⟩ := h i hi2.2
  refine ⟨b, off, ha, hlt, ?_⟩
  rw [hc]
  simp [List.getD, List.getElem?_take, hi2.1]
theorem own_cap6 {w : World} {base e s n c : Nat} {a : Option Addr} {xs : List Value} (h : w.ownsRow base e s (.slice a n c) n xs) : n ≤ c := by
  rcases h.2 with ⟨he, hn⟩ | ⟨g, cap, cur, he, _, _, hc, _⟩
  · omega
  · simp only [Value.slice.injEq, true_and] at he
    omega
theorem sl_hi (b off n c k : Nat) (hk : k ≤ c) (w : World) : (Instr.sliceAt 24 (.slice (some ⟨b, off, none⟩) n c) none (some (.int .i64 (k : Int))) none).run Tryz.prog w = .ok (.slice (some ⟨b, off, none⟩) k c) w := by
  have hel : Tryz.prog.elem 24 = 2 := by kernel_rfl
  have hun : Tryz.prog.underlying 24 = some (.slice (Tryz.prog.elem 24)) := by kernel_rfl
  have hsz : (sizeOf (Tryz.prog.elem 24)).run Tryz.prog w = .ok 1 w := by rw [hel]; kernel_rfl
  rw [run_sliceAt_slice (h := hun), run_slice_h (ht := hun) (kh := .i64) (h := (k : Int)) (h0 := by omega) (h2 := by omega), hsz]
  simp only [Result.andThen, sliced, Int.toNat_natCast]
  split
  · rename_i h
    simp
  · simp only [Option.map_some, Addr.add_lit, Nat.zero_mul, Nat.add_zero, Nat.sub_zero]
theorem batF_many {ds : List TxnD} (h : ds.length < 1 ∨ 4 < ds.length) : batF ds = 2 := if_pos h
theorem batF_few {ds : List TxnD} (h : ¬ (ds.length < 1 ∨ 4 < ds.length)) : batF ds = if allF ds = 0 then (if (ds.map TxnD.id).Nodup then 0 else 6) else allF ds := if_neg h

set_option maxHeartbeats 4000000 in
theorem l6Batch_any (v : Value) (ds : List TxnD) (w : World) (h : TxnsAt w v ds) (hl : ds.length + sumA ds ≤ 1048576) :
    Calls Tryz.prog 38 #[v] w fun e w' => e = .returned (.int .i64 (batF ds)) ∧ Below w.heap.size w w' := by
  obtain ⟨a, cap, rfl⟩ := h.shape
  by_cases hlo : ds.length < 1
  · rw [batF_many (Or.inl hlo)]
    go_enter Tryz.func38, Tryz.ntmps38
    go_wp2
    go_ret
    exact ⟨rfl, Below.refl _ _⟩
  · by_cases hhi : 4 < ds.length
    · rw [batF_many (Or.inr hhi)]
      go_enter Tryz.func38, Tryz.ntmps38
      go_wp2
      go_ret
      exact ⟨rfl, Below.refl _ _⟩
    · have HB : Hid (batF ds = if allF ds = 0 then (if (ds.map TxnD.id).Nodup then 0 else 6) else allF ds) := batF_few (by omega)
      generalize batF ds = E at HB ⊢
      have hlo' : 1 ≤ ds.length := by omega
      have hhi' : ds.length ≤ 4 := by omega
      clear hlo hhi
      go_enter Tryz.func38, Tryz.ntmps38
      go_wp2
      go_loop [3] (fun j => ∃ k : Nat, k ≤ ds.length ∧ j = .int .i64 k ∧ Hid (∀ j, j < k → (ds.getD j txnNo).F = 0)) (fun j => ds.length - (intOf j).toNat)
      case atStart => exact ⟨0, Nat.zero_le _, rfl, fun j hj => absurd hj (Nat.not_lt_zero _)⟩
      case round =>
        obtain ⟨k, hk, rfl, HA⟩ := hrel
        by_cases hlt : k < ds.length
        · obtain ⟨b, off, aa, cc, rfl, hbs, hc0, hc1, hc2, hc3, hA⟩ := h.at k hlt
          have hzl : (ds.getD k txnNo).acts.length ≤ sumA ds := mem_le_sumA (by simp [List.getD, hlt])
          have hcall := l2Fault_any b (off + k * 4) _ _ _ aa cc _ w (TxnsAt.box hc0 hc1 hc2 hc3) hA (by omega)
          change Calls _ _ _ _ fun e w' => e = .returned (.int .i64 ((ds.getD k txnNo).F)) ∧ _ at hcall
          clear hc0 hc1 hc2 hc3 hA
          by_cases hF : (ds.getD k txnNo).F = 0
          · have HB2 : Hid (∀ j, j < k + 1 → (ds.getD j txnNo).F = 0) := by
              intro j hj
              by_cases hjk : j = k
              · subst hjk; exact hF
              · exact HA.out j (by omega)
            rw [hF] at hcall
            clear HA hF
            go_wp2_with (go_at_call 50; refine hcall.mono ?_; rintro e w' ⟨rfl, rfl⟩)
            go_round
            case rel => exact ⟨k + 1, by omega, by go_num, HB2⟩
            case measure => simp [intOf]; omega
          · have E2 : Hid (E = (ds.getD k txnNo).F) := by
              have e1 := allF_first ds k HA.out hlt hF
              have e2 := HB.out
              rw [e1, if_neg hF] at e2
              exact e2
            have hne : ((ds.getD k txnNo).F != 0) = true := by simpa using hF
            clear HA hF HB
            generalize (ds.getD k txnNo).F = r at hcall E2 hne
            go_wp2_with (go_at_call 50; refine hcall.mono ?_; rintro e w' ⟨rfl, rfl⟩)
            go_ret
            rw [E2.out]
            exact ⟨rfl, Below.refl _ _⟩
        · have hkl : k = ds.length := by omega
          subst hkl
          have E3 : Hid (E = if (ds.map TxnD.id).Nodup then 0 else 6) := by
            have e2 := HB.out
            rw [if_pos (allF_none ds HA.out)] at e2
            exact e2
          clear HA HB
          have hids := l2Ids_any _ ds w h (by omega)
          go_wp2_with fail
          refine hids.mono ?_
          rintro e w1 ⟨ib, ic, rfl, ho, hb1⟩
          have hR := Row.own ho
          have hcap := own_cap6 ho
          have hln : (ds.map TxnD.id).length ≤ 4 := by simpa using hhi'
          clear hids ho
          generalize ds.map TxnD.id = L at *
          go_wp2
          go_loopw [6] (fun j wr => ∃ k : Nat, k ≤ L.length ∧ j = .int .i64 k ∧ Hid ((L.take k).Nodup) ∧ Below w1.heap.size w1 wr) (fun j _ => L.length - (intOf j).toNat)
          case atStart => exact ⟨0, Nat.zero_le _, rfl, show List.Nodup _ by simp, Below.refl _ _⟩
          case round =>
            obtain ⟨k, hk, rfl, HA, hb⟩ := hrel
            by_cases hlt : k < L.length
            · obtain ⟨b, off, rfl, hbs, hc⟩ := (hR.below hb) k hlt
              have hTk : (L.take k).length = k := by simp; omega
              have hT := (hR.below hb).take6 k
              have HY : Hid (L.getD k 0 ∈ L.take k → E = 6) := fun hx => by rw [E3.out, if_neg (not_nodup hlt hx)]
              have HN : Hid (L.getD k 0 ∉ L.take k → (L.take (k + 1)).Nodup) := fun hx => nodup_take HA.out hlt hx
              have hfind := fun w h => l1Find_any (some ⟨b, off, none⟩) ic (L.take k) (L.getD k 0) w h (by omega)
              rw [hTk] at hfind
              clear HA hTk
              have hI : L.getD k 0 ∈ L.take k ∨ L.getD k 0 ∉ L.take k := Classical.em _
              have HI : Hid ((L.getD k 0 ∈ L.take k ∧ 0 ≤ idxI (L.take k) (L.getD k 0)) ∨ (L.getD k 0 ∉ L.take k ∧ idxI (L.take k) (L.getD k 0) = -1)) := hI.elim (fun h => Or.inl ⟨h, idxI_in h⟩) (fun h => Or.inr ⟨h, idxI_out h⟩)
              clear hI
              generalize L.getD k 0 = z at *
              generalize idxI (L.take k) z = q at *
              have k0 := lat_cell hc
              clear hc
              have hW : Below wr.heap.size wr wr.drew := (Below.refl _ _).drew
              have hne : Nonempty (Lat wr) := ⟨⟨wr, Below.refl _ _⟩⟩
              have hkL : (k : Int) ≤ (ic : Int) := by omega
              go_wp2_with fail
              refine text_begin (S := fun w' => ∃ u : Lat wr, w' = u.val) (by kernel_rfl) ?_
              refine sgr [(0, 2)] 7 (by kernel_rfl) ⟨⟨_, hW⟩, rfl⟩ ?_
              simp only [pkE]
              repeat go_big_quiet_step (fail)
              refine wpQuiet_nil ?_
              have hsl := sl_hi b off L.length ic k (by omega)
              refine qta 2 (some 38) (.slice (some ⟨b, off, none⟩) k ic) 6 (by kernel_rfl) (fun u _ => ?_) ⟨⟨_, hW⟩, rfl⟩ ?_
              · show some (((Instr.sliceAt 24 (.slice (some ⟨b, off, none⟩) L.length ic) none (some (.int .i64 (k : Int))) none) >>= fun x => pure (Next.value x) : Sem Next).run Tryz.prog u) = _
                rw [Sem.run_bind, hsl u]
                rfl
              clear hsl
              simp only [Act.put, pjE]
              refine sgr [(3, 4)] 2 (by kernel_rfl) ⟨⟨_, hW⟩, rfl⟩ ?_
              simp only [pkE]
              repeat go_big_quiet_step (fail)
              refine wpQuiet_nil ?_
              refine cla 7 (some 43) 52 #[.slice (some ⟨b, off, none⟩) k ic, .int .i64 z] 1 (by kernel_rfl) ?_
              refine (hfind _ (hT.below hW)).mono ?_
              rintro e w2 ⟨rfl, hw2⟩
              replace hw2 := hw2.symm
              subst hw2
              refine ⟨_, rfl, ⟨⟨_, hW⟩, rfl⟩, ?_⟩
              simp only [Act.put, pjE]
              refine sgr [(8, 1)] 0 (by kernel_rfl) ⟨⟨_, hW⟩, rfl⟩ ?_
              simp only [pkE]
              repeat go_big_quiet_step (fail)
              refine wpQuiet_nil ?_
              refine text_end (by kernel_rfl) ?_
              replace hb := hb.trans (hW.mono hb.size)
              clear k0 hW hne hfind hT hkL
              generalize wr.drew = wd at *
              by_cases hq : 0 ≤ q
              · have E5 : Hid (E = 6) := by
                  rcases HI.out with h | h
                  · exact HY.out h.1
                  · omega
                clear HI HY HN E3
                go_wp2
                go_ret
                exact ⟨by rw [E5.out]; rfl, hb1.trans (hb.mono hb1.size)⟩
              · have R : Hid ((L.take (k + 1)).Nodup) := by
                  rcases HI.out with h | h
                  · omega
                  · exact HN.out h.1
                clear HI HY HN
                go_wp2
                go_roundw
                case rel => exact ⟨k + 1, by omega, by go_num, R, hb⟩
                case measure => simp [intOf]; omega
            · have hkl : k = L.length := by omega
              subst hkl
              rw [List.take_length] at HA
              have E4 : Hid (E = 0) := by
                have := E3.out
                rw [if_pos HA.out] at this
                exact this
              clear HA E3
              go_wp2
              go_ret
              exact ⟨by rw [E4.out]; rfl, hb1.trans (hb.mono hb1.size)⟩

end Go.Proofs.YtmlkfmjenkcflaaGreatDoor
