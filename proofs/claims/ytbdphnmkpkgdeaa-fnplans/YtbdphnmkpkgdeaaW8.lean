/- Without, of the program and of its model. No condition. -/
import Derived.Test.YtbdphnmkpkgdeaaL8
import Derived.Test.YtbdphnmkpkgdeaaCp8
namespace Go.Proofs.Ytbdphnmkpkgdeaa
open Go.RowKit
open Go.BigFrame
set_option linter.unusedVariables false
set_option linter.unusedSimpArgs false

/-- Those of which none of the others has the name. -/
def witL (ds gone : List TxnD) : List TxnD := ds.filter (fun t => !knw gone t)
def witQ (ps : List TxnQ) (gone : List TxnD) : List TxnQ := ps.filter (fun p => !knw gone (TxnQ.e p))
theorem wit_map (ps : List TxnQ) (gone : List TxnD) : (witQ ps gone).map TxnQ.e = witL (ps.map TxnQ.e) gone := by
  induction ps with
  | nil => rfl
  | cons p r ih =>
    simp only [witQ, witL, List.map_cons, List.filter_cons] at ih ⊢
    split <;> simp [ih]
theorem wit_succ (ps : List TxnQ) (gone : List TxnD) (k : Nat) (hk : k < ps.length) : witQ (ps.take (k + 1)) gone = if knw gone (TxnQ.e ps[k]) then witQ (ps.take k) gone else witQ (ps.take k) gone ++ [ps[k]] := by
  unfold witQ
  rw [List.take_succ_eq_append_getElem hk, List.filter_append]
  cases h : knw gone (TxnQ.e ps[k]) <;> simp [List.filter_cons, h]
theorem witL_succ (ds : List TxnD) (gone : List TxnD) (k : Nat) (hk : k < ds.length) : witL (ds.take (k + 1)) gone = if knw gone ds[k] then witL (ds.take k) gone else witL (ds.take k) gone ++ [ds[k]] := by
  unfold witL
  rw [List.take_succ_eq_append_getElem hk, List.filter_append]
  cases h : knw gone ds[k] <;> simp [List.filter_cons, h]
theorem wit_len (ps : List TxnQ) (gone : List TxnD) (k : Nat) : (witQ (ps.take k) gone).length ≤ k := by
  have h1 : (witQ (ps.take k) gone).length ≤ (ps.take k).length := List.length_filter_le ..
  rw [List.length_take] at h1
  omega
theorem witL_len (ds : List TxnD) (gone : List TxnD) (k : Nat) : (witL (ds.take k) gone).length ≤ k := by
  have h1 : (witL (ds.take k) gone).length ≤ (ds.take k).length := List.length_filter_le ..
  rw [List.length_take] at h1
  omega
theorem wit_mem {ps : List TxnQ} {gone : List TxnD} {p : TxnQ} (h : p ∈ witQ ps gone) : p ∈ ps := (List.mem_filter.1 h).1
theorem wit_n (ps : List TxnQ) (gone : List TxnD) : (witQ ps gone).length + nmL TxnQ.n (witQ ps gone) ≤ ps.length + nmL TxnQ.n ps := by
  induction ps with
  | nil => simp [witQ, nmL]
  | cons p r ih =>
    simp only [witQ, List.filter_cons, List.length_cons] at ih ⊢
    simp only [nmL, List.map_cons, List.sum_cons] at ih ⊢
    split
    · simp only [List.length_cons, List.map_cons, List.sum_cons]
      omega
    · omega
theorem stp_zero {acc : List TxnD} {t : TxnD} (h : stpF acc t = 0) : t.F = 0 ∧ knw acc t = false := by
  unfold stpF at h
  by_cases h0 : t.F = 0
  · rw [if_pos h0] at h
    refine ⟨h0, ?_⟩
    cases hk : knw acc t with
    | false => rfl
    | true => rw [hk] at h; exact absurd h (by decide)
  · rw [if_neg h0] at h
    exact absurd h h0
theorem lstGo_mem : ∀ (r acc : List TxnD), lstGo acc r = 0 → ∀ t ∈ r, t.F = 0
  | [], _, _, t, ht => by simp at ht
  | x :: r, acc, h, t, ht => by
    rw [lstGo] at h
    by_cases h0 : stpF acc x = 0
    · rw [if_pos h0] at h
      rcases List.mem_cons.1 ht with rfl | ht
      · exact (stp_zero h0).1
      · exact lstGo_mem r _ h t ht
    · rw [if_neg h0] at h
      exact absurd h h0
theorem lst_mem {ds : List TxnD} (h : lstF ds = 0) : ds.length ≤ 40 ∧ ∀ t ∈ ds, t.F = 0 := by
  unfold lstF at h
  by_cases h4 : 40 < ds.length
  · rw [if_pos h4] at h
    exact absurd h (by decide)
  · rw [if_neg h4] at h
    exact ⟨by omega, lstGo_mem ds [] h⟩
theorem txn_pos {t : TxnD} (h : t.F = 0) : 0 < t.acts.length := by
  obtain ⟨i, s, q, zs⟩ := t
  have h : txnF i s q zs = 0 := h
  rcases txnF_ways i s q zs with ⟨_, e⟩ | ⟨_, _, e⟩ | ⟨_, _, _, e⟩ | ⟨_, _, _, ⟨_, e⟩ | ⟨_, e⟩ | ⟨h1, _, _⟩⟩
  · rw [e] at h; exact absurd h (by decide)
  · rw [e] at h; exact absurd h (by decide)
  · rw [e] at h; exact absurd h (by decide)
  · rw [e] at h; exact absurd h (by decide)
  · rw [e] at h; exact absurd h (by decide)
  · show 0 < zs.length
    omega
theorem bth_zero {ds ds' : List TxnD} (h : bthF ds ds' = 0) : lstF ds = 0 ∧ lstF ds' = 0 := by
  unfold bthF at h
  by_cases h0 : lstF ds = 0
  · rw [if_pos h0] at h
    exact ⟨h0, h⟩
  · rw [if_neg h0] at h
    exact absurd h h0
theorem lst_pos {ps : List TxnQ} (h : lstF (ps.map TxnQ.e) = 0) : ∀ p ∈ ps, 0 < p.acts.length := fun p hp => txn_pos (t := TxnQ.e p) ((lst_mem h).2 _ (List.mem_map.2 ⟨p, hp, rfl⟩))

set_option maxRecDepth 100000 in
set_option maxHeartbeats 4000000 in
theorem outside_any (v v' : Value) (ps gs : List TxnQ) (w : World) (h : txnK.At w v ps) (h' : txnK.At w v' gs) (hl : ps.length ≤ 40) (hl' : gs.length ≤ 1048576) :
    Calls Try.prog 41 #[v, v'] w fun e w' => ∃ v2, e = .returned v2 ∧ w'.ownsRow w.heap.size 35 4 v2 (witQ ps (gs.map TxnQ.e)).length (txnK.row (witQ ps (gs.map TxnQ.e))) ∧ Below w.heap.size w w' := by
  obtain ⟨a, cap, rfl⟩ := h.shape
  obtain ⟨a', cap', rfl⟩ := h'.shape
  obtain ⟨i0, hi, hz0, hz1, hz2⟩ := info_parts infoTxn
  have hhas := fun x a n c w h => implHasTxn_any (.slice a' gs.length cap') gs x a n c w h hl'
  generalize gs.map TxnQ.e = gd at *
  have hn1 : w.ownsRow w.heap.size 35 4 (.slice none 0 0) (witQ (ps.take 0) gd).length (txnK.row (witQ (ps.take 0) gd)) := World.ownsRow_nil _ _ _ _
  go_enter Try.func41, Try.ntmps41
  go_wp2
  go_loopw [5, 10] (fun v j wr => ∃ k : Nat, k ≤ ps.length ∧ j = .int .i64 k ∧ wr.ownsRow w.heap.size 35 4 v (witQ (ps.take k) gd).length (txnK.row (witQ (ps.take k) gd)) ∧ Below w.heap.size w wr) (fun _ j _ => ps.length - (intOf j).toNat)
  case atStart => exact ⟨0, Nat.zero_le _, rfl, hn1, Below.refl _ _⟩
  case round =>
    clear hn1
    obtain ⟨k, hk, rfl, hO, hb⟩ := hrel
    by_cases hlt : k < ps.length
    · have HW := wit_succ ps gd k hlt
      have HQL := wit_len ps gd k
      obtain ⟨b, off, rfl, hbs, hc, hrd⟩ := (h.below hb).cell (by decide) k hlt
      have hc' : ∀ j x, (txnK.cells ps[k])[j]? = some x → wr.cell? ⟨b, off + k * 4 + j, none⟩ = some x := hc
      have c0 := hc' 0 (.int .i64 ps[k].i) rfl
      have c1 := hc' 1 (.int .i64 ps[k].s) rfl
      have c2 := hc' 2 (.int .i64 ps[k].q) rfl
      have c3 := hc' 3 (ps[k].va) rfl
      rw [Nat.add_zero] at c0
      clear hc hc'
      generalize witQ (ps.take k) gd = qs at *
      obtain ⟨sa, sc, rfl⟩ := own_shape hO
      generalize hK : knw gd (TxnQ.e ps[k]) = K at *
      have HK : Hid (knw gd (TxnQ.e ps[k]) = K) := hK
      clear hK
      generalize ps[k] = p at *
      obtain ⟨i, s, q, va, acts⟩ := p
      replace hrd : actK.At wr va acts := hrd
      obtain ⟨aa, ac, rfl⟩ := hrd.shape
      dsimp only [TxnQ.e] at c0 c1 c2 c3 HK
      have hbY : Below wr.heap.size wr (wr.alloc (.cells #[.int .i64 i, .int .i64 s, .int .i64 q, .slice aa acts.length ac] 35)) := by go_grown
      have hX := Blk.new wr 35 #[.int .i64 i, .int .i64 s, .int .i64 q, .slice aa acts.length ac]
      have hq := hhas ⟨i, s, q, acts⟩ aa acts.length ac _ (h'.below (hb.trans (hbY.mono hb.size)))
      rw [HK.out] at hq
      dsimp only at hq
      replace hO := own_below hO hbY
      replace hb := hb.trans (hbY.mono hb.size)
      have hlti : (k : Int) < (ps.length : Int) := by omega
      clear hbY HK hrd
      go_wp2_with fail
      clear c0 c1 c2 c3
      have hlx : wr.heap.size < (wr.alloc (.cells #[.int .i64 i, .int .i64 s, .int .i64 q, .slice aa acts.length ac] 35)).heap.size := by simp
      generalize wr.heap.size = H at *
      generalize wr.alloc (.cells #[.int .i64 i, .int .i64 s, .int .i64 q, .slice aa acts.length ac] 35) = Y at *
      refine hq.mono ?_
      rintro e w2 ⟨rfl, hb2⟩
      replace hO := own_below hO hb2
      replace hb := hb.trans (hb2.mono hb.size)
      replace hX := hX.below hb2
      clear hq hb2
      cases K with
      | true =>
        rw [if_pos rfl] at HW
        rw [← HW] at hO
        have HH : Hid (w2.ownsRow w.heap.size 35 4 (.slice sa (witQ (ps.take (k + 1)) gd).length sc) (witQ (ps.take (k + 1)) gd).length (txnK.row (witQ (ps.take (k + 1)) gd))) := hO
        rw [← HW]
        clear HW hO
        go_wp2
        go_roundw
        case rel => exact ⟨k + 1, by omega, by go_num, HH.out, hb⟩
        case measure => simp [intOf]; omega
      | false =>
        have HW2 : Hid (witQ (ps.take (k + 1)) gd = qs ++ [(⟨i, s, q, .slice aa acts.length ac, acts⟩ : TxnQ)]) := HW
        clear HW
        have x0 := hX.cell 0 _ rfl
        have x1 := hX.cell 1 _ rfl
        have x2 := hX.cell 2 _ rfl
        have x3 := hX.cell 3 _ rfl
        have hbA : Below w2.heap.size w2 (w2.alloc (.cells #[.int .i64 i, .int .i64 s, .int .i64 q, .slice aa acts.length ac] 35)) := by go_grown
        have hOA := own_below hO hbA
        have hbB := hb.trans (hbA.mono hb.size)
        have hsz := hb.size
        clear hO hb hX
        go_wp2_with (at_builtin; refine wpList_append_own_at _ rfl _ _ 24 rfl w.heap.size 35 i0 (.agg #[.int .i64 0, .int .i64 0, .int .i64 0, .slice none 0 0]) 4 48 Try.underlying24 hi hz0 hz1 hz2 rfl (by decide) _ qs.length (txnK.row qs) rfl hOA ⟨w2.heap.size, 0, none⟩ 1 1 [.int .i64 i, .int .i64 s, .int .i64 q, .slice aa acts.length ac] rfl rfl ?c1 ?c2 ?c3 ?c4 ?c5 ?_)
        all_goals try (case c1 => intro j u hj; match j, hj with | 0, hj => simp at hj; subst hj; simp [Addr.add] | 1, hj => simp at hj; subst hj; simp [Addr.add] | 2, hj => simp at hj; subst hj; simp [Addr.add] | 3, hj => simp at hj; subst hj; simp [Addr.add])
        all_goals try (case c2 => intro u hu; simp at hu; rcases hu with rfl | rfl | rfl | rfl <;> rfl)
        all_goals try (case c3 => unfold maxLen; omega)
        all_goals try (case c4 => omega)
        all_goals try (case c5 => have := hbA.size; omega)
        intro v' w5 hown hgrow hnil hat5
        have hrow : txnK.row (qs ++ [(⟨i, s, q, .slice aa acts.length ac, acts⟩ : TxnQ)]) = txnK.row qs ++ [.int .i64 i, .int .i64 s, .int .i64 q, .slice aa acts.length ac] := by simp [Kind.row]; rfl
        have hown5 : w5.ownsRow w.heap.size 35 4 v' (witQ (ps.take (k + 1)) gd).length (txnK.row (witQ (ps.take (k + 1)) gd)) := by rw [HW2.out, hrow, List.length_append]; exact hown
        have hb5 : Below w.heap.size w w5 := hbB.grown hgrow hbB.size (fun j hj => by have := (hOA.lt j hj).1; omega)
        clear hown hgrow hnil hat5 hrow hOA hbB x0 x1 x2 x3
        go_wp2
        go_roundw
        case rel => exact ⟨k + 1, by omega, by go_num, hown5, hb5⟩
        case measure => simp [intOf]; omega
    · have hkl : k = ps.length := by omega
      subst hkl
      rw [List.take_length] at hO
      have hlti : ¬ ((ps.length : Nat) : Int) < (ps.length : Int) := by omega
      go_wp2
      go_ret
      exact ⟨_, rfl, hO, hb⟩

/-- What Without answers. -/
def wiL (ds ds' : List TxnD) : List TxnD := if bthF ds ds' = 0 then witL ds ds' else []

set_option maxRecDepth 100000 in
set_option maxHeartbeats 4000000 in
theorem implWithout_any (v v' : Value) (ps ps' : List TxnQ) (w : World) (h : txnK.At w v ps) (h' : txnK.At w v' ps') (hl : ps.length + nmL TxnQ.n ps ≤ 1048576) (hl' : ps'.length + nmL TxnQ.n ps' ≤ 1048576) :
    Calls Try.prog 13 #[v, v'] w fun e w' => ∃ (v2 : Value) (qs : List TxnQ), e = .returned (.agg #[.int .i64 (bthF (ps.map TxnQ.e) (ps'.map TxnQ.e)), v2]) ∧ qs.map TxnQ.e = wiL (ps.map TxnQ.e) (ps'.map TxnQ.e) ∧ txnK.Own w' v2 qs ∧ (txnK.fp v2 qs).Nodup ∧ (∀ k ∈ txnK.fp v2 qs, w.heap.size ≤ k) ∧ Below w.heap.size w w' := by
  have HV : Hid ((bthF (ps.map TxnQ.e) (ps'.map TxnQ.e) = 0 → wiL (ps.map TxnQ.e) (ps'.map TxnQ.e) = witL (ps.map TxnQ.e) (ps'.map TxnQ.e)) ∧ (bthF (ps.map TxnQ.e) (ps'.map TxnQ.e) ≠ 0 → wiL (ps.map TxnQ.e) (ps'.map TxnQ.e) = [])) := ⟨fun h0 => if_pos h0, fun h0 => if_neg h0⟩
  have HL : Hid (bthF (ps.map TxnQ.e) (ps'.map TxnQ.e) = 0 → ps.length ≤ 40 ∧ ∀ p ∈ ps, 0 < p.acts.length) := fun h0 => ⟨by simpa using (lst_mem (bth_zero h0).1).1, lst_pos (bth_zero h0).1⟩
  have hB : Below w.heap.size w (w.alloc (.cells #[.int .i64 0, .slice none 0 0] 31)) := by go_grown
  have Rb := Blk.new w 31 #[.int .i64 0, .slice none 0 0]
  have hq := listsTwo_any v v' ps ps' (w.alloc (.cells #[.int .i64 0, .slice none 0 0] 31)) (h.below hB) (h'.below hB) hl hl'
  rw [World.size_alloc] at hq
  obtain ⟨a, cap, rfl⟩ := h.shape
  obtain ⟨a', cap', rfl⟩ := h'.shape
  generalize bthF (ps.map TxnQ.e) (ps'.map TxnQ.e) = C at *
  generalize wiL (ps.map TxnQ.e) (ps'.map TxnQ.e) = V at *
  go_enter Try.func13, Try.ntmps13
  go_wp2_with fail
  refine hq.mono ?_
  rintro e w1 ⟨rfl, hb1⟩
  rw [← World.size_alloc w (.cells #[.int .i64 0, .slice none 0 0] 31)] at hb1
  replace hB := hB.trans (hb1.mono hB.size)
  replace Rb := Rb.below hb1
  clear hq hb1
  by_cases hC : C = 0
  · have HV0 : Hid (V = witL (ps.map TxnQ.e) (ps'.map TxnQ.e)) := HV.out.1 hC
    obtain ⟨h40, hpos⟩ := HL.out hC
    subst hC
    clear HV HL
    have ho := outside_any (.slice a ps.length cap) (.slice a' ps'.length cap') ps ps' w1 (h.below hB) (h'.below hB) h40 (by omega)
    go_wp2_with fail
    refine ho.mono ?_
    rintro e w2 ⟨v2, rfl, hrow, hb2⟩
    have hB2 := hB.trans (hb2.mono hB.size)
    have hat2 : txnK.At w2 v2 (witQ ps (ps'.map TxnQ.e)) := Kind.at_of_row hrow (fun q hq => (h.below hB2).rdm (wit_mem hq))
    have hcl := cloneTxns_any v2 _ w2 hat2 (fun p hp => hpos p (wit_mem hp)) (by have := wit_n ps (ps'.map TxnQ.e); omega)
    rw [wit_map] at hcl
    replace Rb := Rb.below hb2
    obtain ⟨a2, c2, rfl⟩ := own_shape hrow
    have hHs : w.heap.size < w2.heap.size := Rb.lt
    clear hat2 ho hrow
    go_wp2_with fail
    refine hcl.mono ?_
    rintro e w3 ⟨v3, q3, rfl, e3, o3, n3, g3, hb3⟩
    replace Rb := Rb.below hb3
    have hB3 := hB2.trans (hb3.mono hB2.size)
    clear hcl hb3 hB2 hb2
    obtain ⟨a3, c3, rfl⟩ := o3.shape
    have q0 := Rb.cell 0 _ rfl
    have q1 := Rb.cell 1 _ rfl
    have f0 := Rb.frozen 0
    have f1 := Rb.frozen 1
    have E3 : Hid (q3.map TxnQ.e = V) := show _ = _ by rw [HV0.out]; exact e3
    have hne : ∀ k ∈ txnK.fp (.slice a3 q3.length c3) q3, k ∉ [w.heap.size] := fun k hk => by have := g3 k hk; simp only [List.mem_singleton]; omega
    have o4 := (o3.out (Out.setCell w3 w.heap.size 0 (.int .i64 0)) hne).out (Out.setCell _ w.heap.size 1 (.slice a3 q3.length c3)) hne
    have g4 : ∀ k ∈ txnK.fp (.slice a3 q3.length c3) q3, w.heap.size ≤ k := fun k hk => by have := g3 k hk; omega
    clear HV0 e3
    go_wp2
    exact bodyPost_ret (v := .agg #[.int .i64 0, .slice a3 q3.length c3]) (by simp [results, Try.results13, go_sem, q0, q1]) rfl ⟨_, q3, rfl, E3.out, o4, n3, g4, (hB3.setCell (p := ⟨w.heap.size, 0, none⟩) (Nat.le_refl _) _).setCell (p := ⟨w.heap.size, 1, none⟩) (Nat.le_refl _) _⟩
  · have HR : Hid (V = []) := HV.out.2 hC
    have q0 := Rb.cell 0 _ rfl
    have q1 := Rb.cell 1 _ rfl
    have f0 := Rb.frozen 0
    have f1 := Rb.frozen 1
    obtain ⟨hn1, hn2⟩ := Kind.own_nil (K := txnK) ((w1.setCell ⟨w.heap.size, 0, none⟩ (.int .i64 C)).setCell ⟨w.heap.size, 1, none⟩ (.slice none 0 0))
    clear HV HL
    go_wp2
    exact bodyPost_ret (v := .agg #[.int .i64 C, .slice none 0 0]) (by simp [results, Try.results13, go_sem, q0, q1]) rfl ⟨_, [], rfl, by rw [HR.out]; rfl, hn1, by rw [hn2]; simp, by rw [hn2]; simp, (hB.setCell (p := ⟨w.heap.size, 0, none⟩) (Nat.le_refl _) _).setCell (p := ⟨w.heap.size, 1, none⟩) (Nat.le_refl _) _⟩

set_option maxRecDepth 100000 in
set_option maxHeartbeats 4000000 in
theorem l8Without_any (v v' : Value) (ps gs : List TxnQ) (w : World) (h : txnK.At w v ps) (h' : txnK.At w v' gs) (hne : ∀ p ∈ ps, 0 < p.acts.length) (h40 : ps.length ≤ 40) (hl : ps.length + nmL TxnQ.n ps ≤ 1048576) (hl' : gs.length ≤ 1048576) :
    Calls Try.prog 47 #[v, v'] w fun e w' => ∃ v2 qs, e = .returned v2 ∧ qs.map TxnQ.e = witL (ps.map TxnQ.e) (gs.map TxnQ.e) ∧ txnK.Own w' v2 qs ∧ (txnK.fp v2 qs).Nodup ∧ (∀ k ∈ txnK.fp v2 qs, w.heap.size ≤ k) ∧ Below w.heap.size w w' := by
  obtain ⟨a, cap, rfl⟩ := h.shape
  obtain ⟨a', cap', rfl⟩ := h'.shape
  obtain ⟨i0, hi, hz0, hz1, hz2⟩ := info_parts infoTxn
  have hkn := fun b o x va w h hB => l7Known_any (.slice a' gs.length cap') gs b o x va w h hB hl'
  generalize gs.map TxnQ.e = gd at *
  have ho := World.ownsRow_lit (e := 35) (size := 4) w #[] 0 (Nat.le_refl _) (by decide) rfl
  have hn1 : txnK.Own (w.alloc (.cells #[] 35)) (.slice (some ⟨w.heap.size, 0, none⟩) 0 0) ([] : List TxnQ) := ⟨(own_zero ho).1, fun p hp => by simp at hp⟩
  have hnb : Below w.heap.size w (w.alloc (.cells #[] 35)) := by go_grown
  have HN0 : Hid ((txnK.fp (.slice (some ⟨w.heap.size, 0, none⟩) 0 0) ([] : List TxnQ)).Nodup ∧ ∀ k ∈ txnK.fp (.slice (some ⟨w.heap.size, 0, none⟩) 0 0) ([] : List TxnQ), w.heap.size ≤ k) := by
    refine ⟨?_, ?_⟩
    · simp [Kind.fp, blk, Value.ownBlock]
    · simp [Kind.fp, blk, Value.ownBlock]
  clear ho
  go_enter Try.func47, Try.ntmps47
  go_wp2
  go_loopw [5, 6] (fun v j wr => ∃ (k : Nat) (qs : List TxnQ), k ≤ ps.length ∧ j = .int .i64 k ∧ Hid (qs.map TxnQ.e = witL ((ps.map TxnQ.e).take k) gd) ∧ txnK.Own wr v qs ∧ Hid ((txnK.fp v qs).Nodup ∧ ∀ k ∈ txnK.fp v qs, w.heap.size ≤ k) ∧ Below w.heap.size w wr) (fun _ j _ => ps.length - (intOf j).toNat)
  case atStart => exact ⟨0, [], Nat.zero_le _, rfl, (rfl : _ = _), hn1, HN0, hnb⟩
  case round =>
    clear HN0 hn1 hnb
    obtain ⟨k, qs, hk, rfl, HE, hO, HN, hb⟩ := hrel
    obtain ⟨sa, sc, rfl⟩ := hO.shape
    have HQL : Hid (qs.length ≤ k) := show _ ≤ _ by
      have h1 := congrArg List.length HE.out
      have h2 := witL_len (ps.map TxnQ.e) gd k
      rw [List.length_map] at h1
      omega
    by_cases hlt : k < ps.length
    · obtain ⟨b, off, rfl, hbs, hc, hrd⟩ := (h.below hb).cell (by decide) k hlt
      have hc' : ∀ j x, (txnK.cells ps[k])[j]? = some x → wr.cell? ⟨b, off + k * 4 + j, none⟩ = some x := hc
      have c0 := hc' 0 (.int .i64 ps[k].i) rfl
      have c1 := hc' 1 (.int .i64 ps[k].s) rfl
      have c2 := hc' 2 (.int .i64 ps[k].q) rfl
      have c3 := hc' 3 (ps[k].va) rfl
      rw [Nat.add_zero] at c0
      have hzl := nm_le TxnQ.n ps k hlt
      have hpos := hne _ (List.getElem_mem hlt)
      have HW : Hid (witL ((ps.map TxnQ.e).take (k + 1)) gd = if knw gd (TxnQ.e ps[k]) then qs.map TxnQ.e else qs.map TxnQ.e ++ [TxnQ.e ps[k]]) := show _ = _ by
        have := witL_succ (ps.map TxnQ.e) gd k (by simpa using hlt)
        rw [this, HE.out]
        simp
      clear hc hc' HE
      generalize hK : knw gd (TxnQ.e ps[k]) = K at *
      have HK : Hid (knw gd (TxnQ.e ps[k]) = K) := hK
      clear hK
      generalize ps[k] = p at *
      obtain ⟨i, s, q, va, acts⟩ := p
      replace hrd : actK.At wr va acts := hrd
      replace hzl : acts.length ≤ nmL TxnQ.n ps := hzl
      obtain ⟨aa, ac, rfl⟩ := hrd.shape
      dsimp only at c0 c1 c2 c3 hpos
      obtain ⟨ab, ao, haa⟩ : ∃ ab ao, aa = some ⟨ab, ao, none⟩ := by
        rcases (actK_at hrd).2 with h0 | ⟨ab, ao, e, _⟩
        · have := actCells_length acts
          rw [h0] at this
          simp at this
          omega
        · exact ⟨ab, ao, e⟩
      subst haa
      have hB4 : Box4 wr b (off + k * 4) (.int .i64 i) (.int .i64 s) (.int .i64 q) (.slice (some ⟨ab, ao, none⟩) acts.length ac) := ⟨c0, c1, c2, c3⟩
      have hq := hkn b (off + k * 4) (TxnQ.e ⟨i, s, q, .slice (some ⟨ab, ao, none⟩) acts.length ac, acts⟩) _ wr (h'.below hb) hB4
      rw [HK.out] at hq
      clear HK c0 c1 c2 c3 hkn
      have hlti : (k : Int) < (ps.length : Int) := by omega
      go_wp2_with fail
      refine hq.mono ?_
      rintro e w1 ⟨rfl, hb1⟩
      have HLT := hO.lt
      replace hO := hO.below hb1
      replace hb := hb.trans (hb1.mono hb.size)
      replace hB4 := hB4.below hb1
      have hs1 := hb1.size
      cases K with
      | true =>
        have HE2 : Hid (qs.map TxnQ.e = witL ((ps.map TxnQ.e).take (k + 1)) gd) := show _ = _ by rw [HW.out]; rfl
        clear HW hB4 hb1
        go_wp2
        go_roundw
        case rel => exact ⟨k + 1, qs, by omega, by go_num, HE2, hO, HN, hb⟩
        case measure => simp [intOf]; omega
      | false =>
        have HPE : Hid (∀ p' : TxnQ, p'.e = (⟨i, s, q, acts⟩ : TxnD) → (qs ++ [p']).map TxnQ.e = witL ((ps.map TxnQ.e).take (k + 1)) gd) := fun p' hp' => by
          rw [HW.out, List.map_append, List.map_singleton, hp']
          rfl
        clear HW
        have hcl := l2Copy_any i s q ab ao ac acts w1 ((actK_at hrd).2.below hb1) hpos (by omega)
        obtain ⟨c0, c1, c2, c3⟩ := hB4
        clear hrd hb1
        go_wp2_with fail
        clear c0 c1 c2 c3
        have hYs : w.heap.size ≤ w1.heap.size := hb.size
        refine hcl.mono ?_
        rintro e w2 ⟨a2, c2, rfl, ho2, hb2⟩
        replace hO := hO.below hb2
        replace hb := hb.trans (hb2.mono hb.size)
        obtain ⟨o2, hk2⟩ := own_zero ho2
        have hP : txnK.own w2 ⟨i, s, q, .slice a2 acts.length c2, acts⟩ := ⟨o2, fun _ _ => trivial⟩
        have hPlo : ∀ x ∈ txnK.foot ⟨i, s, q, .slice a2 acts.length c2, acts⟩, w1.heap.size ≤ x := fun x hx => hk2 x (by rw [← actK_fp (.slice a2 acts.length c2) acts]; exact hx)
        have hPn : (txnK.foot ⟨i, s, q, .slice a2 acts.length c2, acts⟩).Nodup := by
          show (actK.fp _ _).Nodup
          rw [actK_fp]; exact blk_nodup _
        have hbA : Below w2.heap.size w2 (w2.alloc (.cells #[.int .i64 i, .int .i64 s, .int .i64 q, .slice a2 acts.length c2] 35)) := by go_grown
        have hOA := hO.below hbA
        have hPA := txnK.own_out (F := []) hP (Out.of_below hbA) (fun _ _ => by simp)
        have hbB := hb.trans (hbA.mono hb.size)
        clear hcl ho2 hO hP hk2
        have hrow0 := hOA.1
        go_wp2_with (at_builtin; refine wpList_append_own_at _ rfl _ _ 24 rfl 0 35 i0 (.agg #[.int .i64 0, .int .i64 0, .int .i64 0, .slice none 0 0]) 4 48 Try.underlying24 hi hz0 hz1 hz2 rfl (by decide) _ qs.length (txnK.row qs) rfl hrow0 ⟨w2.heap.size, 0, none⟩ 1 1 [.int .i64 i, .int .i64 s, .int .i64 q, .slice a2 acts.length c2] rfl rfl ?c1 ?c2 ?c3 ?c4 ?c5 ?_)
        all_goals try (case c1 => intro j u hj; match j, hj with | 0, hj => simp at hj; subst hj; simp [Addr.add] | 1, hj => simp at hj; subst hj; simp [Addr.add] | 2, hj => simp at hj; subst hj; simp [Addr.add] | 3, hj => simp at hj; subst hj; simp [Addr.add])
        all_goals try (case c2 => intro u hu; simp at hu; rcases hu with rfl | rfl | rfl | rfl <;> rfl)
        all_goals try (case c3 => have := HQL.out; unfold maxLen; omega)
        all_goals try (case c4 => have := HQL.out; omega)
        all_goals try (case c5 => first | omega | simp)
        intro v' w5 hown hgrow hnil hat
        clear hnil hrow0
        rw [show w2.heap.size + 1 = (w2.alloc (.cells #[.int .i64 i, .int .i64 s, .int .i64 q, .slice a2 acts.length c2] 35)).heap.size from (World.size_alloc _ _).symm] at hat
        generalize hwA : w2.alloc (.cells #[.int .i64 i, .int .i64 s, .int .i64 q, .slice a2 acts.length c2] 35) = WA at *
        clear hwA
        obtain ⟨hO5, hn5, hlo5, hou⟩ := hOA.snoc HN.out.1 HN.out.2 hPA hPn (fun x hx hx' => by have := HLT x hx'; have := hPlo x hx; omega) (fun x hx => by have := hPlo x hx; omega) hbB.size hown hgrow hat
        have hb5 : Below w.heap.size w w5 := Out.keep hbB hou hbB.size (fun x hx => HN.out.2 x (by simp only [Kind.fp, List.mem_append]; exact Or.inl hx))
        have HE5 : Hid ((qs ++ [(⟨i, s, q, .slice a2 acts.length c2, acts⟩ : TxnQ)]).map TxnQ.e = witL ((ps.map TxnQ.e).take (k + 1)) gd) := HPE.out _ rfl
        have HN5 : Hid ((txnK.fp v' (qs ++ [(⟨i, s, q, .slice a2 acts.length c2, acts⟩ : TxnQ)])).Nodup ∧ ∀ k ∈ txnK.fp v' (qs ++ [(⟨i, s, q, .slice a2 acts.length c2, acts⟩ : TxnQ)]), w.heap.size ≤ k) := ⟨hn5, hlo5⟩
        clear HPE HN HLT hPlo hPn hPA hOA hbB hown hgrow hat hou hn5 hlo5 hb hbA hb2 hzl hpos
        go_wp2
        go_roundw
        case rel => exact ⟨k + 1, _, by omega, by go_num, HE5, hO5, HN5, hb5⟩
        case measure => simp [intOf]; omega
    · have hkl : k = ps.length := by omega
      subst hkl
      have hE := HE.out
      rw [List.take_of_length_le (by simp)] at hE
      have hlti : ¬ ((ps.length : Nat) : Int) < (ps.length : Int) := by omega
      clear HE
      go_wp2
      go_ret
      first | exact ⟨_, qs, rfl, hE, hO, HN.out.1, HN.out.2, hb⟩ | exact ⟨_, rfl, qs, hE, hO, HN.out.1, HN.out.2, hb⟩

set_option maxRecDepth 100000 in
set_option maxHeartbeats 4000000 in
theorem specWithout_any (v v' : Value) (ps ps' : List TxnQ) (w : World) (h : txnK.At w v ps) (h' : txnK.At w v' ps') (hcp : CapOk v) (hcp' : CapOk v') (hl : ps.length + nmL TxnQ.n ps ≤ 1048576) (hl' : ps'.length + nmL TxnQ.n ps' ≤ 1048576) :
    Calls Try.prog 16 #[v, v'] w fun e w' => ∃ (v2 : Value) (qs : List TxnQ), e = .returned (.agg #[.int .i64 (bthF (ps.map TxnQ.e) (ps'.map TxnQ.e)), v2]) ∧ qs.map TxnQ.e = wiL (ps.map TxnQ.e) (ps'.map TxnQ.e) ∧ txnK.Own w' v2 qs ∧ (txnK.fp v2 qs).Nodup ∧ (∀ k ∈ txnK.fp v2 qs, w.heap.size ≤ k) ∧ Below w.heap.size w w' := by
  have HV : Hid ((bthF (ps.map TxnQ.e) (ps'.map TxnQ.e) = 0 → wiL (ps.map TxnQ.e) (ps'.map TxnQ.e) = witL (ps.map TxnQ.e) (ps'.map TxnQ.e)) ∧ (bthF (ps.map TxnQ.e) (ps'.map TxnQ.e) ≠ 0 → wiL (ps.map TxnQ.e) (ps'.map TxnQ.e) = [])) := ⟨fun h0 => if_pos h0, fun h0 => if_neg h0⟩
  have HL : Hid (bthF (ps.map TxnQ.e) (ps'.map TxnQ.e) = 0 → ps.length ≤ 40 ∧ ∀ p ∈ ps, 0 < p.acts.length) := fun h0 => ⟨by simpa using (lst_mem (bth_zero h0).1).1, lst_pos (bth_zero h0).1⟩
  have hB : Below w.heap.size w (w.alloc (.cells #[.int .i64 0, .slice none 0 0] 31)) := by go_grown
  have Rb := Blk.new w 31 #[.int .i64 0, .slice none 0 0]
  have hq := l8Both_any v v' ps ps' _ (h.below hB) (h'.below hB) hcp hcp' hl hl'
  have hq2 := fun w h h' hne h40 => l8Without_any v v' ps ps' w h h' hne h40 hl (by omega)
  obtain ⟨a, cap, rfl⟩ := h.shape
  obtain ⟨a', cap', rfl⟩ := h'.shape
  generalize bthF (ps.map TxnQ.e) (ps'.map TxnQ.e) = C at *
  generalize wiL (ps.map TxnQ.e) (ps'.map TxnQ.e) = V at *
  go_enter Try.func16, Try.ntmps16
  go_wp2_with fail
  refine hq.mono ?_
  rintro e w1 ⟨rfl, hb1⟩
  replace hB := hB.trans (hb1.mono hB.size)
  replace Rb := Rb.below hb1
  clear hq hb1
  by_cases hC : C = 0
  · have HV0 : Hid (V = witL (ps.map TxnQ.e) (ps'.map TxnQ.e)) := HV.out.1 hC
    obtain ⟨h40, hpos⟩ := HL.out hC
    subst hC
    clear HV HL
    have hHs : w.heap.size < w1.heap.size := Rb.lt
    go_wp2_with fail
    refine (hq2 w1 (h.below hB) (h'.below hB) hpos h40).mono ?_
    rintro e w3 ⟨v3, q3, rfl, e3, o3, n3, g3, hb3⟩
    replace Rb := Rb.below hb3
    have hB3 := hB.trans (hb3.mono hB.size)
    clear hq2 hb3
    obtain ⟨a3, c3, rfl⟩ := o3.shape
    have q0 := Rb.cell 0 _ rfl
    have q1 := Rb.cell 1 _ rfl
    have f0 := Rb.frozen 0
    have f1 := Rb.frozen 1
    have E3 : Hid (q3.map TxnQ.e = V) := show _ = _ by rw [HV0.out]; exact e3
    have hne : ∀ k ∈ txnK.fp (.slice a3 q3.length c3) q3, k ∉ [w.heap.size] := fun k hk => by have := g3 k hk; simp only [List.mem_singleton]; omega
    have o4 := (o3.out (Out.setCell w3 w.heap.size 0 (.int .i64 0)) hne).out (Out.setCell _ w.heap.size 1 (.slice a3 q3.length c3)) hne
    have g4 : ∀ k ∈ txnK.fp (.slice a3 q3.length c3) q3, w.heap.size ≤ k := fun k hk => by have := g3 k hk; omega
    clear HV0 e3
    go_wp2
    exact bodyPost_ret (v := .agg #[.int .i64 0, .slice a3 q3.length c3]) (by simp [results, Try.results16, go_sem, q0, q1]) rfl ⟨_, q3, rfl, E3.out, o4, n3, g4, (hB3.setCell (p := ⟨w.heap.size, 0, none⟩) (Nat.le_refl _) _).setCell (p := ⟨w.heap.size, 1, none⟩) (Nat.le_refl _) _⟩
  · have HR : Hid (V = []) := HV.out.2 hC
    have q0 := Rb.cell 0 _ rfl
    have q1 := Rb.cell 1 _ rfl
    have f0 := Rb.frozen 0
    have f1 := Rb.frozen 1
    obtain ⟨hn1, hn2⟩ := Kind.own_nil (K := txnK) ((w1.setCell ⟨w.heap.size, 0, none⟩ (.int .i64 C)).setCell ⟨w.heap.size, 1, none⟩ (.slice none 0 0))
    clear HV HL
    go_wp2
    exact bodyPost_ret (v := .agg #[.int .i64 C, .slice none 0 0]) (by simp [results, Try.results16, go_sem, q0, q1]) rfl ⟨_, [], rfl, by rw [HR.out]; rfl, hn1, by rw [hn2]; simp, by rw [hn2]; simp, (hB.setCell (p := ⟨w.heap.size, 0, none⟩) (Nat.le_refl _) _).setCell (p := ⟨w.heap.size, 1, none⟩) (Nat.le_refl _) _⟩

end Go.Proofs.Ytbdphnmkpkgdeaa
