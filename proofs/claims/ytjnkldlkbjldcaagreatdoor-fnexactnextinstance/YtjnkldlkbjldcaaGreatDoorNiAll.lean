/- Texts that stand together: data, memory, helpers. No condition. -/
import Derived.Test.YtjnkldlkbjldcaaGreatDoorC7
import Derived.Test.YtjnkldlkbjldcaaGreatDoorP7
import Derived.Test.YtjnkldlkbjldcaaGreatDoorNW
import Derived.Test.YtjnkldlkbjldcaaGreatDoorKIs
import Derived.Test.YtjnkldlkbjldcaaGreatDoorGH
import Derived.Test.YtjnkldlkbjldcaaGreatDoorN7
namespace Go.Proofs.YtjnkldlkbjldcaaGreatDoor
open Go.RowKit
open Go.BigFrame
set_option linter.unusedVariables false
set_option maxRecDepth 100000
set_option linter.unusedSimpArgs false

set_option maxHeartbeats 4000000 in
theorem l7Copy_any (v : Value) (ps : List InstQ) (w : World) (h : instK.At w v ps) (hlow : (∀ p ∈ ps, (∀ t ∈ p.batch, 0 < t.acts.length) ∧ (∀ r ∈ p.rounds, 0 < r.rep.length ∧ 0 < r.pro.length) ∧ 0 < p.dec.length)) (hl : (ps.length + nmL InstQ.n ps) ≤ 1048576) :
    Calls Tryz.prog 199 #[v] w fun e w' => ∃ v' qs, e = .returned v' ∧ qs.map InstQ.e = ps.map InstQ.e ∧ instK.Own w' v' qs ∧ (instK.fp v' qs).Nodup ∧ (∀ k ∈ instK.fp v' qs, w.heap.size ≤ k) ∧ Below w.heap.size w w' := by
  obtain ⟨a, cap, rfl⟩ := h.shape
  obtain ⟨i0, hi, hz0, hz1, hz2⟩ := info_parts infoInstance
  have ho := World.ownsRow_lit (e := 28) (size := 4) w #[] 0 (Nat.le_refl _) (by decide) rfl
  have hn1 : instK.Own (w.alloc (.cells #[] 28)) (.slice (some ⟨w.heap.size, 0, none⟩) 0 0) ([] : List InstQ) := ⟨(own_zero ho).1, fun p hp => by simp at hp⟩
  have hb0 : Below w.heap.size w (w.alloc (.cells #[] 28)) := by go_grown
  have HN0 : Hid ((instK.fp (.slice (some ⟨w.heap.size, 0, none⟩) 0 0) ([] : List InstQ)).Nodup ∧ ∀ k ∈ instK.fp (.slice (some ⟨w.heap.size, 0, none⟩) 0 0) ([] : List InstQ), w.heap.size ≤ k) := by
    refine ⟨?_, ?_⟩
    · simp [Kind.fp, blk, Value.ownBlock]
    · simp [Kind.fp, blk, Value.ownBlock]
  clear ho
  go_enter Tryz.func199, Tryz.ntmps199
  go_wp2
  go_loopw [3, 4] (fun v j wr => ∃ (k : Nat) (qs : List InstQ), k ≤ ps.length ∧ j = .int .i64 k ∧ Hid (qs.map InstQ.e = (ps.take k).map InstQ.e) ∧ instK.Own wr v qs ∧ Hid ((instK.fp v qs).Nodup ∧ ∀ k ∈ instK.fp v qs, w.heap.size ≤ k) ∧ Below w.heap.size w wr) (fun _ j _ => ps.length - (intOf j).toNat)
  case atStart => exact ⟨0, [], Nat.zero_le _, rfl, (rfl : _ = _), hn1, HN0, hb0⟩
  case round =>
    clear HN0 hn1 hb0
    obtain ⟨k, qs, hk, rfl, HE, hO, HN, hb⟩ := hrel
    obtain ⟨sa, sc, rfl⟩ := hO.shape
    have HQL : Hid (qs.length = k) := by
      have := congrArg List.length HE.out
      rw [List.length_map, List.length_map, List.length_take] at this
      show qs.length = k
      omega
    by_cases hlt : k < ps.length
    · obtain ⟨b, off, rfl, hbs, hc, hrd⟩ := (h.below hb).cell (by decide) k hlt
      have hc' : ∀ j x, (instK.cells ps[k])[j]? = some x → wr.cell? ⟨b, off + k * 4 + j, none⟩ = some x := hc
      have c0 := hc' 0 (.bool ps[k].has) rfl
      have c1 := hc' 1 ps[k].vb rfl
      have c2 := hc' 2 ps[k].vr rfl
      have c3 := hc' 3 ps[k].vd rfl
      rw [Nat.add_zero] at c0
      have hzl := nm_le InstQ.n ps k hlt
      have hlow1 := hlow _ (List.getElem_mem hlt)
      have HPE : Hid (∀ p' : InstQ, p'.e = InstQ.e ps[k] → (qs ++ [p']).map InstQ.e = (ps.take (k + 1)).map InstQ.e) := fun p' hp' => by
        rw [List.take_succ_eq_append_getElem hlt, List.map_append, List.map_append, HE.out, List.map_singleton, List.map_singleton, hp']
      clear hc hc'
      have hcl0 := l6Copy_any ps[k]
      have hcl := fun w h => hcl0 w h (by omega) hlow1.1 hlow1.2.1 hlow1.2.2
      clear hcl0 HE
      generalize ps[k] = p at *
      obtain ⟨has, vb, batch, vr, rounds, vd, dec⟩ := p
      obtain ⟨ba, bk, rfl⟩ : ∃ a c, vb = .slice a batch.length c := hrd.1.shape
      obtain ⟨va, vk, rfl⟩ : ∃ a c, vr = .slice a rounds.length c := hrd.2.1.shape
      obtain ⟨da, dk, rfl⟩ : ∃ a c, vd = .slice a dec.length c := hrd.2.2.shape
      dsimp only at c0 c1 c2 c3 hcl
      go_wp2_with fail
      clear c0 c1 c2 c3
      have HLT : Hid (∀ x ∈ instK.fp (.slice sa qs.length sc) qs, x < wr.heap.size) := hO.lt
      have HYS : Hid (w.heap.size ≤ wr.heap.size) := hb.size
      refine (hcl wr hrd).mono ?_
      rintro e w2 ⟨q, rfl, eq, oq, nq, gq, hb2⟩
      replace hO := hO.below hb2
      replace hb := hb.trans (hb2.mono hb.size)
      have h2s := hb2.size
      clear hcl hb2
      obtain ⟨qh, qvb, qb, qvr, qr, qvd, qd⟩ := q
      obtain ⟨x1, y1, rfl⟩ : ∃ a c, qvb = .slice a qb.length c := oq.1.shape
      obtain ⟨x2, y2, rfl⟩ : ∃ a c, qvr = .slice a qr.length c := oq.2.1.shape
      obtain ⟨x3, y3, rfl⟩ : ∃ a c, qvd = .slice a qd.length c := oq.2.2.shape
      have hbA : Below w2.heap.size w2 (w2.alloc (.cells #[.bool qh, .slice x1 qb.length y1, .slice x2 qr.length y2, .slice x3 qd.length y3] 28)) := by go_grown
      have hOA := hO.below hbA
      have hPA := instK.own_out (F := []) oq (Out.of_below hbA) (fun _ _ => by simp)
      have hbB := hb.trans (hbA.mono hb.size)
      have hYA : wr.heap.size ≤ (w2.alloc (.cells #[.bool qh, .slice x1 qb.length y1, .slice x2 qr.length y2, .slice x3 qd.length y3] 28)).heap.size := by have := hbA.size; omega
      clear hO oq
      have hrow0 := hOA.1
      go_wp2_with (at_builtin; refine wpList_append_own_at _ rfl _ _ 84 rfl 0 28 i0 (.agg #[.bool false, .slice none 0 0, .slice none 0 0, .slice none 0 0]) 4 80 Tryz.underlying84 hi hz0 hz1 hz2 rfl (by decide) _ qs.length (instK.row qs) rfl hrow0 ⟨w2.heap.size, 0, none⟩ 1 1 [.bool qh, .slice x1 qb.length y1, .slice x2 qr.length y2, .slice x3 qd.length y3] rfl rfl ?c1 ?c2 ?c3 ?c4 ?c5 ?_)
      all_goals try (case c1 => intro j u hj; match j, hj with | 0, hj => simp at hj; subst hj; simp [Addr.add] | 1, hj => simp at hj; subst hj; simp [Addr.add] | 2, hj => simp at hj; subst hj; simp [Addr.add] | 3, hj => simp at hj; subst hj; simp [Addr.add])
      all_goals try (case c2 => intro u hu; simp at hu; rcases hu with rfl | rfl | rfl | rfl <;> rfl)
      all_goals try (case c3 => have := HQL.out; unfold maxLen; omega)
      all_goals try (case c4 => have := HQL.out; omega)
      all_goals try (case c5 => first | omega | simp)
      intro v' w5 hown hgrow hnil hat
      clear hnil hrow0
      rw [show w2.heap.size + 1 = (w2.alloc (.cells #[.bool qh, .slice x1 qb.length y1, .slice x2 qr.length y2, .slice x3 qd.length y3] 28)).heap.size from (World.size_alloc _ _).symm] at hat
      generalize hwA : w2.alloc (.cells #[.bool qh, .slice x1 qb.length y1, .slice x2 qr.length y2, .slice x3 qd.length y3] 28) = WA at *
      clear hwA
      obtain ⟨hO5, hn5, hlo5, hou⟩ := hOA.snoc (p := (⟨qh, .slice x1 qb.length y1, qb, .slice x2 qr.length y2, qr, .slice x3 qd.length y3, qd⟩ : InstQ)) HN.out.1 HN.out.2 hPA nq (fun x hx hx' => by have := HLT.out x hx'; have := gq x hx; omega) (fun x hx => by have := gq x hx; have := HYS.out; omega) hbB.size hown hgrow hat
      have hb5 : Below w.heap.size w w5 := Out.keep hbB hou hbB.size (fun x hx => HN.out.2 x (by simp only [Kind.fp, List.mem_append]; exact Or.inl hx))
      have HE5 : Hid ((qs ++ [(⟨qh, .slice x1 qb.length y1, qb, .slice x2 qr.length y2, qr, .slice x3 qd.length y3, qd⟩ : InstQ)]).map InstQ.e = (ps.take (k + 1)).map InstQ.e) := HPE.out _ eq
      have HN5 : Hid ((instK.fp v' (qs ++ [(⟨qh, .slice x1 qb.length y1, qb, .slice x2 qr.length y2, qr, .slice x3 qd.length y3, qd⟩ : InstQ)])).Nodup ∧ ∀ k ∈ instK.fp v' (qs ++ [(⟨qh, .slice x1 qb.length y1, qb, .slice x2 qr.length y2, qr, .slice x3 qd.length y3, qd⟩ : InstQ)]), w.heap.size ≤ k) := ⟨hn5, hlo5⟩
      clear HPE HN HLT HYS hPA hOA hbB hown hgrow hat hou hn5 hlo5 hrd hb hbA hzl hlow1 hYA gq nq eq
      go_wp2
      go_roundw
      case rel => exact ⟨k + 1, _, by omega, by go_num, HE5, hO5, HN5, hb5⟩
      case measure => simp [intOf]; omega
    · have hkl : k = ps.length := by omega
      subst hkl
      have hE := HE.out
      rw [List.take_length] at hE
      clear HE
      go_wp2
      go_ret
      exact ⟨_, qs, rfl, hE, hO, HN.out.1, HN.out.2, hb⟩

def niC (ds : List InstE) : Int := if ordF ds = 0 then (if decN ds < ds.length then 8 else if ds.length = 4 then 7 else 0) else ordF ds
def niO (ds : List InstE) : List InstE := if niC ds = 0 then ds ++ [newE] else []
theorem ni_ways (ds : List InstE) : (ordF ds ≠ 0 ∧ niC ds = ordF ds ∧ niO ds = []) ∨ (ordF ds = 0 ∧ decN ds < ds.length ∧ niC ds = 8 ∧ niO ds = []) ∨ (ordF ds = 0 ∧ ¬ decN ds < ds.length ∧ ds.length = 4 ∧ niC ds = 7 ∧ niO ds = []) ∨ (ordF ds = 0 ∧ ¬ decN ds < ds.length ∧ ds.length ≠ 4 ∧ niC ds = 0 ∧ niO ds = ds ++ [newE]) := by
  unfold niO niC
  by_cases h0 : ordF ds = 0
  · by_cases h1 : decN ds < ds.length
    · right; left
      simp [h0, h1]
    · by_cases h4 : ds.length = 4
      · right; right; left
        refine ⟨h0, h1, h4, ?_, ?_⟩
        · rw [if_pos h0, if_neg h1, if_pos h4]
        · rw [if_pos h0, if_neg h1, if_pos h4, if_neg (by decide)]
      · right; right; right
        refine ⟨h0, h1, h4, ?_, ?_⟩
        · rw [if_pos h0, if_neg h1, if_neg h4]
        · rw [if_pos h0, if_neg h1, if_neg h4, if_pos rfl]
  · left
    simp [h0]
theorem fieldNI (c0 c1 : Int) (c2 c3 : Bool) (c4 : Int) (c5 : Bool) (a1 a2 a3 : Option Addr) (l1 k1 l2 k2 l3 k3 : Nat) (w : World) : (Instr.field 39 (.agg #[.int .i64 c0, .int .i64 c1, .bool c2, .bool c3, .int .i64 c4, .bool c5, .slice a1 l1 k1, .slice a2 l2 k2, .slice a3 l3 k3]) 2).run Tryz.prog w = .ok (.agg #[.bool c5, .slice a1 l1 k1, .slice a2 l2 k2, .slice a3 l3 k3]) w := by kernel_rfl

set_option maxHeartbeats 8000000 in
theorem implNextInstance_any (v : Value) (ps : List InstQ) (w : World) (hG : RulO w) (h : instK.At w v ps) (hl : (ps.length + nmL InstQ.n ps) ≤ 1048576) :
    Calls Tryz.prog 55 #[v] w fun e w' => ∃ (v' : Value) (qs : List InstQ), e = .returned (.agg #[.int .i64 (niC (ps.map InstQ.e)), v']) ∧ qs.map InstQ.e = niO (ps.map InstQ.e) ∧ instK.Own w' v' qs ∧ (instK.fp v' qs).Nodup ∧ (∀ k ∈ instK.fp v' qs, w.heap.size ≤ k) ∧ Below w.heap.size w w' := by
  have hof := fun w hG h => implDecidedIn_any v ps w hG h hl
  have HO : Hid (ordF (ps.map InstQ.e) = 0 → 1 ≤ ps.length ∧ ps.length ≤ 4 ∧ ∀ q ∈ ps, insF (InstQ.e q) = 0) := fun h0 => by
    have := ((ord_iff _).1 h0).1
    rw [List.length_map] at this
    exact ⟨this.1, this.2, fun q hq => ord_mem h0 _ (List.mem_map.2 ⟨q, hq, rfl⟩)⟩
  have hco := fun w h hlow => cloneOrder_any v ps w h hlow hl
  obtain ⟨a, cap, rfl⟩ := h.shape
  obtain ⟨i0, hi, hz0, hz1, hz2⟩ := info_parts infoInstance
  have hw := ni_ways (ps.map InstQ.e)
  have HDV : Hid (ordF (ps.map InstQ.e) = 0 → diV (ps.map InstQ.e) = (decN (ps.map InstQ.e) : Int)) := fun h0 => if_pos h0
  have hdl := decN_le (ps.map InstQ.e)
  rw [List.length_map] at hw hdl
  generalize niC (ps.map InstQ.e) = D at *
  generalize niO (ps.map InstQ.e) = O at *
  have HEP : Hid (∀ q1 : List InstQ, ∀ q : InstQ, q1.map InstQ.e = ps.map InstQ.e → q.e = newE → (q1 ++ [q]).map InstQ.e = ps.map InstQ.e ++ [newE]) := fun q1 q h1 h2 => by rw [List.map_append, h1, List.map_singleton, h2]
  have HLE : Hid (∀ q1 : List InstQ, q1.map InstQ.e = ps.map InstQ.e → q1.length = ps.length) := fun q1 h1 => by simpa using congrArg List.length h1
  generalize ordF (ps.map InstQ.e) = C at *
  generalize diV (ps.map InstQ.e) = V at *
  generalize decN (ps.map InstQ.e) = M at *
  generalize ps.map InstQ.e = ds at *
  have hB : Below w.heap.size w (w.alloc (.cells #[.int .i64 0, .slice none 0 0] 86)) := by go_grown
  have Rb := Blk.new w 86 #[.int .i64 0, .slice none 0 0]
  go_enter Tryz.func55, Tryz.ntmps55
  go_wp2_with fail
  generalize w.alloc (.cells #[.int .i64 0, .slice none 0 0] 86) = W at *
  refine (hof W (hG.below hB).r (h.below hB)).mono ?_
  rintro e w1 ⟨rfl, hb⟩
  have hbA : Below w1.heap.size w1 (w1.alloc (.cells #[.int .i64 C, .int .i64 V] 71)) := by go_grown
  replace hB := hB.trans (hb.mono hB.size)
  replace hB := hB.trans (hbA.mono hB.size)
  replace Rb := (Rb.below hb).below hbA
  have Dk := Blk.new w1 71 #[.int .i64 C, .int .i64 V]
  clear hb hof hbA
  rcases hw with ⟨hC, e1, e2⟩ | ⟨hC, hM, e1, e2⟩ | ⟨hC, hM, h4, e1, e2⟩ | ⟨hC, hM, h4, e1, e2⟩
  · have hC' : (C != 0) = true := by simpa using hC
    have E1 : Hid (D = C ∧ O = []) := ⟨e1, e2⟩
    clear e1 e2 HEP HLE HO HDV hC
    have q0 := Rb.cell 0 _ rfl
    have q1 := Rb.cell 1 _ rfl
    have f0 := Rb.frozen 0
    have f1 := Rb.frozen 1
    obtain ⟨hn1, hn2⟩ := Kind.own_nil (K := instK) w
    clear hn1
    go_wp2
    exact bodyPost_ret (v := .agg #[.int .i64 C, .slice none 0 0]) (by simp [results, Tryz.results55, go_sem, q0, q1]) rfl ⟨.slice none 0 0, [], by rw [E1.out.1], by rw [E1.out.2]; rfl, (Kind.own_nil _).1, by rw [hn2]; simp, by rw [hn2]; simp, (hB.setCell (p := ⟨w.heap.size, 0, none⟩) (Nat.le_refl _) _).setCell (p := ⟨w.heap.size, 1, none⟩) (Nat.le_refl _) _⟩
  · have E1 : Hid (D = 8 ∧ O = []) := ⟨e1, e2⟩
    have hV := HDV.out hC
    subst hC hV
    have hM' : (M : Int) < (ps.length : Int) := by omega
    clear e1 e2 HEP HLE HO HDV hM
    have q0 := Rb.cell 0 _ rfl
    have q1 := Rb.cell 1 _ rfl
    have f0 := Rb.frozen 0
    have f1 := Rb.frozen 1
    obtain ⟨hn1, hn2⟩ := Kind.own_nil (K := instK) w
    clear hn1
    go_wp2
    exact bodyPost_ret (v := .agg #[.int .i64 8, .slice none 0 0]) (by simp [results, Tryz.results55, go_sem, q0, q1]) rfl ⟨.slice none 0 0, [], by rw [E1.out.1], by rw [E1.out.2]; rfl, (Kind.own_nil _).1, by rw [hn2]; simp, by rw [hn2]; simp, (hB.setCell (p := ⟨w.heap.size, 0, none⟩) (Nat.le_refl _) _).setCell (p := ⟨w.heap.size, 1, none⟩) (Nat.le_refl _) _⟩
  · have E1 : Hid (D = 7 ∧ O = []) := ⟨e1, e2⟩
    have hV := HDV.out hC
    subst hC hV
    have hM' : ¬ (M : Int) < (ps.length : Int) := by omega
    have h4' : ((ps.length : Int) == 4) = true := by rw [h4]; rfl
    clear e1 e2 HEP HLE HO HDV hM h4
    have q0 := Rb.cell 0 _ rfl
    have q1 := Rb.cell 1 _ rfl
    have f0 := Rb.frozen 0
    have f1 := Rb.frozen 1
    obtain ⟨hn1, hn2⟩ := Kind.own_nil (K := instK) w
    clear hn1
    go_wp2
    exact bodyPost_ret (v := .agg #[.int .i64 7, .slice none 0 0]) (by simp [results, Tryz.results55, go_sem, q0, q1]) rfl ⟨.slice none 0 0, [], by rw [E1.out.1], by rw [E1.out.2]; rfl, (Kind.own_nil _).1, by rw [hn2]; simp, by rw [hn2]; simp, (hB.setCell (p := ⟨w.heap.size, 0, none⟩) (Nat.le_refl _) _).setCell (p := ⟨w.heap.size, 1, none⟩) (Nat.le_refl _) _⟩
  · have HC0 : Hid (D = 0) := e1
    obtain ⟨p1, p4, hin⟩ := HO.out hC
    have hV := HDV.out hC
    have hlow := fun q hq => ins_low (hin q hq)
    subst hC hV
    have hM' : ¬ (M : Int) < (ps.length : Int) := by omega
    have h4' : ((ps.length : Int) == 4) = false := by simpa using (show ¬ (ps.length : Int) = 4 by omega)
    clear e1 HO HDV hM h4 hin
    have hlt := Dk.lt
    go_wp2_with fail
    have hWB : w.heap.size + 1 ≤ (w1.alloc (.cells #[.int .i64 0, .int .i64 M] 71)).heap.size := by have := Rb.lt; omega
    generalize w1.alloc (.cells #[.int .i64 0, .int .i64 M] 71) = WB at *
    refine (hco WB (h.below hB) hlow).mono ?_
    rintro e Y ⟨vq, qs, rfl, eqs, hO, hn0, hlo0, hbY⟩
    obtain ⟨sa, sc, rfl⟩ := hO.shape
    have hqn := HLE.out qs eqs
    have HQL : Hid (qs.length ≤ 4) := show _ ≤ _ by omega
    have HLT : Hid (∀ x ∈ instK.fp (.slice sa qs.length sc) qs, x < Y.heap.size) := hO.lt
    have HYS : Hid (WB.heap.size ≤ Y.heap.size) := hbY.size
    have HN : Hid ((instK.fp (.slice sa qs.length sc) qs).Nodup ∧ ∀ k ∈ instK.fp (.slice sa qs.length sc) qs, WB.heap.size ≤ k) := ⟨hn0, hlo0⟩
    clear hn0 hlo0 hco hlow hqn
    go_wp2_with fail
    refine (implNewInstance_any Y ((hG.below hB).o.below hbY)).mono ?_
    rintro e w2 ⟨q, rfl, eq, oq, nq, gq, hb2⟩
    have HQ5 : Hid (_ = O) := (HEP.out qs q eqs eq).trans e2.symm
    replace hO := hO.below hb2
    have hb := hbY.trans (hb2.mono hbY.size)
    have h2s := hb2.size
    have Rw := Rb
    clear hb2 hbY Rb Dk HEP HLE eqs eq e2
    obtain ⟨qh, qvb, qb, qvr, qr, qvd, qd⟩ := q
    obtain ⟨x1, y1, rfl⟩ : ∃ a c, qvb = .slice a qb.length c := oq.1.shape
    obtain ⟨x2, y2, rfl⟩ : ∃ a c, qvr = .slice a qr.length c := oq.2.1.shape
    obtain ⟨x3, y3, rfl⟩ : ∃ a c, qvd = .slice a qd.length c := oq.2.2.shape
    have hfi := fieldNI 0 0 false false 0 qh x1 x2 x3 qb.length y1 qr.length y2 qd.length y3
    simp only [resC]
    have hbA : Below w2.heap.size w2 (w2.alloc (.cells #[.bool qh, .slice x1 qb.length y1, .slice x2 qr.length y2, .slice x3 qd.length y3] 28)) := by go_grown
    have hOA := hO.below hbA
    have hPA := instK.own_out (F := []) oq (Out.of_below hbA) (fun _ _ => by simp)
    have hbB := hb.trans (hbA.mono hb.size)
    have hYA : Y.heap.size ≤ (w2.alloc (.cells #[.bool qh, .slice x1 qb.length y1, .slice x2 qr.length y2, .slice x3 qd.length y3] 28)).heap.size := by have := hbA.size; omega
    clear hO oq
    have hrow0 := hOA.1
    go_wp2_with (at_builtin; refine wpList_append_own_at _ rfl _ _ 84 rfl 0 28 i0 (.agg #[.bool false, .slice none 0 0, .slice none 0 0, .slice none 0 0]) 4 80 Tryz.underlying84 hi hz0 hz1 hz2 rfl (by decide) _ qs.length (instK.row qs) rfl hrow0 ⟨w2.heap.size, 0, none⟩ 1 1 [.bool qh, .slice x1 qb.length y1, .slice x2 qr.length y2, .slice x3 qd.length y3] rfl rfl ?c1 ?c2 ?c3 ?c4 ?c5 ?_)
    all_goals try (case c1 => intro j u hj; match j, hj with | 0, hj => simp at hj; subst hj; simp [Addr.add] | 1, hj => simp at hj; subst hj; simp [Addr.add] | 2, hj => simp at hj; subst hj; simp [Addr.add] | 3, hj => simp at hj; subst hj; simp [Addr.add])
    all_goals try (case c2 => intro u hu; simp at hu; rcases hu with rfl | rfl | rfl | rfl <;> rfl)
    all_goals try (case c3 => have := HQL.out; unfold maxLen; omega)
    all_goals try (case c4 => have := HQL.out; omega)
    all_goals try (case c5 => first | omega | simp)
    intro v' w5 hown hgrow hnil hat
    clear hnil hrow0
    rw [show w2.heap.size + 1 = (w2.alloc (.cells #[.bool qh, .slice x1 qb.length y1, .slice x2 qr.length y2, .slice x3 qd.length y3] 28)).heap.size from (World.size_alloc _ _).symm] at hat
    generalize hwA : w2.alloc (.cells #[.bool qh, .slice x1 qb.length y1, .slice x2 qr.length y2, .slice x3 qd.length y3] 28) = WA at *
    clear hwA
    obtain ⟨hO5, hn5, hlo5, hou⟩ := hOA.snoc (p := (⟨qh, .slice x1 qb.length y1, qb, .slice x2 qr.length y2, qr, .slice x3 qd.length y3, qd⟩ : InstQ)) HN.out.1 HN.out.2 hPA nq (fun x hx hx' => by have := HLT.out x hx'; have := gq x hx; omega) (fun x hx => by have := gq x hx; have := HYS.out; omega) hbB.size hown hgrow hat
    have hb5 : Below WB.heap.size WB w5 := Out.keep hbB hou hbB.size (fun x hx => HN.out.2 x (by simp only [Kind.fp, List.mem_append]; exact Or.inl hx))
    obtain ⟨xa, xc, hsh⟩ := hO5.shape
    subst hsh
    have R5 := Rw.below hb5
    have q0 := R5.cell 0 _ rfl
    have q1 := R5.cell 1 _ rfl
    have f0 := R5.frozen 0
    have f1 := R5.frozen 1
    generalize hQ5 : qs ++ [(⟨qh, .slice x1 qb.length y1, qb, .slice x2 qr.length y2, qr, .slice x3 qd.length y3, qd⟩ : InstQ)] = Q5 at *
    have HFIN : Hid (∀ u u', instK.Own ((w5.setCell ⟨w.heap.size, 0, none⟩ u).setCell ⟨w.heap.size, 1, none⟩ u') (.slice xa Q5.length xc) Q5 ∧ Below w.heap.size w ((w5.setCell ⟨w.heap.size, 0, none⟩ u).setCell ⟨w.heap.size, 1, none⟩ u')) := fun u u' => by
      refine ⟨hO5.out (((Out.refl [w.heap.size] w5).set (b := w.heap.size) (j := 0) (u := u) (by simp)).set (b := w.heap.size) (j := 1) (u := u') (by simp)) (fun k hk => by have := hlo5 k hk; simp only [List.mem_singleton]; omega), ?_⟩
      have hbb := hB.trans (hb5.mono hB.size)
      exact (hbb.setCell (p := ⟨w.heap.size, 0, none⟩) (Nat.le_refl _) _).setCell (p := ⟨w.heap.size, 1, none⟩) (Nat.le_refl _) _
    have HL5 : Hid ((instK.fp (.slice xa Q5.length xc) Q5).Nodup ∧ ∀ k ∈ instK.fp (.slice xa Q5.length xc) Q5, w.heap.size ≤ k) := ⟨hn5, fun k hk => by have := hlo5 k hk; omega⟩
    clear hO5 hn5 hlo5 hb5 hB Rw R5 hou hown hgrow hat hOA hPA hbB hbA
    go_wp2
    exact bodyPost_ret (v := .agg #[.int .i64 0, .slice xa Q5.length xc]) (by simp [results, Tryz.results55, go_sem, q0, q1]) rfl ⟨.slice xa Q5.length xc, Q5, by rw [HC0.out], HQ5.out, (HFIN.out _ _).1, HL5.out.1, HL5.out.2, (HFIN.out _ _).2⟩

end Go.Proofs.YtjnkldlkbjldcaaGreatDoor

namespace Go.Proofs.YtjnkldlkbjldcaaGreatDoor
open Go.RowKit
open Go.BigFrame
set_option linter.unusedVariables false
set_option maxRecDepth 100000
set_option linter.unusedSimpArgs false

abbrev mkTxns (c : Int) (ps : List TxnQ) : List TxnQ := mkL mkTxn nmTxn c ps
abbrev mkRounds (c : Int) (ps : List RoundQ) : List RoundQ := mkL mkRound nmRound c ps
theorem mkTxns_fp (v : Value) (c : Int) (ps : List TxnQ) : txnK.fp v (mkTxns c ps) = txnK.fp v ps := fp_mkL mkTxn_foot _ _ _
theorem mkRounds_fp (v : Value) (c : Int) (ps : List RoundQ) : roundK.fp v (mkRounds c ps) = roundK.fp v ps := fp_mkL mkRound_foot _ _ _

def mkInsS (c : Int) (p : InstQ) : InstQ := ⟨((c) % 3 == 0), p.vb, mkTxns (c + 1) p.batch, p.vr, mkRounds (c + 1 + ((nmL nmTxn p.batch : Nat) : Int)) p.rounds, p.vd, mkInts (c + 1 + ((nmL nmTxn p.batch : Nat) : Int) + ((nmL nmRound p.rounds : Nat) : Int)) p.dec⟩
def nmInsS (p : InstQ) : Nat := 1 + nmL nmTxn p.batch + nmL nmRound p.rounds + p.dec.length
theorem mkInsS_foot (c : Int) (p : InstQ) : instK.foot (mkInsS c p) = instK.foot p := by
  simp only [mkInsS, show ∀ p : InstQ, instK.foot p = txnK.fp p.vb p.batch ++ (roundK.fp p.vr p.rounds ++ intK.fp p.vd p.dec) from fun _ => rfl, mkTxns_fp, mkRounds_fp, mkInts_fp]

set_option maxHeartbeats 4000000 in
theorem markInstances_k (v : Value) (ps : List InstQ) (c : Int) (w : World) (h : instK.Own w v ps) (hnd : (instK.fp v ps).Nodup) (hl : (ps.length + nmL InstQ.n ps) ≤ 1048576) (h0 : 0 ≤ c) (h1 : c + (nmL nmInsS ps : Int) ≤ 1099511627776) :
    Calls Tryz.prog 58 #[v, .int .i64 c] w fun e w' => e = .returned (.int .i64 (c + (nmL nmInsS ps : Int))) ∧ instK.Own w' v (mkL mkInsS nmInsS c ps) ∧ Out (instK.fp v ps) w w' := by
  obtain ⟨a, cap, rfl⟩ := h.shape
  have hfph : ∀ k, k ≤ ps.length → instK.fp (.slice a ps.length cap) (half mkInsS nmInsS c ps k) = instK.fp (.slice a ps.length cap) ps := fun k hk => fp_half mkInsS_foot _ c ps k
  have HF : Hid (∀ k, k ≤ ps.length → instK.fp (.slice a ps.length cap) (half mkInsS nmInsS c ps k) = instK.fp (.slice a ps.length cap) ps) := hfph
  have HA : Hid (instK.Own w (.slice a ps.length cap) (half mkInsS nmInsS c ps 0)) := by rw [half_zero]; exact h
  clear hfph h
  go_enter Tryz.func58, Tryz.ntmps58
  go_wp2
  go_loopw [1, 5] (fun j i wr => ∃ k : Nat, k ≤ ps.length ∧ j = .int .i64 (c + (nmL nmInsS (ps.take k) : Int)) ∧ i = .int .i64 k ∧ Hid (instK.Own wr (.slice a ps.length cap) (half mkInsS nmInsS c ps k)) ∧ Hid (Out (instK.fp (.slice a ps.length cap) ps) w wr)) (fun _ i _ => ps.length - (intOf i).toNat)
  case atStart => exact ⟨0, Nat.zero_le _, by simp [nmL], rfl, HA, Out.refl _ _⟩
  case round =>
    clear HA
    obtain ⟨k, hk, rfl, rfl, HO, HU⟩ := hrel
    by_cases hlt : k < ps.length
    · have hhl : (half mkInsS nmInsS c ps k).length = ps.length := half_length _ _ _ _ _ hk
      have hO := HO.out
      obtain ⟨g, rfl⟩ := hO.blkOf (by omega)
      have hndk : (instK.fp (.slice (some ⟨g, 0, none⟩) ps.length cap) (half mkInsS nmInsS c ps k)).Nodup := by rw [HF.out k hk]; exact hnd
      have hsub : Hid (∀ x ∈ instK.foot ps[k], x ∈ instK.fp (.slice (some ⟨g, 0, none⟩) ps.length cap) ps) := fun x hx => by
        simp only [Kind.fp, List.mem_append, List.mem_flatMap]
        exact Or.inr ⟨_, List.getElem_mem hlt, hx⟩
      have hg0 : Hid (∀ x ∈ [g], x ∈ instK.fp (.slice (some ⟨g, 0, none⟩) ps.length cap) ps) := fun x hx => by
        simp only [List.mem_singleton] at hx
        subst hx
        simp [Kind.fp, blk, Value.ownBlock]
      have hltH : k < (half mkInsS nmInsS c ps k).length := by omega
      have hget := half_get mkInsS nmInsS c ps k hlt
      have hOk : instK.Own wr (.slice (some ⟨g, 0, none⟩) ps.length cap) ((half mkInsS nmInsS c ps k).set k ps[k]) := by
        have e : (half mkInsS nmInsS c ps k).set k ps[k] = half mkInsS nmInsS c ps k := by
          rw [← hget, List.set_getElem_self]
        rw [e]; exact hO
      have hnk : (instK.fp (.slice (some ⟨g, 0, none⟩) ps.length cap) ((half mkInsS nmInsS c ps k).set k ps[k])).Nodup := by
        have e : (half mkInsS nmInsS c ps k).set k ps[k] = half mkInsS nmInsS c ps k := by
          rw [← hget, List.set_getElem_self]
        rw [e]; exact hndk
      clear hget hO hndk
      have hset := half_set mkInsS nmInsS c ps k hlt
      have hsu := nmL_succ nmInsS ps k hlt
      have hle := nmL_le nmInsS ps (k + 1)
      have hzl := nm_le InstQ.n ps k hlt
      have HSU : Hid ((nmL nmInsS (ps.take (k + 1)) : Int) = (nmL nmInsS (ps.take k) : Int) + (nmInsS ps[k] : Int)) := show _ = _ by omega
      have hyb : (nmL nmInsS (ps.take k) : Int) + (nmInsS ps[k] : Int) ≤ nmL nmInsS ps := by omega
      have HSET : Hid ((half mkInsS nmInsS c ps k).set k (mkInsS (c + (nmL nmInsS (ps.take k) : Int)) ps[k]) = half mkInsS nmInsS c ps (k + 1)) := hset
      clear hset hsu hle HO
      generalize half mkInsS nmInsS c ps k = hs at *
      generalize hpk : ps[k] = p at *
      clear hpk
      obtain ⟨z_has, z_vb, d_batch, z_vr, d_rounds, z_vd, d_dec⟩ := p
      have hkL : k < hs.length := hltH
      dsimp only [nmInsS, InstQ.n] at HSU hyb hzl
      generalize hy : (nmL nmInsS (ps.take k) : Int) = y at *
      have hy0 : 0 ≤ y := by omega
      clear hy
      obtain ⟨c0, f0⟩ := hOk.cell' hkL 0 (.bool z_has) rfl
      obtain ⟨c1, f1⟩ := hOk.cell' hkL 1 (z_vb) rfl
      have c0 : wr.cell? ⟨g, k * 4, none⟩ = _ := c0
      have f0 : wr.frozen? ⟨g, k * 4, none⟩ = _ := f0
      have c1 : wr.cell? ⟨g, k * 4 + 1, none⟩ = _ := c1
      have f1 : wr.frozen? ⟨g, k * 4 + 1, none⟩ = _ := f1
      obtain ⟨hOn, hnn⟩ := hOk.store' hnk hkL (⟨((c + y) % 3 == 0), z_vb, d_batch, z_vr, d_rounds, z_vd, d_dec⟩ : InstQ) 0 (.bool ((c + y) % 3 == 0)) (by decide) rfl rfl (fun _ h => h)
      have hOk : instK.Own (wr.setCell ⟨g, k * 4, none⟩ (.bool ((c + y) % 3 == 0))) (.slice (some ⟨g, 0, none⟩) ps.length cap) (hs.set k (⟨((c + y) % 3 == 0), z_vb, d_batch, z_vr, d_rounds, z_vd, d_dec⟩ : InstQ)) := hOn
      have hnk := hnn
      have HU : Hid (Out (instK.fp (.slice (some ⟨g, 0, none⟩) ps.length cap) ps) w (wr.setCell ⟨g, k * 4, none⟩ (.bool ((c + y) % 3 == 0)))) := (HU.out.trans ((Out.setCell _ g (k * 4) (.bool ((c + y) % 3 == 0))).mono hg0.out))
      have he1 := hOk.elem' hkL
      have hl1 : txnK.Own (wr.setCell ⟨g, k * 4, none⟩ (.bool ((c + y) % 3 == 0))) z_vb d_batch := he1.1
      have hmk := markTxns_k z_vb d_batch (c + y + 1) _ hl1 (List.nodup_append.1 (foot_nodup hnk hkL)).1 (by omega) (by omega) (by omega)
      obtain ⟨sa1, sc1, hsh1⟩ := hl1.shape
      subst hsh1

      clear he1 hl1
      go_wp2_with fail
      refine hmk.mono ?_
      rintro e w21 ⟨rfl, hm1, ho1⟩
      clear hmk
      obtain ⟨hOn, hnn⟩ := hOk.turn' hnk hkL (⟨((c + y) % 3 == 0), .slice sa1 d_batch.length sc1, mkTxns (c + y + 1) d_batch, z_vr, d_rounds, z_vd, d_dec⟩ : InstQ) ho1 (fun x hx => List.mem_append_left _ hx) rfl (by simp only [show ∀ p : InstQ, instK.foot p = txnK.fp p.vb p.batch ++ (roundK.fp p.vr p.rounds ++ intK.fp p.vd p.dec) from fun _ => rfl, mkTxns_fp, mkRounds_fp, mkInts_fp]) (⟨hm1, (hOk.elem' hkL).2.1.out ho1 (fun k hk => nd_right (foot_nodup hnk hkL) k (List.mem_append_left _ hk)), (hOk.elem' hkL).2.2.out ho1 (fun k hk => nd_right (foot_nodup hnk hkL) k (List.mem_append_right _ hk))⟩)
      have HU : Hid (Out (instK.fp (.slice (some ⟨g, 0, none⟩) ps.length cap) ps) w w21) := HU.out.trans (ho1.mono (fun x hx => hsub.out x (show x ∈ instK.foot _ from (fun x hx => List.mem_append_left _ hx) x hx)))
      have hOk := hOn
      have hnk := hnn
      obtain ⟨c2, f2⟩ := hOk.cell' hkL 2 (z_vr) rfl
      have c2 : w21.cell? ⟨g, k * 4 + 2, none⟩ = _ := c2
      have f2 : w21.frozen? ⟨g, k * 4 + 2, none⟩ = _ := f2
      have he2 := hOk.elem' hkL
      have hl2 : roundK.Own w21 z_vr d_rounds := he2.2.1
      have hmk := markRounds_k z_vr d_rounds (c + y + 1 + ((nmL nmTxn d_batch : Nat) : Int)) _ hl2 (List.nodup_append.1 (List.nodup_append.1 (foot_nodup hnk hkL)).2.1).1 (by omega) (by omega) (by omega)
      obtain ⟨sa2, sc2, hsh2⟩ := hl2.shape
      subst hsh2

      clear he2 hl2
      go_wp2_with fail
      refine hmk.mono ?_
      rintro e w22 ⟨rfl, hm2, ho2⟩
      clear hmk
      obtain ⟨hOn, hnn⟩ := hOk.turn' hnk hkL (⟨((c + y) % 3 == 0), .slice sa1 d_batch.length sc1, mkTxns (c + y + 1) d_batch, .slice sa2 d_rounds.length sc2, mkRounds (c + y + 1 + ((nmL nmTxn d_batch : Nat) : Int)) d_rounds, z_vd, d_dec⟩ : InstQ) ho2 (fun x hx => List.mem_append_right _ (List.mem_append_left _ hx)) rfl (by simp only [show ∀ p : InstQ, instK.foot p = txnK.fp p.vb p.batch ++ (roundK.fp p.vr p.rounds ++ intK.fp p.vd p.dec) from fun _ => rfl, mkTxns_fp, mkRounds_fp, mkInts_fp]) (⟨(hOk.elem' hkL).1.out ho2 (fun k hk hk2 => nd_left (foot_nodup hnk hkL) k hk (List.mem_append_left _ hk2)), hm2, (hOk.elem' hkL).2.2.out ho2 (nd_right (List.nodup_append.1 (foot_nodup hnk hkL)).2.1)⟩)
      have HU : Hid (Out (instK.fp (.slice (some ⟨g, 0, none⟩) ps.length cap) ps) w w22) := HU.out.trans (ho2.mono (fun x hx => hsub.out x (show x ∈ instK.foot _ from (fun x hx => List.mem_append_right _ (List.mem_append_left _ hx)) x hx)))
      have hOk := hOn
      have hnk := hnn
      obtain ⟨c3, f3⟩ := hOk.cell' hkL 3 (z_vd) rfl
      have c3 : w22.cell? ⟨g, k * 4 + 3, none⟩ = _ := c3
      have f3 : w22.frozen? ⟨g, k * 4 + 3, none⟩ = _ := f3
      have he3 := hOk.elem' hkL
      have hl3 : intK.Own w22 z_vd d_dec := he3.2.2
      have hmk := markInts_k z_vd d_dec (c + y + 1 + ((nmL nmTxn d_batch : Nat) : Int) + ((nmL nmRound d_rounds : Nat) : Int)) _ hl3  (by omega) (by omega) (by omega)
      obtain ⟨sa3, sc3, hsh3⟩ := hl3.shape
      subst hsh3

      clear he3 hl3
      go_wp2_with fail
      refine hmk.mono ?_
      rintro e w23 ⟨rfl, hm3, ho3⟩
      clear hmk
      obtain ⟨hOn, hnn⟩ := hOk.turn' hnk hkL (⟨((c + y) % 3 == 0), .slice sa1 d_batch.length sc1, mkTxns (c + y + 1) d_batch, .slice sa2 d_rounds.length sc2, mkRounds (c + y + 1 + ((nmL nmTxn d_batch : Nat) : Int)) d_rounds, .slice sa3 d_dec.length sc3, mkInts (c + y + 1 + ((nmL nmTxn d_batch : Nat) : Int) + ((nmL nmRound d_rounds : Nat) : Int)) d_dec⟩ : InstQ) ho3 (fun x hx => List.mem_append_right _ (List.mem_append_right _ (hx))) rfl (by simp only [show ∀ p : InstQ, instK.foot p = txnK.fp p.vb p.batch ++ (roundK.fp p.vr p.rounds ++ intK.fp p.vd p.dec) from fun _ => rfl, mkTxns_fp, mkRounds_fp, mkInts_fp]) (⟨(hOk.elem' hkL).1.out ho3 (fun k hk hk2 => nd_left (foot_nodup hnk hkL) k hk (List.mem_append_right _ hk2)), (hOk.elem' hkL).2.1.out ho3 (nd_left (List.nodup_append.1 (foot_nodup hnk hkL)).2.1), hm3⟩)
      have HU : Hid (Out (instK.fp (.slice (some ⟨g, 0, none⟩) ps.length cap) ps) w w23) := HU.out.trans (ho3.mono (fun x hx => hsub.out x (show x ∈ instK.foot _ from (fun x hx => List.mem_append_right _ (List.mem_append_right _ (hx))) x hx)))
      have hOk := hOn
      have hnk := hnn
      have R : Hid (instK.Own w23 (.slice (some ⟨g, 0, none⟩) ps.length cap) (half mkInsS nmInsS c ps (k + 1))) := by rw [← HSET.out]; exact hOk
      clear hOk hnk HSET hsub hg0
      go_wp2
      go_roundw
      case rel => exact ⟨k + 1, by omega, by rw [HSU.out]; congr 1; omega, by go_num, R.out, HU.out⟩
      case measure => simp [intOf]; omega
    · have hkl : k = ps.length := by omega
      subst hkl
      have hO := HO.out
      rw [half_all] at hO
      rw [List.take_length]
      clear HF HO
      go_wp2
      go_ret
      exact ⟨rfl, hO, HU.out⟩

end Go.Proofs.YtjnkldlkbjldcaaGreatDoor

namespace Go.Proofs.YtjnkldlkbjldcaaGreatDoor
open Go.RowKit
open Go.BigFrame
set_option linter.unusedVariables false
set_option maxRecDepth 100000
set_option linter.unusedSimpArgs false

set_option maxHeartbeats 2000000 in
theorem heldInstances_k (v : Value) (ps : List InstQ) (c : Int) (w : World) (h : instK.At w v (mkL mkInsS nmInsS c ps)) (hl : (ps.length + nmL InstQ.n ps) ≤ 1048576) (h0 : 0 ≤ c) (h1 : c + (nmL nmInsS ps : Int) ≤ 1099511627776) :
    Calls Tryz.prog 137 #[v, .int .i64 c] w fun e w' => e = .returned (.int .i64 (c + (nmL nmInsS ps : Int))) ∧ Below w.heap.size w w' := by
  obtain ⟨a, cap, rfl⟩ := h.shape
  have hmk := mkL_length mkInsS nmInsS c ps
  rw [hmk] at h ⊢
  have HM : Hid ((mkL mkInsS nmInsS c ps).length = ps.length) := hmk
  clear hmk
  go_enter Tryz.func137, Tryz.ntmps137
  go_wp2
  go_loopw [1, 5] (fun j i wr => ∃ k : Nat, k ≤ ps.length ∧ j = .int .i64 (c + (nmL nmInsS (ps.take k) : Int)) ∧ i = .int .i64 k ∧ Below w.heap.size w wr) (fun _ i _ => ps.length - (intOf i).toNat)
  case atStart => exact ⟨0, Nat.zero_le _, by simp [nmL], rfl, Below.refl _ _⟩
  case round =>
    obtain ⟨k, hk, rfl, rfl, hb⟩ := hrel
    by_cases hlt : k < ps.length
    · have hltm : k < (mkL mkInsS nmInsS c ps).length := by have := HM.out; omega
      obtain ⟨b, off, rfl, hbs, hc, hrd⟩ := (h.below hb).cell (by decide) k hltm
      rw [mkL_get mkInsS nmInsS c ps k hlt] at hc hrd
      have hsu := nmL_succ nmInsS ps k hlt
      have hle := nmL_le nmInsS ps (k + 1)
      have hzl := nm_le InstQ.n ps k hlt
      have HSU : Hid ((nmL nmInsS (ps.take (k + 1)) : Int) = (nmL nmInsS (ps.take k) : Int) + (nmInsS ps[k] : Int)) := show _ = _ by omega
      have hyb : (nmL nmInsS (ps.take k) : Int) + (nmInsS ps[k] : Int) ≤ nmL nmInsS ps := by omega
      clear hsu hle h
      generalize hpk : ps[k] = p at *
      clear hpk
      obtain ⟨z_has, z_vb, d_batch, z_vr, d_rounds, z_vd, d_dec⟩ := p
      dsimp only [nmInsS, InstQ.n] at HSU hyb hzl
      generalize hy : (nmL nmInsS (ps.take k) : Int) = y at *
      have hy0 : 0 ≤ y := by omega
      clear hy
      have hc' : ∀ j x, (instK.cells (mkInsS (c + y) (⟨z_has, z_vb, d_batch, z_vr, d_rounds, z_vd, d_dec⟩ : InstQ)))[j]? = some x → wr.cell? ⟨b, off + k * 4 + j, none⟩ = some x := hc
      clear hc
      have c0 := hc' 0 (.bool ((c + y) % 3 == 0)) rfl
      have nb0 : (((c + y) % 3 == 0) != ((c + y) % 3 == 0)) = false := by simp
      have c1 := hc' 1 (z_vb) rfl
      have c2 := hc' 2 (z_vr) rfl
      have c3 := hc' 3 (z_vd) rfl
      obtain ⟨r1, r2, r3⟩ : txnK.At wr z_vb (mkTxns (c + y + 1) d_batch) ∧ roundK.At wr z_vr (mkRounds (c + y + 1 + ((nmL nmTxn d_batch : Nat) : Int)) d_rounds) ∧ intK.At wr z_vd (mkInts (c + y + 1 + ((nmL nmTxn d_batch : Nat) : Int) + ((nmL nmRound d_rounds : Nat) : Int)) d_dec) := hrd
      have hh1 := fun w h => heldTxns_k z_vb d_batch (c + y + 1) w h (by omega) (by omega) (by omega)
      have hh2 := fun w h => heldRounds_k z_vr d_rounds (c + y + 1 + ((nmL nmTxn d_batch : Nat) : Int)) w h (by omega) (by omega) (by omega)
      have hh3 := fun w h => heldInts_k z_vd d_dec (c + y + 1 + ((nmL nmTxn d_batch : Nat) : Int) + ((nmL nmRound d_rounds : Nat) : Int)) w h (by omega) (by omega) (by omega)
      obtain ⟨sa1, sc1, hsh1⟩ := r1.shape
      subst hsh1
      obtain ⟨sa2, sc2, hsh2⟩ := r2.shape
      subst hsh2
      obtain ⟨sa3, sc3, hsh3⟩ := r3.shape
      subst hsh3
      rw [Nat.add_zero] at c0
      clear hc'
      have nn1 : ¬ (c + y + 1 + ((nmL nmTxn d_batch : Nat) : Int) < 0) := by omega
      go_wp2_with fail
      refine (hh1 wr r1).mono ?_
      rintro e w1 ⟨rfl, hb1⟩
      replace hb := hb.trans (hb1.mono hb.size)
      replace c2 := (hb1.cell (p := ⟨b, _, none⟩) (World.block_lt_of_cell? _ _ c2)).trans c2
      replace c3 := (hb1.cell (p := ⟨b, _, none⟩) (World.block_lt_of_cell? _ _ c3)).trans c3
      replace r2 := r2.below hb1
      replace r3 := r3.below hb1
      clear hb1 hh1 c0 c1
      have nn2 : ¬ (c + y + 1 + ((nmL nmTxn d_batch : Nat) : Int) + ((nmL nmRound d_rounds : Nat) : Int) < 0) := by omega
      go_wp2_with fail
      refine (hh2 w1 r2).mono ?_
      rintro e w2 ⟨rfl, hb2⟩
      replace hb := hb.trans (hb2.mono hb.size)
      replace c3 := (hb2.cell (p := ⟨b, _, none⟩) (World.block_lt_of_cell? _ _ c3)).trans c3
      replace r3 := r3.below hb2
      clear hb2 hh2 c2
      have nn3 : ¬ (c + y + 1 + ((nmL nmTxn d_batch : Nat) : Int) + ((nmL nmRound d_rounds : Nat) : Int) + ((d_dec.length : Nat) : Int) < 0) := by omega
      go_wp2_with fail
      refine (hh3 w2 r3).mono ?_
      rintro e w3 ⟨rfl, hb3⟩
      replace hb := hb.trans (hb3.mono hb.size)
      clear hb3 hh3 c3
      go_wp2
      go_roundw
      case rel => exact ⟨k + 1, by omega, by rw [HSU.out]; congr 1; omega, by go_num, hb⟩
      case measure => simp [intOf]; omega
    · have hkl : k = ps.length := by omega
      subst hkl
      rw [List.take_length]
      go_wp2
      go_ret
      exact ⟨rfl, hb⟩

end Go.Proofs.YtjnkldlkbjldcaaGreatDoor

namespace Go.Proofs.YtjnkldlkbjldcaaGreatDoor
open Go.RowKit
open Go.BigFrame
set_option linter.unusedVariables false
set_option maxRecDepth 100000
set_option linter.unusedSimpArgs false

theorem nmInsS_le (ps : List InstQ) : nmL nmInsS ps ≤ 3 * (ps.length + nmL InstQ.n ps) := by
  induction ps with
  | nil => simp [nmL]
  | cons p r ih =>
    have h1 := nmTxn_le p.batch
    have h2 := nmRound_le p.rounds
    simp only [nmL, List.map_cons, List.sum_cons, List.length_cons] at ih ⊢
    simp only [nmInsS, InstQ.n] at ih ⊢
    simp only [nmL] at h1 h2 ih ⊢
    omega
theorem insts_n {qs ps : List InstQ} (h : qs.map InstQ.e = ps.map InstQ.e) : qs.length + nmL InstQ.n qs = ps.length + nmL InstQ.n ps := by
  induction qs generalizing ps with
  | nil =>
    cases ps with
    | nil => rfl
    | cons p r => simp at h
  | cons q s ih =>
    cases ps with
    | nil => simp at h
    | cons p r =>
      simp only [List.map_cons, List.cons.injEq] at h
      have h1 := inst_n h.1
      have h2 := ih h.2
      simp only [nmL, List.map_cons, List.sum_cons, List.length_cons] at h2 ⊢
      omega
theorem txns_n {qs ps : List TxnQ} (h : qs.map TxnQ.e = ps.map TxnQ.e) : qs.length + nmL TxnQ.n qs = ps.length + nmL TxnQ.n ps := by
  have t1 : qs.length = ps.length := by simpa using congrArg List.length h
  have t2 : nmL TxnQ.n qs = nmL TxnQ.n ps := by
    have := congrArg (fun l => nmL (fun d : TxnD => d.acts.length) l) h
    simp only [nmL, List.map_map] at this
    exact this
  omega

set_option maxHeartbeats 1000000 in
theorem eqORR_k (c : Int) (v v' : Value) (ps qs : List InstQ) (w : World) (h : instK.At w v ps) (h' : instK.At w v' qs) (he : ps.map InstQ.e = qs.map InstQ.e) (hl : (ps.length + nmL InstQ.n ps) ≤ 1048576) :
    Calls Tryz.prog 56 #[.agg #[.int .i64 c, v], .agg #[.int .i64 c, v']] w fun e w' => e = .returned (.bool true) ∧ Below w.heap.size w w' := by
  have hq := fun w h1 h2 => eqInstances_k v v' ps qs w h1 h2 he hl
  clear he
  obtain ⟨a, k0, rfl⟩ := h.shape
  obtain ⟨a', k0', rfl⟩ := h'.shape
  have hB : Below w.heap.size w ((w.alloc (.cells #[.int .i64 c, .slice a ps.length k0] 86)).alloc (.cells #[.int .i64 c, .slice a' qs.length k0'] 86)) := by go_grown
  have n0 : (c != c) = false := by simp
  go_enter Tryz.func56, Tryz.ntmps56
  go_wp2_with fail
  generalize (w.alloc (.cells #[.int .i64 c, .slice a ps.length k0] 86)).alloc (.cells #[.int .i64 c, .slice a' qs.length k0'] 86) = W at *
  refine (hq W (h.below hB) (h'.below hB)).mono ?_
  rintro e w1 ⟨rfl, hb⟩
  replace hB := hB.trans (hb.mono hB.size)
  go_wp2
  go_ret
  exact ⟨rfl, hB⟩

set_option maxHeartbeats 1000000 in
theorem markORR_k (c : Int) (v : Value) (ps : List InstQ) (k : Int) (w : World) (h : instK.Own w v ps) (hnd : (instK.fp v ps).Nodup) (hl : (ps.length + nmL InstQ.n ps) ≤ 1048576) (h0 : 0 ≤ k) (h1 : k + (nmL nmInsS ps : Int) ≤ 1099511627776) :
    Calls Tryz.prog 59 #[.agg #[.int .i64 c, v], .int .i64 k] w fun e w' => e = .returned (.int .i64 (k + (nmL nmInsS ps : Int))) ∧ instK.Own w' v (mkL mkInsS nmInsS k ps) ∧ Out (instK.fp v ps) w w' := by
  have hq := fun w h => markInstances_k v ps k w h hnd hl h0 h1
  obtain ⟨a, k0, rfl⟩ := h.shape
  have hB : Below w.heap.size w (w.alloc (.cells #[.int .i64 c, .slice a ps.length k0] 86)) := by go_grown
  generalize (nmL nmInsS ps : Int) = M at *
  go_enter Tryz.func59, Tryz.ntmps59
  go_wp2_with fail
  generalize w.alloc (.cells #[.int .i64 c, .slice a ps.length k0] 86) = W at *
  refine (hq W (h.below hB)).mono ?_
  rintro e w1 ⟨rfl, ho, hu⟩
  have HU := (Out.of_below (F := instK.fp (.slice a ps.length k0) ps) hB).trans hu
  clear hB hu
  go_wp2
  go_ret
  exact ⟨rfl, ho, HU⟩

set_option maxHeartbeats 1000000 in
theorem heldORR_k (c : Int) (v : Value) (ps : List InstQ) (k : Int) (w : World) (h : instK.At w v (mkL mkInsS nmInsS k ps)) (hl : (ps.length + nmL InstQ.n ps) ≤ 1048576) (h0 : 0 ≤ k) (h1 : k + (nmL nmInsS ps : Int) ≤ 1099511627776) :
    Calls Tryz.prog 60 #[.agg #[.int .i64 c, v], .int .i64 k] w fun e w' => e = .returned (.int .i64 (k + (nmL nmInsS ps : Int))) ∧ Below w.heap.size w w' := by
  have hq := fun w h => heldInstances_k v ps k w h hl h0 h1
  obtain ⟨a, k0, rfl⟩ := h.shape
  rw [mkL_length] at h hq ⊢
  have hB : Below w.heap.size w (w.alloc (.cells #[.int .i64 c, .slice a ps.length k0] 86)) := by go_grown
  generalize hM : (nmL nmInsS ps : Int) = M at *
  have hn : ¬ (k + M < 0) := by omega
  clear hM
  go_enter Tryz.func60, Tryz.ntmps60
  go_wp2_with fail
  generalize w.alloc (.cells #[.int .i64 c, .slice a ps.length k0] 86) = W at *
  refine (hq W (h.below hB)).mono ?_
  rintro e w1 ⟨rfl, hb⟩
  replace hB := hB.trans (hb.mono hB.size)
  go_wp2
  go_ret
  exact ⟨rfl, hB⟩

end Go.Proofs.YtjnkldlkbjldcaaGreatDoor

namespace Go.Proofs.YtjnkldlkbjldcaaGreatDoor
open Go.RowKit
open Go.BigFrame
set_option linter.unusedVariables false
set_option maxRecDepth 100000
set_option linter.unusedSimpArgs false

set_option maxHeartbeats 8000000 in
theorem l7Next_any (v : Value) (ps : List InstQ) (w : World) (h : instK.At w v ps) (hl : (ps.length + nmL InstQ.n ps) ≤ 1048576) (h0 : ordF (ps.map InstQ.e) = 0) :
    Calls Tryz.prog 135 #[v] w fun e w' => ∃ (v' : Value) (qs : List InstQ), e = .returned (.tuple #[v', .int .i64 (niC (ps.map InstQ.e))]) ∧ qs.map InstQ.e = niO (ps.map InstQ.e) ∧ instK.Own w' v' qs ∧ (instK.fp v' qs).Nodup ∧ (∀ k ∈ instK.fp v' qs, w.heap.size ≤ k) ∧ Below w.heap.size w w' := by
  have HO : Hid (ordF (ps.map InstQ.e) = 0 → 1 ≤ ps.length ∧ ps.length ≤ 4 ∧ ∀ q ∈ ps, insF (InstQ.e q) = 0) := fun h0 => by
    have := ((ord_iff _).1 h0).1
    rw [List.length_map] at this
    exact ⟨this.1, this.2, fun q hq => ord_mem h0 _ (List.mem_map.2 ⟨q, hq, rfl⟩)⟩
  obtain ⟨p1, p4, hin⟩ := HO.out h0
  have hlow := fun q hq => ins_low (hin q hq)
  have hof := l7Decided_any v ps w h hl p1 p4
  have hco := fun w h hlow => l7Copy_any v ps w h hlow hl
  obtain ⟨a, cap, rfl⟩ := h.shape
  obtain ⟨i0, hi, hz0, hz1, hz2⟩ := info_parts infoInstance
  have hw := ni_ways (ps.map InstQ.e)
  have hdl := decN_le (ps.map InstQ.e)
  rw [List.length_map] at hw hdl
  generalize niC (ps.map InstQ.e) = D at *
  generalize niO (ps.map InstQ.e) = O at *
  have HEP : Hid (∀ q1 : List InstQ, ∀ q : InstQ, q1.map InstQ.e = ps.map InstQ.e → q.e = newE → (q1 ++ [q]).map InstQ.e = ps.map InstQ.e ++ [newE]) := fun q1 q h1 h2 => by rw [List.map_append, h1, List.map_singleton, h2]
  have HLE : Hid (∀ q1 : List InstQ, q1.map InstQ.e = ps.map InstQ.e → q1.length = ps.length) := fun q1 h1 => by simpa using congrArg List.length h1
  clear HO hin
  generalize ordF (ps.map InstQ.e) = C at *
  generalize decN (ps.map InstQ.e) = M at *
  generalize ps.map InstQ.e = ds at *
  go_enter Tryz.func135, Tryz.ntmps135
  go_wp2_with fail
  refine hof.mono ?_
  rintro e WB ⟨rfl, hB⟩
  clear hof
  rcases hw with ⟨hC, e1, e2⟩ | ⟨hC, hM, e1, e2⟩ | ⟨hC, hM, h4, e1, e2⟩ | ⟨hC, hM, h4, e1, e2⟩
  · exact absurd h0 hC
  · have E1 : Hid (D = 8 ∧ O = []) := ⟨e1, e2⟩
    have hM' : (M : Int) < (ps.length : Int) := by omega
    clear e1 e2 HEP HLE hM h0 hC
    obtain ⟨hn1, hn2⟩ := Kind.own_nil (K := instK) w
    clear hn1
    go_wp2
    exact bodyPost_ret (v := .tuple #[.slice none 0 0, .int .i64 8]) (by simp [results, Tryz.results135, go_sem]) rfl ⟨.slice none 0 0, [], by rw [E1.out.1], by rw [E1.out.2]; rfl, (Kind.own_nil _).1, by rw [hn2]; simp, by rw [hn2]; simp, hB⟩
  · have E1 : Hid (D = 7 ∧ O = []) := ⟨e1, e2⟩
    have hM' : ¬ (M : Int) < (ps.length : Int) := by omega
    have h4' : 4 ≤ ps.length := by omega
    clear e1 e2 HEP HLE hM h4 h0 hC
    obtain ⟨hn1, hn2⟩ := Kind.own_nil (K := instK) w
    clear hn1
    go_wp2
    exact bodyPost_ret (v := .tuple #[.slice none 0 0, .int .i64 7]) (by simp [results, Tryz.results135, go_sem]) rfl ⟨.slice none 0 0, [], by rw [E1.out.1], by rw [E1.out.2]; rfl, (Kind.own_nil _).1, by rw [hn2]; simp, by rw [hn2]; simp, hB⟩
  · have HC0 : Hid (D = 0) := e1
    have hM' : ¬ (M : Int) < (ps.length : Int) := by omega
    have h4' : ¬ 4 ≤ ps.length := by omega
    clear e1 hM h4 h0 hC
    go_wp2_with fail
    refine (hco WB (h.below hB) hlow).mono ?_
    rintro e Y ⟨vq, qs, rfl, eqs, hO, hn0, hlo0, hbY⟩
    obtain ⟨sa, sc, rfl⟩ := hO.shape
    have hqn := HLE.out qs eqs
    have HQL : Hid (qs.length ≤ 4) := show _ ≤ _ by omega
    have HLT : Hid (∀ x ∈ instK.fp (.slice sa qs.length sc) qs, x < Y.heap.size) := hO.lt
    have HYS : Hid (WB.heap.size ≤ Y.heap.size) := hbY.size
    have HN : Hid ((instK.fp (.slice sa qs.length sc) qs).Nodup ∧ ∀ k ∈ instK.fp (.slice sa qs.length sc) qs, WB.heap.size ≤ k) := ⟨hn0, hlo0⟩
    clear hn0 hlo0 hco hlow hqn
    go_wp2_with fail
    refine (l6New_any Y).mono ?_
    rintro e w2 ⟨q, rfl, eq, oq, nq, gq, hb2⟩
    have HQ5 : Hid (_ = O) := (HEP.out qs q eqs eq).trans e2.symm
    replace hO := hO.below hb2
    have hb := hbY.trans (hb2.mono hbY.size)
    have h2s := hb2.size
    clear hb2 hbY HEP HLE eqs eq e2
    obtain ⟨qh, qvb, qb, qvr, qr, qvd, qd⟩ := q
    obtain ⟨x1, y1, rfl⟩ : ∃ a c, qvb = .slice a qb.length c := oq.1.shape
    obtain ⟨x2, y2, rfl⟩ : ∃ a c, qvr = .slice a qr.length c := oq.2.1.shape
    obtain ⟨x3, y3, rfl⟩ : ∃ a c, qvd = .slice a qd.length c := oq.2.2.shape
    have hbA : Below w2.heap.size w2 (w2.alloc (.cells #[.bool qh, .slice x1 qb.length y1, .slice x2 qr.length y2, .slice x3 qd.length y3] 28)) := by go_grown
    have hOA := hO.below hbA
    have hPA := instK.own_out (F := []) oq (Out.of_below hbA) (fun _ _ => by simp)
    have hbB := hb.trans (hbA.mono hb.size)
    have hYA : Y.heap.size ≤ (w2.alloc (.cells #[.bool qh, .slice x1 qb.length y1, .slice x2 qr.length y2, .slice x3 qd.length y3] 28)).heap.size := by have := hbA.size; omega
    clear hO oq
    have hrow0 := hOA.1
    go_wp2_with (at_builtin; refine wpList_append_own_at _ rfl _ _ 84 rfl 0 28 i0 (.agg #[.bool false, .slice none 0 0, .slice none 0 0, .slice none 0 0]) 4 80 Tryz.underlying84 hi hz0 hz1 hz2 rfl (by decide) _ qs.length (instK.row qs) rfl hrow0 ⟨w2.heap.size, 0, none⟩ 1 1 [.bool qh, .slice x1 qb.length y1, .slice x2 qr.length y2, .slice x3 qd.length y3] rfl rfl ?c1 ?c2 ?c3 ?c4 ?c5 ?_)
    all_goals try (case c1 => intro j u hj; match j, hj with | 0, hj => simp at hj; subst hj; simp [Addr.add] | 1, hj => simp at hj; subst hj; simp [Addr.add] | 2, hj => simp at hj; subst hj; simp [Addr.add] | 3, hj => simp at hj; subst hj; simp [Addr.add])
    all_goals try (case c2 => intro u hu; simp at hu; rcases hu with rfl | rfl | rfl | rfl <;> rfl)
    all_goals try (case c3 => have := HQL.out; unfold maxLen; omega)
    all_goals try (case c4 => have := HQL.out; omega)
    all_goals try (case c5 => first | omega | simp)
    intro v' w5 hown hgrow hnil hat
    clear hnil hrow0
    rw [show w2.heap.size + 1 = (w2.alloc (.cells #[.bool qh, .slice x1 qb.length y1, .slice x2 qr.length y2, .slice x3 qd.length y3] 28)).heap.size from (World.size_alloc _ _).symm] at hat
    generalize hwA : w2.alloc (.cells #[.bool qh, .slice x1 qb.length y1, .slice x2 qr.length y2, .slice x3 qd.length y3] 28) = WA at *
    clear hwA
    obtain ⟨hO5, hn5, hlo5, hou⟩ := hOA.snoc (p := (⟨qh, .slice x1 qb.length y1, qb, .slice x2 qr.length y2, qr, .slice x3 qd.length y3, qd⟩ : InstQ)) HN.out.1 HN.out.2 hPA nq (fun x hx hx' => by have := HLT.out x hx'; have := gq x hx; omega) (fun x hx => by have := gq x hx; have := HYS.out; omega) hbB.size hown hgrow hat
    have hb5 : Below WB.heap.size WB w5 := Out.keep hbB hou hbB.size (fun x hx => HN.out.2 x (by simp only [Kind.fp, List.mem_append]; exact Or.inl hx))
    obtain ⟨xa, xc, hsh⟩ := hO5.shape
    subst hsh
    generalize hQ5 : qs ++ [(⟨qh, .slice x1 qb.length y1, qb, .slice x2 qr.length y2, qr, .slice x3 qd.length y3, qd⟩ : InstQ)] = Q5 at *
    have hbs := hB.size
    have HFIN : Hid (instK.Own w5 (.slice xa Q5.length xc) Q5 ∧ (instK.fp (.slice xa Q5.length xc) Q5).Nodup ∧ (∀ k ∈ instK.fp (.slice xa Q5.length xc) Q5, w.heap.size ≤ k) ∧ Below w.heap.size w w5) := ⟨hO5, hn5, fun k hk => by have := hlo5 k hk; omega, hB.trans (hb5.mono hB.size)⟩
    clear hO5 hn5 hlo5 hb5 hB hou hown hgrow hat hOA hPA hbB hbA
    go_wp2
    exact bodyPost_ret (v := .tuple #[.slice xa Q5.length xc, .int .i64 0]) (by simp [results, Tryz.results135, go_sem]) rfl ⟨.slice xa Q5.length xc, Q5, by rw [HC0.out], HQ5.out, HFIN.out.1, HFIN.out.2.1, HFIN.out.2.2.1, HFIN.out.2.2.2⟩

set_option maxHeartbeats 8000000 in
theorem specNextInstance_any (v : Value) (ps : List InstQ) (w : World) (h : instK.At w v ps) (hl : (ps.length + nmL InstQ.n ps) ≤ 1048576) :
    Calls Tryz.prog 53 #[v] w fun e w' => ∃ (v' : Value) (qs : List InstQ), e = .returned (.agg #[.int .i64 (niC (ps.map InstQ.e)), v']) ∧ qs.map InstQ.e = niO (ps.map InstQ.e) ∧ instK.Own w' v' qs ∧ (instK.fp v' qs).Nodup ∧ (∀ k ∈ instK.fp v' qs, w.heap.size ≤ k) ∧ Below w.heap.size w w' := by
  have hof := fun w h => l7Fault_any v ps w h hl
  have hnx := fun w h h0 => l7Next_any v ps w h hl h0
  obtain ⟨a, cap, rfl⟩ := h.shape
  have HB : Hid (ordF (ps.map InstQ.e) ≠ 0 → niC (ps.map InstQ.e) = ordF (ps.map InstQ.e) ∧ niO (ps.map InstQ.e) = []) := fun h0 => by
    rcases ni_ways (ps.map InstQ.e) with ⟨_, e1, e2⟩ | ⟨hC, _⟩ | ⟨hC, _⟩ | ⟨hC, _⟩
    · exact ⟨e1, e2⟩
    · exact absurd hC h0
    · exact absurd hC h0
    · exact absurd hC h0
  generalize niC (ps.map InstQ.e) = D at *
  generalize niO (ps.map InstQ.e) = O at *
  generalize ordF (ps.map InstQ.e) = C at *
  have hB : Below w.heap.size w (w.alloc (.cells #[.int .i64 0, .slice none 0 0] 86)) := by go_grown
  have Rb := Blk.new w 86 #[.int .i64 0, .slice none 0 0]
  go_enter Tryz.func53, Tryz.ntmps53
  go_wp2_with fail
  generalize w.alloc (.cells #[.int .i64 0, .slice none 0 0] 86) = W at *
  refine (hof W (h.below hB)).mono ?_
  rintro e w1 ⟨rfl, hb⟩
  replace hB := hB.trans (hb.mono hB.size)
  replace Rb := Rb.below hb
  clear hb hof
  by_cases hC : C = 0
  · have hnx1 := hnx w1 (h.below hB) hC
    have hlt := Rb.lt
    subst hC
    clear HB hnx
    go_wp2_with fail
    refine hnx1.mono ?_
    rintro e w2 ⟨v', Q5, rfl, HQ, hO5, hn5, hlo5, hb5⟩
    obtain ⟨xa, xc, rfl⟩ := hO5.shape
    have R5 := Rb.below hb5
    have q0 := R5.cell 0 _ rfl
    have q1 := R5.cell 1 _ rfl
    have f0 := R5.frozen 0
    have f1 := R5.frozen 1
    have HQ5 : Hid (_ = O) := HQ
    have HFIN : Hid (∀ u u', instK.Own ((w2.setCell ⟨w.heap.size, 0, none⟩ u).setCell ⟨w.heap.size, 1, none⟩ u') (.slice xa Q5.length xc) Q5 ∧ Below w.heap.size w ((w2.setCell ⟨w.heap.size, 0, none⟩ u).setCell ⟨w.heap.size, 1, none⟩ u')) := fun u u' => by
      refine ⟨hO5.out (((Out.refl [w.heap.size] w2).set (b := w.heap.size) (j := 0) (u := u) (by simp)).set (b := w.heap.size) (j := 1) (u := u') (by simp)) (fun k hk => by have := hlo5 k hk; simp only [List.mem_singleton]; omega), ?_⟩
      have hbb := hB.trans (hb5.mono hB.size)
      exact (hbb.setCell (p := ⟨w.heap.size, 0, none⟩) (Nat.le_refl _) _).setCell (p := ⟨w.heap.size, 1, none⟩) (Nat.le_refl _) _
    have HL5 : Hid ((instK.fp (.slice xa Q5.length xc) Q5).Nodup ∧ ∀ k ∈ instK.fp (.slice xa Q5.length xc) Q5, w.heap.size ≤ k) := ⟨hn5, fun k hk => by have := hlo5 k hk; omega⟩
    clear hO5 hn5 hlo5 hb5 hB Rb R5 HQ
    go_wp2
    exact bodyPost_ret (v := .agg #[.int .i64 D, .slice xa Q5.length xc]) (by simp [results, Tryz.results53, go_sem, q0, q1]) rfl ⟨.slice xa Q5.length xc, Q5, rfl, HQ5.out, (HFIN.out _ _).1, HL5.out.1, HL5.out.2, (HFIN.out _ _).2⟩
  · have hC' : (C != 0) = true := by simpa using hC
    have E1 : Hid (D = C ∧ O = []) := HB.out hC
    clear HB hnx
    have q0 := Rb.cell 0 _ rfl
    have q1 := Rb.cell 1 _ rfl
    have f0 := Rb.frozen 0
    have f1 := Rb.frozen 1
    obtain ⟨hn1, hn2⟩ := Kind.own_nil (K := instK) w
    clear hn1
    go_wp2
    exact bodyPost_ret (v := .agg #[.int .i64 C, .slice none 0 0]) (by simp [results, Tryz.results53, go_sem, q0, q1]) rfl ⟨.slice none 0 0, [], by rw [E1.out.1], by rw [E1.out.2]; rfl, (Kind.own_nil _).1, by rw [hn2]; simp, by rw [hn2]; simp, (hB.setCell (p := ⟨w.heap.size, 0, none⟩) (Nat.le_refl _) _).setCell (p := ⟨w.heap.size, 1, none⟩) (Nat.le_refl _) _⟩

theorem instE_n (q : InstQ) : q.n = InstE.n q.e := by
  unfold InstE.n txnsN roundsN InstQ.e
  simp only [InstQ.n, List.length_map, nmL, List.map_map]
  rfl
/-- Right instances are small. -/
theorem insts_small {qs : List InstQ} (h : ∀ q ∈ qs, insF (InstQ.e q) = 0) : qs.length + nmL InstQ.n qs ≤ qs.length * 61 := by
  have h1 := nmL_bound InstQ.n 60 qs (fun q hq => by rw [instE_n]; exact ins_small (h q hq))
  omega
theorem niO_n {ps : List InstQ} {qs : List InstQ} (h : qs.map InstQ.e = niO (ps.map InstQ.e)) (hp : (ps.length + nmL InstQ.n ps) ≤ 1048576) : qs.length + nmL InstQ.n qs ≤ 1048576 := by
  rcases ni_ways (ps.map InstQ.e) with ⟨_, _, e2⟩ | ⟨_, _, _, e2⟩ | ⟨_, _, _, _, e2⟩ | ⟨h0, _, _, _, e2⟩
  · rw [e2] at h
    have : qs = [] := by simpa using h
    subst this
    simp [nmL]
  · rw [e2] at h
    have : qs = [] := by simpa using h
    subst this
    simp [nmL]
  · rw [e2] at h
    have : qs = [] := by simpa using h
    subst this
    simp [nmL]
  · rw [e2] at h
    have hl := congrArg List.length h
    have hl2 := ((ord_iff _).1 h0).1
    rw [List.length_map] at hl2
    simp only [List.length_map, List.length_append, List.length_singleton] at hl
    have := insts_small (qs := qs) (fun q hq => by
      have hm : InstQ.e q ∈ ps.map InstQ.e ++ [newE] := by rw [← h]; exact List.mem_map.2 ⟨q, hq, rfl⟩
      rcases List.mem_append.1 hm with hm | hm
      · exact ord_mem h0 _ hm
      · simp only [List.mem_singleton] at hm
        rw [hm]; decide +kernel)
    have h5 : qs.length ≤ 5 := by omega
    have h6 : qs.length * 61 ≤ 5 * 61 := Nat.mul_le_mul_right _ h5
    omega

end Go.Proofs.YtjnkldlkbjldcaaGreatDoor

namespace Go.Proofs.YtjnkldlkbjldcaaGreatDoor
open Go.RowKit
open Go.BigFrame
set_option linter.unusedVariables false
set_option maxRecDepth 100000
set_option linter.unusedSimpArgs false

theorem specNextInstance_e (v : Value) (ps : List InstQ) (ds : List InstE) (hx : ps.map InstQ.e = ds) (w : World) (h : instK.At w v ps) (hl : (ps.length + nmL InstQ.n ps) ≤ 1048576) :
    Calls Tryz.prog 53 #[v] w fun e w' => ∃ (v' : Value) (qs : List InstQ), e = .returned (.agg #[.int .i64 (niC ds), v']) ∧ qs.map InstQ.e = (niO ds) ∧ instK.Own w' v' qs ∧ (instK.fp v' qs).Nodup ∧ (∀ k ∈ instK.fp v' qs, w.heap.size ≤ k) ∧ Below w.heap.size w w' := by
  subst hx
  exact specNextInstance_any v ps w h hl
theorem implNextInstance_e (v : Value) (ps : List InstQ) (ds : List InstE) (hx : ps.map InstQ.e = ds) (w : World) (hG : RulO w) (h : instK.At w v ps) (hl : (ps.length + nmL InstQ.n ps) ≤ 1048576) :
    Calls Tryz.prog 55 #[v] w fun e w' => ∃ (v' : Value) (qs : List InstQ), e = .returned (.agg #[.int .i64 (niC ds), v']) ∧ qs.map InstQ.e = (niO ds) ∧ instK.Own w' v' qs ∧ (instK.fp v' qs).Nodup ∧ (∀ k ∈ instK.fp v' qs, w.heap.size ≤ k) ∧ Below w.heap.size w w' := by
  subst hx
  exact implNextInstance_any v ps w hG h hl

set_option maxHeartbeats 8000000 in
theorem nextInstanceLaw (v : Value) (ps : List InstQ) (w : World) (hG : RulO w) (h : instK.At w v ps) (hn : ps.length ≤ 9223372036854775807) (hwf : ∀ p ∈ ps, InstQ.wf p) :
    Calls Tryz.prog 10 #[v] w fun e w' => e = .returned (.bool true) ∧ Below w.heap.size w w' := by
  have hsz := fun w h => szInstances_k v ps 1048576 w h hn hwf (by omega) (by omega)
  have hto := fun w h hl => toInstances_k v ps w h hl
  have hsp := fun v qs (hq : qs.map InstQ.e = ps.map InstQ.e) w h hl => specNextInstance_e v qs _ hq w h hl
  have him := fun v qs (hq : qs.map InstQ.e = ps.map InstQ.e) w hG h hl => implNextInstance_e v qs _ hq w hG h hl
  have hqn : ∀ qs : List InstQ, qs.map InstQ.e = ps.map InstQ.e → qs.length + nmL InstQ.n qs = ps.length + nmL InstQ.n ps := fun qs hq => insts_n hq
  have heq := fun v v' (q q' : List InstQ) (hq : q.map InstQ.e = ps.map InstQ.e) (hq' : q'.map InstQ.e = ps.map InstQ.e) w h h' hl => eqInstances_k v v' q q' w h h' (hq.trans hq'.symm) hl
  have hrb := fun (w' : World) hb => Kind.At.below (w' := w') h hb
  have hqs : Hid (∀ qs : List InstQ, qs.map InstQ.e = (niO (ps.map InstQ.e)) → ps.length + nmL InstQ.n ps ≤ 1048576 → qs.length + nmL InstQ.n qs ≤ 1048576) := fun qs hq hp => niO_n hq hp
  generalize (niC (ps.map InstQ.e)) = D at *
  generalize (niO (ps.map InstQ.e)) = E at *
  generalize ps.map InstQ.e = ds at *
  generalize hpn : ps.length + nmL InstQ.n ps = pn at *
  obtain ⟨a, cap, rfl⟩ := h.shape
  have b0 : Below w.heap.size w w := Below.refl _ _
  go_enter Tryz.func10, Tryz.ntmps10
  go_wp2_with fail
  refine (hsz w h).mono ?_
  rintro e w1 ⟨r, rfl, hr, hb⟩
  replace b0 := b0.trans (hb.mono b0.size)
  clear hb
  clear hsz
  by_cases hneg : r < 0
  · go_wp2
    go_ret
    exact ⟨rfl, b0⟩
  have hl : (pn : Int) + r = 1048576 := hr (by omega)
  clear hr
  replace hl : pn ≤ 1048576 := by omega
  go_wp2_with fail
  clear hneg
  refine (hto w1 (hrb w1 b0) hl).mono ?_
  rintro e w2 ⟨v1, q1, rfl, e1, o1, n1, g1, hb⟩
  replace b0 := b0.trans (hb.mono b0.size)
  clear hb
  clear n1 g1
  have hl1 : q1.length + nmL InstQ.n q1 ≤ 1048576 := by rw [hqn q1 e1]; exact hl
  have hs1 := fun w h => hsp v1 q1 e1 w h hl1
  obtain ⟨a1, k1, rfl⟩ := o1.shape
  go_wp2_with fail
  refine (hs1 w2 o1.at).mono ?_
  rintro e w5 ⟨vs, qs, rfl, es, os, ns, gs, hb⟩
  have us : ∀ k ∈ instK.fp vs qs, w.heap.size ≤ k ∧ k < w5.heap.size := fun k hk => ⟨by have := gs k hk; have := b0.size; omega, os.lt k hk⟩
  replace b0 := b0.trans (hb.mono b0.size)
  clear hb
  clear hs1 hsp o1 hl1 e1 ns gs
  have hw5 : w.heap.size ≤ w5.heap.size := b0.size
  have hls : qs.length + nmL InstQ.n qs ≤ 1048576 := hqs.out qs es hl
  obtain ⟨as_, ks_, rfl⟩ := os.shape
  have S0 := Blk.new w5 86 #[.int .i64 D, .slice as_ qs.length ks_]
  have hb : Below w5.heap.size w5 (w5.alloc (.cells #[.int .i64 D, .slice as_ qs.length ks_] 86)) := by go_grown
  replace os := os.below hb
  replace b0 := b0.trans (hb.mono b0.size)
  clear hb
  go_wp2_with fail
  generalize w5.alloc (.cells #[.int .i64 D, .slice as_ qs.length ks_] 86) = W5 at *
  refine (hto W5 (hrb W5 b0) hl).mono ?_
  rintro e w6 ⟨v2, q2, rfl, e2, o2, n2, g2, hb⟩
  have hS5 := S0.lt
  have u2 : ∀ k ∈ instK.fp v2 q2, w5.heap.size < k ∧ k < w6.heap.size := fun k hk => ⟨by have := g2 k hk; omega, o2.lt k hk⟩
  replace S0 := S0.below hb
  replace os := os.below hb
  replace b0 := b0.trans (hb.mono b0.size)
  clear hb
  clear g2
  have hw6 : w5.heap.size < w6.heap.size := S0.lt
  have hl2 : q2.length + nmL InstQ.n q2 ≤ 1048576 := by rw [hqn q2 e2]; exact hl
  have hi2 := fun w hG h => him v2 q2 e2 w hG h hl2
  have he2 := fun v' q' hq' w h h' => heq v2 v' q2 q' e2 hq' w h h' hl2
  obtain ⟨a2, k2, rfl⟩ := o2.shape
  go_wp2_with fail
  refine (hi2 w6 (hG.below b0) o2.at).mono ?_
  rintro e w8 ⟨vi, qi, rfl, ei, oi, ni, gi, hb⟩
  have h78 := hb.size
  have ui : ∀ k ∈ instK.fp vi qi, w6.heap.size ≤ k ∧ k < w8.heap.size := fun k hk => ⟨gi k hk, oi.lt k hk⟩
  replace S0 := S0.below hb
  replace os := os.below hb
  replace o2 := o2.below hb
  replace b0 := b0.trans (hb.mono b0.size)
  clear hb
  clear gi hi2
  have hli : qi.length + nmL InstQ.n qi ≤ 1048576 := hqs.out qi ei hl
  obtain ⟨ai, ki, rfl⟩ := oi.shape
  have Y0 := Blk.new w8 86 #[.int .i64 D, .slice ai qi.length ki]
  have hb : Below w8.heap.size w8 (w8.alloc (.cells #[.int .i64 D, .slice ai qi.length ki] 86)) := by go_grown
  replace S0 := S0.below hb
  replace os := os.below hb
  replace o2 := o2.below hb
  replace oi := oi.below hb
  replace b0 := b0.trans (hb.mono b0.size)
  clear hb
  have r0 := S0.cell 0 _ rfl
  have r1 := S0.cell 1 _ rfl
  go_wp2_with fail
  clear r0 r1
  generalize w8.alloc (.cells #[.int .i64 D, .slice ai qi.length ki] 86) = W8 at *
  refine (eqORR_k D (.slice ai qi.length ki) (.slice as_ qs.length ks_) qi qs _ oi.at os.at (ei.trans es.symm) hli).mono ?_
  rintro e w9 ⟨rfl, hb⟩
  replace S0 := S0.below hb
  replace Y0 := Y0.below hb
  replace os := os.below hb
  replace o2 := o2.below hb
  replace oi := oi.below hb
  replace b0 := b0.trans (hb.mono b0.size)
  clear hb
  go_wp2_with fail
  refine (hto w9 (hrb w9 b0) hl).mono ?_
  rintro e w10 ⟨v3, q3, rfl, e3, o3, n3, g3, hb⟩
  replace S0 := S0.below hb
  replace Y0 := Y0.below hb
  replace os := os.below hb
  replace o2 := o2.below hb
  replace oi := oi.below hb
  replace b0 := b0.trans (hb.mono b0.size)
  clear hb
  clear n3 g3
  have he3 := fun w h h' => he2 v3 q3 e3 w h h'
  obtain ⟨a3, k3, rfl⟩ := o3.shape
  clear he2
  go_wp2_with fail
  refine (he3 w10 o2.at o3.at).mono ?_
  rintro e w11 ⟨rfl, hb⟩
  replace S0 := S0.below hb
  replace Y0 := Y0.below hb
  replace os := os.below hb
  replace o2 := o2.below hb
  replace oi := oi.below hb
  replace b0 := b0.trans (hb.mono b0.size)
  clear hb
  clear he3 o3 e3
  go_wp2_with fail
  have hm2 := nmInsS_le q2
  refine (markInstances_k (.slice a2 q2.length k2) q2 1 _ o2 n2 hl2 (by omega) (by omega)).mono ?_
  rintro e w13 ⟨rfl, _, hU⟩
  have hNU : ∀ k, k ∈ instK.fp (.slice a2 q2.length k2) q2 → w5.heap.size < k ∧ k < w6.heap.size := u2
  replace S0 := S0.outs hU (fun hk => by have := hNU _ hk; omega)
  replace Y0 := Y0.outs hU (fun hk => by have := hNU _ hk; omega)
  replace os := os.out hU (fun k hk hk' => by have := hNU _ hk'; have := us k hk; omega)
  replace oi := oi.out hU (fun k hk hk' => by have := hNU _ hk'; have := ui k hk; omega)
  replace b0 := Out.keep b0 hU b0.size (fun k hk => by have := hNU _ hk; omega)
  clear hNU hU
  clear o2
  generalize hM2 : (nmL nmInsS q2 : Int) = M2 at *
  have hm2' : 0 ≤ M2 ∧ M2 ≤ 3145728 := by omega
  have hpos : ¬ (1 + M2 < 0) := by omega
  clear hm2 hM2
  have p0 := Y0.cell 0 _ rfl
  have p1 := Y0.cell 1 _ rfl
  have r0 := S0.cell 0 _ rfl
  have r1 := S0.cell 1 _ rfl
  go_wp2_with fail
  clear p0 p1
  clear r0 r1
  refine (eqORR_k D (.slice ai qi.length ki) (.slice as_ qs.length ks_) qi qs _ oi.at os.at (ei.trans es.symm) hli).mono ?_
  rintro e w15 ⟨rfl, hb⟩
  replace S0 := S0.below hb
  replace Y0 := Y0.below hb
  replace os := os.below hb
  replace oi := oi.below hb
  replace b0 := b0.trans (hb.mono b0.size)
  clear hb
  have p0 := Y0.cell 0 _ rfl
  have p1 := Y0.cell 1 _ rfl
  go_wp2_with fail
  clear p0 p1
  have hmi := nmInsS_le qi
  refine (markORR_k D (.slice ai qi.length ki) qi 1 w15 oi ni hli (by omega) (by omega)).mono ?_
  rintro e w16 ⟨rfl, om, hU⟩
  have hNU : ∀ k, k ∈ instK.fp (.slice ai qi.length ki) qi → w6.heap.size ≤ k ∧ k < w8.heap.size := ui
  replace S0 := S0.outs hU (fun hk => by have := hNU _ hk; omega)
  replace Y0 := Y0.outs hU (fun hk => by have := hNU _ hk; omega)
  replace os := os.out hU (fun k hk hk' => by have := hNU _ hk'; have := us k hk; omega)
  replace b0 := Out.keep b0 hU b0.size (fun k hk => by have := hNU _ hk; omega)
  clear hNU hU
  clear oi
  have rm := om.at
  clear om
  have hmm : Hid (∀ w', Below w16.heap.size w16 w' → instK.At w' (.slice ai qi.length ki) (mkL mkInsS nmInsS 1 qi)) := fun w' hb => rm.below hb
  have hbq : Below w16.heap.size w16 w16 := Below.refl _ _
  have hhe := fun w h => heldORR_k D (.slice ai qi.length ki) qi 1 w h hli (by omega) (by omega)
  generalize hMi : (nmL nmInsS qi : Int) = Mi at *
  have hmi' : 0 ≤ Mi ∧ Mi ≤ 3145728 := by omega
  have hpi : ¬ (1 + Mi < 0) := by omega
  have hne : ((1 + Mi) != (1 + Mi)) = false := by simp
  clear hmi hMi rm
  have p0 := Y0.cell 0 _ rfl
  have p1 := Y0.cell 1 _ rfl
  go_wp2_with fail
  clear p0 p1
  refine (hhe w16 (hmm.out _ hbq)).mono ?_
  rintro e w17 ⟨rfl, hb⟩
  replace hbq := hbq.trans (hb.mono hbq.size)
  replace S0 := S0.below hb
  replace Y0 := Y0.below hb
  replace os := os.below hb
  replace b0 := b0.trans (hb.mono b0.size)
  clear hb
  go_wp2_with fail
  refine (hto w17 (hrb w17 b0) hl).mono ?_
  rintro e w18 ⟨v5, q5, rfl, e5, o5, n5, g5, hb⟩
  replace hbq := hbq.trans (hb.mono hbq.size)
  replace S0 := S0.below hb
  replace Y0 := Y0.below hb
  replace os := os.below hb
  replace b0 := b0.trans (hb.mono b0.size)
  clear hb
  clear n5 g5
  have hi5 := fun w hG h => him v5 q5 e5 w hG h (by rw [hqn q5 e5]; exact hl)
  obtain ⟨a5, k5, rfl⟩ := o5.shape
  go_wp2_with fail
  refine (hi5 w18 (hG.below b0) o5.at).mono ?_
  rintro e w20 ⟨vh, qh, rfl, eh, oh, nh, gh, hb⟩
  replace hbq := hbq.trans (hb.mono hbq.size)
  replace S0 := S0.below hb
  replace Y0 := Y0.below hb
  replace os := os.below hb
  replace b0 := b0.trans (hb.mono b0.size)
  clear hb
  clear nh gh him hi5 e5 o5 hto
  have hlh : qh.length + nmL InstQ.n qh ≤ 1048576 := hqs.out qh eh hl
  obtain ⟨ah, kh, rfl⟩ := oh.shape
  have H0 := Blk.new w20 86 #[.int .i64 D, .slice ah qh.length kh]
  have hb : Below w20.heap.size w20 (w20.alloc (.cells #[.int .i64 D, .slice ah qh.length kh] 86)) := by go_grown
  replace hbq := hbq.trans (hb.mono hbq.size)
  replace S0 := S0.below hb
  replace Y0 := Y0.below hb
  replace os := os.below hb
  replace oh := oh.below hb
  replace b0 := b0.trans (hb.mono b0.size)
  clear hb
  have r0 := S0.cell 0 _ rfl
  have r1 := S0.cell 1 _ rfl
  go_wp2_with fail
  clear r0 r1
  generalize w20.alloc (.cells #[.int .i64 D, .slice ah qh.length kh] 86) = W20 at *
  refine (eqORR_k D (.slice ah qh.length kh) (.slice as_ qs.length ks_) qh qs _ oh.at os.at (eh.trans es.symm) hlh).mono ?_
  rintro e w21 ⟨rfl, hb⟩
  replace hbq := hbq.trans (hb.mono hbq.size)
  replace S0 := S0.below hb
  replace Y0 := Y0.below hb
  replace H0 := H0.below hb
  replace os := os.below hb
  replace oh := oh.below hb
  replace b0 := b0.trans (hb.mono b0.size)
  clear hb
  have p0 := Y0.cell 0 _ rfl
  have p1 := Y0.cell 1 _ rfl
  go_wp2_with fail
  clear p0 p1
  refine (hhe w21 (hmm.out _ hbq)).mono ?_
  rintro e w22 ⟨rfl, hb⟩
  replace b0 := b0.trans (hb.mono b0.size)
  clear hb hhe hmm hbq S0 Y0 H0 os oh
  go_wp2
  go_ret
  exact ⟨rfl, b0⟩

end Go.Proofs.YtjnkldlkbjldcaaGreatDoor
