/- Whether a quorum proposed a value in one round; whether all that was said on a board was said by the rules. -/
import Derived.Test.YtmlkfmjenkcflaaGreatDoorGI
import Derived.Test.YtmlkfmjenkcflaaGreatDoorGJ
import Derived.Test.YtmlkfmjenkcflaaGreatDoorGF
import Derived.Test.YtmlkfmjenkcflaaGreatDoorGE
namespace Go.Proofs.YtmlkfmjenkcflaaGreatDoor
open Go.RowKit
open Go.BigFrame
set_option linter.unusedVariables false
set_option maxRecDepth 100000
set_option linter.unusedSimpArgs false

section
variable {ops : Array Oper} {rest : List Oper} {op : Oper} {a : Act} {w : World} {Q : Exit → Act → World → Prop}
/-- A whole block is written over. -/
theorem st_row (hw : Region.wanted op (yielded ops a.tmps) = true) (ty : TypeId) (x y : Operand) (ho : op.op = .store ty x y)
    (g : Nat) (cells : Array Value) (hx : a.eval x = .pointer (some ⟨g, 0, none⟩)) (hy : a.eval y = .agg cells)
    (t : TypeId) (old : Array Value) (hg : w.heap[g]? = some (.cells old t (0, 0))) (hi : (Tryz.prog.info? ty).map (·.size) = some cells.size)
    (hold : old.size = cells.size) (h1 : cells.all (·.oneCell') = true)
    (h : wpList Tryz.prog ops Q rest (a.put op.dst undef) (w.setRow g cells)) : wpList Tryz.prog ops Q (op :: rest) a w := by
  simp only [wpList]
  rw [if_pos hw]
  exact Or.inl (wp_store_row ty x y ho g cells hx hy t old hg hi hold h1 h)
end
theorem Blk.row {w : World} {b : Nat} {t : TypeId} {old : Array Value} (h : Blk w b t old) (cs : Array Value) : Blk (w.setRow b cs) b t cs := setRow_heap w b old cs t _ h
theorem below_row {B : Nat} {a w : World} (h : Below B a w) {g : Nat} (hg : B ≤ g) (cs : Array Value) : Below B a (w.setRow g cs) :=
  ⟨h.os, h.tape, h.output, by rw [setRow_size]; exact h.size, fun k hk => (setRow_other w g k cs (by omega)).trans (h.block k hk)⟩
theorem one_iv (zs : List Int) : (zs.map iv).toArray.all (·.oneCell') = true := all_oneCell_toArray (fun v hv => by obtain ⟨z, _, rfl⟩ := List.mem_map.1 hv; rfl)
theorem rowC_pros {q : RoundE} (h : q.rep.length = 3 ∧ q.pro.length = 3) : ∀ j v, (q.pro.map iv)[j]? = some v → (rowC q)[3 + j]? = some v := by
  intro j v hv
  obtain ⟨hj, rfl⟩ := row_get h.2 hv
  exact rowC_pro h j hj

set_option maxHeartbeats 4000000 in
theorem isAgreed_any (rs : List RoundE) (v : Int) (w : World) (h : Wel rs) (h4 : rs.length ≤ 4) :
    Calls Tryz.prog 61 #[.agg (rndC rs).toArray, .int .i64 v] w fun e w' => e = .returned (.bool (agr rs v)) ∧ Below w.heap.size w w' := by
  have B := Blk.new w 74 (rndC rs).toArray
  have hb0 : Below w.heap.size w (w.alloc (.cells (rndC rs).toArray 74)) := by go_grown
  have hc := rnd_cnt rs
  have hl4 : (rs.length : Int) ≤ 4 := by omega
  generalize hE : agr rs v = E
  have HE : Hid (E = agr rs v) := hE.symm
  clear hE
  have HRG : Hid (∀ r, r < rs.length → ∀ j v, (rowC (rs.getD r rnd0))[j]? = some v → (rndC rs)[1 + r * 6 + j]? = some v) := fun r hr j v hv => by
    have hj := (List.getElem?_eq_some_iff.1 hv).1
    rw [rowC_length (wel_at h r hr)] at hj
    rw [rnd_in h r hr j hj]
    exact hv
  generalize rndC rs = ds at *
  go_enter Tryz.func61, Tryz.ntmps61
  go_wp2
  clear hc
  generalize w.alloc (.cells ds.toArray 74) = W at *
  go_loopw [12] (fun j wr => ∃ k : Nat, k ≤ rs.length ∧ j = .int .i64 k ∧ Hid (∀ j, j < k → cnt 7 (rs.getD j rnd0).pro v < 2) ∧ Below W.heap.size W wr) (fun j _ => rs.length - (intOf j).toNat)
  case atStart => exact ⟨0, Nat.zero_le _, rfl, fun j hj => absurd hj (Nat.not_lt_zero _), Below.refl _ _⟩
  case round =>
    obtain ⟨k, hk, rfl, HA, hb⟩ := hrel
    by_cases hlt : k < rs.length
    · have hwl := wel_at h k hlt
      have HY : Hid (2 ≤ cnt 7 (rs.getD k rnd0).pro v → E = true) := fun hx => by rw [HE.out]; exact agr_at hlt hx
      have HN : Hid (cnt 7 (rs.getD k rnd0).pro v < 2 → ∀ j, j < k + 1 → cnt 7 (rs.getD j rnd0).pro v < 2) := fun hx j hj => by
        by_cases hjk : j = k
        · subst hjk; exact hx
        · exact HA.out j (by omega)
      have hrg1 := rng (B.below hb) (rowC (rs.getD k rnd0)) (o := 1 + k * 6) (fun j v hv => by rw [List.getElem?_toArray]; exact HRG.out k hlt j v hv)
      clear HA
      generalize rs.getD k rnd0 = q at *
      have hsz6 : (Tryz.prog.info? 71).map (·.size) = some (rowC q).length := by rw [rowC_length hwl]; exact sz_rows
      have hsz6' : (Tryz.prog.info? 71).map (·.size) = some (rowC q).toArray.size := hsz6
      have hBn := Blk.new wr 71 #[.int .i64 0, .int .i64 0, .int .i64 0, .int .i64 0, .int .i64 0, .int .i64 0]
      have hB3 := hBn.row (rowC q).toArray
      have hb3 : Below W.heap.size W ((wr.alloc (.cells #[.int .i64 0, .int .i64 0, .int .i64 0, .int .i64 0, .int .i64 0, .int .i64 0] 71)).setRow wr.heap.size (rowC q).toArray) := below_row (hb.alloc hb.size _) hb.size _
      have hrg3 := rng hB3 (q.pro.map iv) (o := 3) (fun j v hv => by rw [List.getElem?_toArray]; exact rowC_pros hwl j v hv)
      have hsz3 : (Tryz.prog.info? 69).map (·.size) = some (q.pro.map iv).length := by rw [List.length_map, hwl.2]; exact sz_row
      have hold : (#[.int .i64 0, .int .i64 0, .int .i64 0, .int .i64 0, .int .i64 0, .int .i64 0] : Array Value).size = (rowC q).toArray.size := (show 6 = (rowC q).length by rw [rowC_length hwl])
      have hone : (rowC q).toArray.all (·.oneCell') = true := one_iv _
      have hls := list_any q.pro
      go_wp2_with (first | (refine ld_g (by kernel_rfl) 71 _ rfl _ _ rfl (rowC q) _ hrg1 Tryz.underlying71 rfl hsz6 ?_) | (refine st_row (by kernel_rfl) 71 _ _ rfl _ (rowC q).toArray rfl rfl 71 _ hBn hsz6' hold hone ?_) | (refine ld_g (by kernel_rfl) 69 _ rfl _ _ rfl (q.pro.map iv) _ hrg3 Tryz.underlying69 rfl hsz3 ?_))
      clear hrg1 hrg3 hsz6 hsz6' hsz3 hold hone hBn hB3
      generalize (wr.alloc (.cells #[.int .i64 0, .int .i64 0, .int .i64 0, .int .i64 0, .int .i64 0, .int .i64 0] 71)).setRow wr.heap.size (rowC q).toArray = W3 at *
      refine (hls W3 hwl.2).mono ?_
      rintro e w4 ⟨la, lc, rfl, lO, lG, lR, hb4⟩
      replace hb3 := hb3.trans (hb4.mono hb3.size)
      have hvo := votersOf_any la lc q.pro v w4 lR hwl.2
      have hin := vot_in q.pro v
      have hno := nodesIn_any (vot q.pro v) w4 hin
      rw [pop_vot] at hno
      generalize vot q.pro v = m at *
      generalize cnt 7 q.pro v = C at *
      clear hls lO lG lR hb4 hb hin
      go_wp2_with fail
      refine hvo.mono ?_
      rintro e w' ⟨rfl, hw⟩
      replace hw := hw.symm
      subst hw
      go_wp2_with fail
      refine hno.mono ?_
      rintro e w' ⟨rfl, hw⟩
      replace hw := hw.symm
      subst hw
      clear hvo hno
      by_cases hC : 2 ≤ C
      · have E2 : Hid (E = true) := HY.out hC
        clear HY HN HE HRG
        go_wp2
        go_ret
        exact ⟨by rw [E2.out]; rfl, hb0.trans (hb3.mono hb0.size)⟩
      · have R := HN.out (by omega)
        have HR : Hid _ := R
        clear HY HN R
        go_wp2
        go_roundw
        case rel => exact ⟨k + 1, by omega, by go_num, HR.out, hb3⟩
        case measure => simp [intOf]; omega
    · have hkl : k = rs.length := by omega
      subst hkl
      have E2 : Hid (E = false) := by rw [HE.out]; exact agr_none HA.out
      clear HA HE
      go_wp2
      go_ret
      exact ⟨by rw [E2.out]; rfl, hb0.trans (hb.mono hb0.size)⟩

end Go.Proofs.YtmlkfmjenkcflaaGreatDoor

/- Whether all that was said on a board was said by the rules: the whole. -/
namespace Go.Proofs.YtmlkfmjenkcflaaGreatDoor
open Go.RowKit
open Go.BigFrame
set_option linter.unusedVariables false
set_option maxRecDepth 100000
set_option linter.unusedSimpArgs false

theorem allI_no {has : Bool} {rs : List RoundE} {r n : Nat} (hr : r < rs.length) (hn : n < 3) (h : repI has rs r n = false ∨ proR rs r n = false) : (List.range rs.length).all (allI has rs) = false := by
  rw [List.all_eq_false]
  refine ⟨r, List.mem_range.2 hr, ?_⟩
  intro e
  have := (allI_iff has rs r).1 e n hn
  rcases h with h | h
  · rw [this.1] at h; exact absurd h (by decide)
  · rw [this.2] at h; exact absurd h (by decide)
theorem endA_no {rs : List RoundE} {dec : List Int} {n : Nat} (hn : n < 3) (h : endR rs (dec.getD n 0) = false) : endA rs dec = false := by
  cases he : endA rs dec with
  | false => rfl
  | true =>
    rw [(endA_iff rs dec).1 he n hn] at h
    exact absurd h (by decide)
theorem rng_below {w w' : World} {b o : Nat} {L : List Value} (h : w.rangeAt b o L) (hb : Below w.heap.size w w') : w'.rangeAt b o L := fun j v hv => by
  have h1 := h j v hv
  rw [hb.cell (p := ⟨b, o + j, none⟩) (World.block_lt_of_cell? w _ h1)]
  exact h1

theorem idx0 (x y z : Int) (w : World) : (Instr.index 69 (.agg #[.int .i64 x, .int .i64 y, .int .i64 z]) (.int .i64 0)).run Tryz.prog w = .ok (.int .i64 x) w := by kernel_rfl
theorem idx1 (x y z : Int) (w : World) : (Instr.index 69 (.agg #[.int .i64 x, .int .i64 y, .int .i64 z]) (.int .i64 1)).run Tryz.prog w = .ok (.int .i64 y) w := by kernel_rfl
theorem idx2 (x y z : Int) (w : World) : (Instr.index 69 (.agg #[.int .i64 x, .int .i64 y, .int .i64 z]) (.int .i64 2)).run Tryz.prog w = .ok (.int .i64 z) w := by kernel_rfl
theorem idx_any {zs : List Int} (h3 : zs.length = 3) (m : Nat) (hm : m < 3) (w : World) : (Instr.index 69 (.agg (zs.map iv).toArray) (.int .i64 (m : Int))).run Tryz.prog w = .ok (.int .i64 (zs.getD m 0)) w := by
  obtain ⟨x, y, z, rfl⟩ := three h3
  have : m = 0 ∨ m = 1 ∨ m = 2 := by omega
  rcases this with rfl | rfl | rfl
  · exact idx0 x y z w
  · exact idx1 x y z w
  · exact idx2 x y z w

set_option maxHeartbeats 4000000 in
theorem isRight_any (has : Bool) (vb : Value) (rs : List RoundE) (dec : List Int) (w : World) (hG : Rul w) (h : Wel rs) (h4 : rs.length ≤ 4) (hd : dec.length = 3) :
    Calls Tryz.prog 47 #[.agg (brdC has vb rs dec).toArray] w fun e w' => e = .returned (.bool ((List.range rs.length).all (allI has rs) && endA rs dec)) ∧ Below w.heap.size w w' := by
  have B := Blk.new w 76 (brdC has vb rs dec).toArray
  have hb0 : Below w.heap.size w (w.alloc (.cells (brdC has vb rs dec).toArray 76)) := by go_grown
  have hc : (brdC has vb rs dec)[0]? = some (iv rs.length) := by rw [brd_rnd h h4 0 (by omega)]; rfl
  have hrgB := rng B (brdC has vb rs dec) (o := 0) (fun j v hv => by rw [Nat.zero_add, List.getElem?_toArray]; exact hv)
  have hrgR := brd_rounds h h4 B
  have hrgD := rng B (dec.map iv) (o := 27) (fun j v hv => by
    obtain ⟨hj, rfl⟩ := row_get hd hv
    rw [List.getElem?_toArray]
    exact brd_dec h h4 hd j hj)
  have hszB : (Tryz.prog.info? 76).map (·.size) = some (brdC has vb rs dec).length := by rw [brdC_length h h4 hd]; exact sz_board
  have hszR : (Tryz.prog.info? 74).map (·.size) = some (rndC rs).length := by rw [rndC_length h h4]; exact sz_rounds
  have hszD : (Tryz.prog.info? 69).map (·.size) = some (dec.map iv).length := by rw [List.length_map, hd]; exact sz_row
  have hrr := fun r n w hG hr hn => isReportRight_any has vb rs dec r n w hG h h4 hd hr hn
  have hpr := fun r n w hG hr hn => isPropRight_any rs r n w hG h h4 hr hn
  have hag := fun v w => isAgreed_any rs v w h h4
  generalize hE : ((List.range rs.length).all (allI has rs) && endA rs dec) = E
  have HE : Hid (E = ((List.range rs.length).all (allI has rs) && endA rs dec)) := hE.symm
  clear hE h B
  generalize brdC has vb rs dec = cs at *
  generalize rndC rs = ds at *
  go_enter Tryz.func47, Tryz.ntmps47
  go_wp2
  clear hc
  generalize w.alloc (.cells cs.toArray 76) = W at *
  replace hG := hG.below hb0
  go_loopw [10] (fun j wr => ∃ k : Nat, k ≤ rs.length ∧ j = .int .i64 k ∧ Hid (∀ j, j < k → allI has rs j = true) ∧ Below W.heap.size W wr) (fun j _ => rs.length - (intOf j).toNat)
  case atStart => exact ⟨0, Nat.zero_le _, rfl, fun j hj => absurd hj (Nat.not_lt_zero _), Below.refl _ _⟩
  case round =>
    obtain ⟨k, hk, rfl, HA, hb⟩ := hrel
    by_cases hlt : k < rs.length
    · go_wp2
      go_loopw [13] (fun j wx => ∃ m : Nat, m ≤ 3 ∧ j = .int .i64 m ∧ Hid (∀ j, j < m → repI has rs k j = true ∧ proR rs k j = true) ∧ Below W.heap.size W wx) (fun j _ => 3 - (intOf j).toNat)
      case atStart => exact ⟨0, Nat.zero_le _, rfl, fun j hj => absurd hj (Nat.not_lt_zero _), hb⟩
      case round =>
        obtain ⟨m, hm, rfl, HB, hbx⟩ := hrel
        by_cases hm3 : m < 3
        · have hm3' : (m : Int) < 3 := by omega
          have HX : Hid (repI has rs k m = false → E = false) := fun hx => by rw [HE.out, allI_no hlt hm3 (Or.inl hx)]; rfl
          have HY : Hid (proR rs k m = false → E = false) := fun hx => by rw [HE.out, allI_no hlt hm3 (Or.inr hx)]; rfl
          have HN : Hid (repI has rs k m = true → proR rs k m = true → ∀ j, j < m + 1 → repI has rs k j = true ∧ proR rs k j = true) := fun h1 h2 j hj => by
            by_cases hjm : j = m
            · subst hjm; exact ⟨h1, h2⟩
            · exact HB.out j (by omega)
          have h1 := hrr k m _ (hG.below hbx) hlt hm3
          have h2 := fun w hG => hpr k m w hG hlt hm3
          have hr1 := rng_below hrgB hbx
          clear HB
          generalize repI has rs k m = X at *
          generalize proR rs k m = Y at *
          go_wp2_with (refine ld_g (by kernel_rfl) 76 _ rfl _ _ rfl cs _ hr1 Tryz.underlying76 rfl hszB ?_)
          clear hr1
          refine h1.mono ?_
          rintro e w5 ⟨rfl, hb5⟩
          replace hbx := hbx.trans (hb5.mono hbx.size)
          clear h1 hb5
          cases X with
          | false =>
            have E2 : Hid (E = false) := HX.out rfl
            clear HX HY HN HE HA
            go_wp2
            go_ret
            exact ⟨by rw [E2.out]; rfl, hb0.trans (hbx.mono hb0.size)⟩
          | true =>
            have hr2 := rng_below hrgR hbx
            have h3 := h2 w5 (hG.below hbx)
            go_wp2_with (refine ld_g (by kernel_rfl) 74 _ rfl _ _ rfl ds _ hr2 Tryz.underlying74 rfl hszR ?_)
            clear hr2 h2
            refine h3.mono ?_
            rintro e w6 ⟨rfl, hb6⟩
            replace hbx := hbx.trans (hb6.mono hbx.size)
            clear h3 hb6
            cases Y with
            | false =>
              have E2 : Hid (E = false) := HY.out rfl
              clear HX HY HN HE HA
              go_wp2
              go_ret
              exact ⟨by rw [E2.out]; rfl, hb0.trans (hbx.mono hb0.size)⟩
            | true =>
              have R := HN.out (by first | rfl | trivial) (by first | rfl | trivial)
              have HR : Hid _ := R
              clear HX HY HN R
              go_wp2
              go_roundw
              case rel => exact ⟨m + 1, by omega, by go_num, HR.out, hbx⟩
              case measure => simp [intOf]; omega
        · have hme : m = 3 := by omega
          subst hme
          have HR : Hid (∀ j, j < k + 1 → allI has rs j = true) := fun j hj => by
            by_cases hjk : j = k
            · subst hjk; exact (allI_iff has rs j).2 HB.out
            · exact HA.out j (by omega)
          clear HA HB
          go_wp2
          go_roundw
          case rel => exact ⟨k + 1, by omega, by go_num, HR.out, hbx⟩
          case measure => simp [intOf]; omega
    · have hkl : k = rs.length := by omega
      subst hkl
      have HE5 : Hid (E = endA rs dec) := show _ = _ by
        have e : (List.range rs.length).all (allI has rs) = true := by
          rw [List.all_eq_true]
          intro x hx
          exact HA.out x (List.mem_range.1 hx)
        rw [HE.out, e, Bool.true_and]
      clear HA HE hrr hpr
      have hr1 := rng_below hrgD hb
      go_wp2_with (refine ld_g (by kernel_rfl) 69 _ rfl _ _ rfl (dec.map iv) _ hr1 Tryz.underlying69 rfl hszD ?_)
      clear hr1
      go_loopw [33] (fun j wx => ∃ m : Nat, m ≤ 3 ∧ j = .int .i64 m ∧ Hid (∀ j, j < m → endR rs (dec.getD j 0) = true) ∧ Below W.heap.size W wx) (fun j _ => 3 - (intOf j).toNat)
      case atStart => exact ⟨0, Nat.zero_le _, rfl, fun j hj => absurd hj (Nat.not_lt_zero _), hb⟩
      case round =>
        obtain ⟨m, hm, rfl, HB, hbx⟩ := hrel
        by_cases hm3 : m < 3
        · have hm3' : (m : Int) < 3 := by omega
          have HY : Hid (endR rs (dec.getD m 0) = false → E = false) := fun hx => by rw [HE5.out, endA_no hm3 hx]
          have HN : Hid (endR rs (dec.getD m 0) = true → ∀ j, j < m + 1 → endR rs (dec.getD j 0) = true) := fun hx j hj => by
            by_cases hjm : j = m
            · subst hjm; exact hx
            · exact HB.out j (by omega)
          have HV : Hid (endR rs (dec.getD m 0) = ((dec.getD m 0 == 3) || agr rs (dec.getD m 0))) := (rfl : _ = _)
          have hix := fun w => idx_any hd m hm3 w
          have h1 := hag (dec.getD m 0)
          have hr2 := rng_below hrgR hbx
          clear HB
          generalize dec.getD m 0 = v at *
          by_cases hv : v = 3
          · have hv' : (v != 3) = false := by simp [hv]
            have R := HN.out (by rw [HV.out, hv]; rfl)
            have HR : Hid _ := R
            clear HY HN HV R hv
            go_wp2
            go_roundw
            case rel => exact ⟨m + 1, by omega, by go_num, HR.out, hbx⟩
            case measure => simp [intOf]; omega
          · have hv' : (v != 3) = true := by simpa using hv
            have hv2 : (v == 3) = false := by simpa using hv
            rw [hv2, Bool.false_or] at HV
            rw [HV.out] at HY HN
            generalize agr rs v = X at *
            clear HV hv hv2
            have h3 := h1 wr
            go_wp2_with (refine ld_g (by kernel_rfl) 74 _ rfl _ _ rfl ds _ hr2 Tryz.underlying74 rfl hszR ?_)
            clear hr2 h1
            refine h3.mono ?_
            rintro e w6 ⟨rfl, hb6⟩
            replace hbx := hbx.trans (hb6.mono hbx.size)
            clear h3 hb6
            cases X with
            | false =>
              have E2 : Hid (E = false) := HY.out rfl
              clear HY HN HE5
              go_wp2
              go_ret
              exact ⟨by rw [E2.out]; rfl, hb0.trans (hbx.mono hb0.size)⟩
            | true =>
              have R := HN.out (by first | rfl | trivial)
              have HR : Hid _ := R
              clear HY HN R
              go_wp2
              go_roundw
              case rel => exact ⟨m + 1, by omega, by go_num, HR.out, hbx⟩
              case measure => simp [intOf]; omega
        · have hme : m = 3 := by omega
          subst hme
          have E2 : Hid (E = true) := by rw [HE5.out, (endA_iff rs dec).2 HB.out]; rfl
          clear HB HE5
          go_wp2
          go_ret
          exact ⟨by rw [E2.out]; rfl, hb0.trans (hbx.mono hb0.size)⟩

end Go.Proofs.YtmlkfmjenkcflaaGreatDoor

/- Rows of votes out of lists; a round that is laid behind the last one. -/
namespace Go.Proofs.YtmlkfmjenkcflaaGreatDoor
open Go.RowKit
open Go.BigFrame
set_option linter.unusedVariables false
set_option maxRecDepth 100000
set_option linter.unusedSimpArgs false

theorem run_copyR (w : World) (ty g : Nat) (cur : Array Value) (b off sc : Nat) (zs : List Int) (hz : zs.length = 3) (hg : w.heap[g]? = some (.cells cur 69 (0, 0))) (hc : cur.size = 3) (hr : Row .i64 w (some ⟨b, off, none⟩) zs) :
    (Builtin.copy_ #[24, 24] ty #[.slice (some ⟨g, 0, none⟩) 3 3, .slice (some ⟨b, off, none⟩) 3 sc]).run Tryz.prog w = .ok (goInt 3) (w.setRow g (zs.map iv).toArray) := by
  obtain ⟨i0, hi, hz0, hz1, hz2⟩ := info_parts infoI6
  have hlen : (zs.map iv).length = 3 := by simp [hz]
  have hl := run_loadCells_list (P := Tryz.prog) w ⟨b, off, none⟩ (zs.map iv) (lies_src (lies_of_row hr))
  have hst := run_storeCells_at Tryz.prog g 0 69 (zs.map iv) 0 cur w hg (by omega) (fun v hv => by obtain ⟨z, _, rfl⟩ := List.mem_map.1 hv; rfl)
  have e : cur.toList.drop (zs.map iv).length = [] := List.drop_of_length_le (by simp; omega)
  simp only [Nat.zero_add, Nat.add_zero, List.take_zero, List.nil_append, e, List.append_nil] at hst
  rw [hlen] at hl
  simp [Builtin.copy_, run_underlying Tryz.underlying24, Builtin.lenOf, Builtin.firstCells, sizeOf, typeInfo, hi, hz1, hl, hst]

set_option maxHeartbeats 1000000 in
theorem rowOf_any (b off cap : Nat) (zs : List Int) (w : World) (h : Row .i64 w (some ⟨b, off, none⟩) zs) (h3 : zs.length = 3) :
    Calls Tryz.prog 45 #[.slice (some ⟨b, off, none⟩) 3 cap] w fun e w' => e = .returned (.agg (zs.map iv).toArray) ∧ Below w.heap.size w w' := by
  have hb0 : Below w.heap.size w ((w.alloc (.cells #[.int .i64 0, .int .i64 0, .int .i64 0] 69)).alloc (.cells #[.int .i64 0, .int .i64 0, .int .i64 0] 69)) := by go_grown
  have C := (Blk.new w 69 #[.int .i64 0, .int .i64 0, .int .i64 0]).below (w' := (w.alloc (.cells #[.int .i64 0, .int .i64 0, .int .i64 0] 69)).alloc (.cells #[.int .i64 0, .int .i64 0, .int .i64 0] 69)) (by go_grown)
  have D := Blk.new (w.alloc (.cells #[.int .i64 0, .int .i64 0, .int .i64 0] 69)) 69 #[.int .i64 0, .int .i64 0, .int .i64 0]
  simp only [World.size_alloc] at D
  have hcp0 := fun ty => run_copyR _ ty (w.heap.size + 1) _ b off cap zs h3 D rfl (h.below hb0)
  obtain ⟨x, y, z, rfl⟩ := three h3
  obtain ⟨W2, hcp, D2, C2, hb2⟩ : ∃ W2, (∀ ty, (Builtin.copy_ #[24, 24] ty #[.slice (some ⟨w.heap.size + 1, 0, none⟩) 3 3, .slice (some ⟨b, off, none⟩) 3 cap]).run Tryz.prog ((w.alloc (.cells #[.int .i64 0, .int .i64 0, .int .i64 0] 69)).alloc (.cells #[.int .i64 0, .int .i64 0, .int .i64 0] 69)) = .ok (goInt 3) W2) ∧ Blk W2 (w.heap.size + 1) 69 #[.int .i64 x, .int .i64 y, .int .i64 z] ∧ Blk W2 w.heap.size 69 #[.int .i64 0, .int .i64 0, .int .i64 0] ∧ Below w.heap.size w W2 :=
    ⟨_, hcp0, D.row _, (setRow_other _ _ _ _ (by omega)).trans C, below_row hb0 (g := w.heap.size + 1) (by omega) _⟩
  obtain ⟨p0, p1, p2⟩ := D2.cel3
  obtain ⟨q0, q1, q2⟩ := C2.cel3
  obtain ⟨f0, f1, f2⟩ := C2.frz3
  clear C D D2 C2 hb0 h hcp0
  go_enter Tryz.func45, Tryz.ntmps45
  go_wp2
  exact bodyPost_ret (v := .agg #[.int .i64 x, .int .i64 y, .int .i64 z]) (by simp [results, Tryz.results45, go_sem, q0, q1, q2]) rfl ⟨rfl, ((hb2.setCell (p := ⟨w.heap.size, 0, none⟩) (Nat.le_refl _) _).setCell (p := ⟨w.heap.size, 1, none⟩) (Nat.le_refl _) _).setCell (p := ⟨w.heap.size, 2, none⟩) (Nat.le_refl _) _⟩

end Go.Proofs.YtmlkfmjenkcflaaGreatDoor

/- A round that is laid behind the last one; a report that is laid on a board. -/
namespace Go.Proofs.YtmlkfmjenkcflaaGreatDoor
open Go.RowKit
open Go.BigFrame
set_option linter.unusedVariables false
set_option maxRecDepth 100000
set_option linter.unusedSimpArgs false

theorem blk_setCells (b : Nat) (t : TypeId) : ∀ (vs : List Value) (o : Nat) (w : World) (cs : List Value), Blk w b t cs.toArray → Blk (w.setCells b o vs) b t (setFrom cs o vs).toArray
  | [], _, _, _, h => h
  | v :: r, o, w, cs, h => by
    have h1 := h.set o v
    rw [List.setIfInBounds_toArray] at h1
    exact blk_setCells b t r (o + 1) _ _ h1
theorem out_setCells (b : Nat) : ∀ (vs : List Value) (o : Nat) (w : World), Out [b] w (w.setCells b o vs)
  | [], _, w => Out.refl _ w
  | v :: r, o, w => (Out.setCell w b o v).trans (out_setCells b r (o + 1) _)
theorem setFrom_mid (A B C Y : List Value) (h : B.length = Y.length) : setFrom (A ++ (B ++ C)) A.length Y = A ++ (Y ++ C) := by
  apply List.ext_getElem?
  intro j
  by_cases hj : j < (A ++ (B ++ C)).length
  · rw [setFrom_get _ _ _ _ hj]
    simp only [List.length_append] at hj
    by_cases h1 : A.length ≤ j ∧ j < A.length + Y.length
    · rw [if_pos h1, List.getElem?_append_right h1.1, List.getElem?_append_left (by omega)]
    · rw [if_neg h1]
      by_cases h2 : j < A.length
      · rw [List.getElem?_append_left h2, List.getElem?_append_left h2]
      · rw [List.getElem?_append_right (by omega), List.getElem?_append_right (by omega), List.getElem?_append_right (by omega), List.getElem?_append_right (by omega), h]
  · rw [List.getElem?_eq_none (by rw [setFrom_length]; omega), List.getElem?_eq_none (by simp only [List.length_append] at hj ⊢; omega)]
theorem rowsV_snoc (rs : List RoundE) (q : RoundE) : rowsV (rs ++ [q]) = rowsV rs ++ rowC q := by simp [rowsV]
/-- A round behind the last one, in cells. -/
theorem rnd_snoc {rs : List RoundE} {q : RoundE} (tail : List Value) (h : Wel rs) (hq : q.rep.length = 3 ∧ q.pro.length = 3) (h4 : rs.length < 4) :
    (setFrom (rndC rs ++ tail) (1 + rs.length * 6) (rowC q)).set 0 (iv ((rs.length : Int) + 1)) = rndC (rs ++ [q]) ++ tail := by
  have hl := rowsV_length h
  have hq6 := rowC_length hq
  have e1 : rndC rs ++ tail = (iv rs.length :: rowsV rs) ++ (List.replicate 6 (iv 0) ++ (List.replicate (18 - 6 * rs.length) (iv 0) ++ tail)) := by
    unfold rndC
    rw [show 24 - 6 * rs.length = 6 + (18 - 6 * rs.length) by omega, ← List.replicate_append_replicate]
    simp [List.append_assoc]
  have e2 : (iv rs.length :: rowsV rs).length = 1 + rs.length * 6 := by simp only [List.length_cons, hl]; omega
  rw [e1, ← e2, setFrom_mid _ _ _ _ (by rw [List.length_replicate, hq6])]
  unfold rndC
  rw [rowsV_snoc, List.length_append, List.length_singleton, show 24 - 6 * (rs.length + 1) = 18 - 6 * rs.length by omega]
  simp [List.append_assoc]

/-- The worlds in which the count and the box are as they were. -/
structure LatR (b g : Nat) (w : World) where
  val : World
  cnt : val.cell? ⟨b, 0, none⟩ = w.cell? ⟨b, 0, none⟩
  box : val.heap[g]? = w.heap[g]?

set_option maxHeartbeats 4000000 in
theorem addRound_any (b : Nat) (t : TypeId) (rs : List RoundE) (tail : List Value) (q : RoundE) (w : World) (hB : Blk w b t (rndC rs ++ tail).toArray) (h : Wel rs) (hq : q.rep.length = 3 ∧ q.pro.length = 3) (h4 : rs.length < 4) :
    Calls Tryz.prog 46 #[.pointer (some ⟨b, 0, none⟩), .agg (rowC q).toArray] w fun e w' => e = .returned (.tuple #[]) ∧ Blk w' b t (rndC (rs ++ [q]) ++ tail).toArray ∧ Out [b] w w' := by
  have hblt := hB.lt
  have hb0 : Below w.heap.size w (w.alloc (.cells (rowC q).toArray 71)) := by go_grown
  have G := Blk.new w 71 (rowC q).toArray
  replace hB := hB.below hb0
  have hcell : (w.alloc (.cells (rowC q).toArray 71)).cell? ⟨b, 0, none⟩ = some (iv rs.length) := hB.cell 0 _ rfl
  have hone : (rowC q).toArray.all (·.oneCell') = true := one_iv _
  have hsz6 : (Tryz.prog.info? 71).map (·.size) = some (rowC q).length := by rw [rowC_length hq]; exact sz_rows
  have hlen := rndC_length h (by omega)
  have hthere : ∀ W' : World, W'.heap[b]? = (w.alloc (.cells (rowC q).toArray 71)).heap[b]? → W'.there b (1 + rs.length * 6) (rowC q).toArray.size := by
    intro W' hW' j hj
    rw [List.size_toArray, rowC_length hq] at hj
    have hBB : Blk W' b t (rndC rs ++ tail).toArray := hW'.trans hB
    have hlt : 1 + rs.length * 6 + j < (rndC rs ++ tail).length := by simp only [List.length_append]; omega
    have hx := List.getElem?_eq_getElem hlt
    exact ⟨by rw [hBB.cell _ _ (by rw [List.getElem?_toArray]; exact hx)]; rfl, hBB.frozen _⟩
  have hres := rnd_snoc tail h hq h4
  have HRES : Hid ((setFrom (rndC rs ++ tail) (1 + rs.length * 6) (rowC q)).set 0 (iv ((rs.length : Int) + 1)) = rndC (rs ++ [q]) ++ tail) := hres
  clear hres
  generalize rndC (rs ++ [q]) ++ tail = es at *
  generalize rndC rs ++ tail = cs at *
  have hc4 : (rs.length : Int) < 4 := by omega
  generalize rs.length = c at *
  go_enter Tryz.func46, Tryz.ntmps46
  go_wp2_with fail
  generalize w.alloc (.cells (rowC q).toArray 71) = W at *
  have hk0 : W.drew.cell? ⟨b, 0, none⟩ = W.cell? ⟨b, 0, none⟩ := rfl
  have hkb : W.drew.heap[w.heap.size]? = W.heap[w.heap.size]? := rfl
  have hne : Nonempty (LatR b w.heap.size W) := ⟨⟨W, rfl, rfl⟩⟩
  have k0 : ∀ u : LatR b w.heap.size W, u.val.cell? ⟨b, 0, none⟩ = some (iv c) := fun u => u.cnt.trans hcell
  have ld1 : ∀ u : LatR b w.heap.size W, (Instr.loadAt 71 (.pointer (some ⟨w.heap.size, 0, none⟩))).run Tryz.prog u.val = .ok (.agg (rowC q).toArray) u.val := fun u => by
    have hG : Blk u.val w.heap.size 71 (rowC q).toArray := u.box.trans G
    exact run_loadAt_mid u.val w.heap.size 0 71 (rowC q) _ (rng hG _ (fun j v hv => by rw [Nat.zero_add, List.getElem?_toArray]; exact hv)) Tryz.underlying71 rfl hsz6
  refine text_begin (S := fun w' => ∃ u : LatR b w.heap.size W, w' = u.val) (by kernel_rfl) ?_
  refine sgr [(0, 2)] 8 (by kernel_rfl) ⟨⟨_, hk0, hkb⟩, rfl⟩ ?_
  simp only [pkE]
  repeat go_big_quiet_step (fail)
  refine wpQuiet_nil ?_
  refine qta 2 (some 6) (.pointer (some ⟨b, 0, none⟩)) 7 (by kernel_rfl) (fun u _ => by kernel_rfl) ⟨⟨_, hk0, hkb⟩, rfl⟩ ?_
  simp only [Act.put, pjE]
  refine sgr [(3, 2)] 5 (by kernel_rfl) ⟨⟨_, hk0, hkb⟩, rfl⟩ ?_
  simp only [pkE]
  repeat go_big_quiet_step (fail)
  refine wpQuiet_nil ?_
  refine qta 5 (some 9) (.agg (rowC q).toArray) 4 (by kernel_rfl) (fun u hu => ?_) ⟨⟨_, hk0, hkb⟩, rfl⟩ ?_
  · obtain ⟨u, rfl⟩ := hu
    show some (((Instr.loadAt 71 (.pointer (some ⟨w.heap.size, 0, none⟩))) >>= fun x => pure (Next.value x) : Sem Next).run Tryz.prog u.val) = _
    rw [Sem.run_bind, ld1 u]
    rfl
  simp only [Act.put, pjE]
  refine qta 6 (some 10) (.pointer (some ⟨b, 0, none⟩)) 3 (by kernel_rfl) (fun u _ => by kernel_rfl) ⟨⟨_, hk0, hkb⟩, rfl⟩ ?_
  simp only [Act.put, pjE]
  refine sgr [(7, 2)] 1 (by kernel_rfl) ⟨⟨_, hk0, hkb⟩, rfl⟩ ?_
  simp only [pkE]
  repeat go_big_quiet_step (fail)
  refine wpQuiet_nil ?_
  refine ona 9 0 rfl (by kernel_rfl) ?_
  refine st_g (by kernel_rfl) 71 _ _ rfl b (1 + c * 6) (rowC q).toArray rfl rfl (hthere _ rfl) hsz6 hone ?_
  have D : Blk (W.drew.setCells b (1 + c * 6) (rowC q)) b t (setFrom cs (1 + c * 6) (rowC q)).toArray := blk_setCells b t (rowC q) (1 + c * 6) W.drew cs hB
  have U : Out [b] w (W.drew.setCells b (1 + c * 6) (rowC q)) := (Out.of_below hb0).trans ((Out.of_below ((Below.refl _ _).drew)).trans (out_setCells b (rowC q) (1 + c * 6) W.drew))
  have hgb : w.heap.size ≠ b := by omega
  have hkb2 : (W.drew.setCells b (1 + c * 6) (rowC q)).heap[w.heap.size]? = W.heap[w.heap.size]? := ((out_setCells b (rowC q) (1 + c * 6) W.drew).block _ G.lt (by simp only [List.mem_singleton]; exact hgb))
  have hk2 : (W.drew.setCells b (1 + c * 6) (rowC q)).cell? ⟨b, 0, none⟩ = W.cell? ⟨b, 0, none⟩ := World.cell?_setCells_out b (rowC q) (1 + c * 6) W.drew ⟨b, 0, none⟩ (fun _ _ => Or.inl (by show 0 < 1 + c * 6; omega))
  refine ThenGo.to ⟨⟨⟨_, hk2, hkb2⟩, rfl⟩, ?_⟩
  refine text_end (by kernel_rfl) ?_
  have hcell2 := hk2.trans hcell
  have hfr := D.frozen 0
  have F := D.set 0 (iv ((c : Int) + 1))
  rw [List.setIfInBounds_toArray, HRES.out] at F
  have U2 := U.set (b := b) (j := 0) (u := iv ((c : Int) + 1)) (by simp)
  have HF : Hid (Blk _ b t es.toArray ∧ Out [b] w _) := And.intro F U2
  clear F U2 D U hk2 hkb2 hkb hk0 k0 ld1 hne hthere HRES
  generalize W.drew.setCells b (1 + c * 6) (rowC q) = X at *
  go_wp2
  go_end0
  exact ⟨rfl, HF.out⟩

end Go.Proofs.YtmlkfmjenkcflaaGreatDoor

/- A region that draws, told by what it leaves: values in its temporaries, and a world of which something is known; worlds in which some blocks alone may have turned. No condition. -/
namespace Go.Proofs.YtmlkfmjenkcflaaGreatDoor
open Go.RowKit
set_option linter.unusedVariables false
set_option maxRecDepth 100000

def putAll : Act → List (Option Tmp) → List Value → Act
  | a, d :: ds, v :: vs => putAll (a.put d v) ds vs
  | a, _, _ => a

section
variable {P : Program} {ops : Array Oper} {Q : Exit → Act → World → Prop}

theorem region_vals {id : Nat} {a : Act} {w : World} (ds : List (Option Tmp)) (R : List Value → World → Prop)
    (hreg : (Code.region id ops true).wp P (fun e a' w' => e = .normal ∧ ∃ vs, R vs w' ∧ a' = putAll a ds vs) a w) (himp : ∀ vs w', R vs w' → Q .normal (putAll a ds vs) w') : (Code.region id ops true).wp P Q a w := by
  refine Code.wp_mono ?_ hreg
  rintro e a' w' ⟨rfl, vs, hR, rfl⟩
  exact himp vs w' hR

end

/-- The worlds that came out of w, of whose blocks those of F alone may have turned. -/
structure LatO (F : List Nat) (w : World) where
  val : World
  isOut : Out F w val
theorem lato_cell {F : List Nat} {w : World} {b o : Nat} {v : Value} (h : w.cell? ⟨b, o, none⟩ = some v) (hF : b ∉ F) : ∀ u : LatO F w, u.val.cell? ⟨b, o, none⟩ = some v := fun u => by
  have hb := World.block_lt_of_cell? w _ h
  have e := u.isOut.block b hb hF
  unfold World.cell? at h ⊢
  simp only at h ⊢
  rw [e]
  exact h

end Go.Proofs.YtmlkfmjenkcflaaGreatDoor
