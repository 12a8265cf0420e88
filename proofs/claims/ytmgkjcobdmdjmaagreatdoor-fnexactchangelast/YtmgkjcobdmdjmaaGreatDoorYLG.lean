/- Texts joined, with what the law reaches alone. -/
import Derived.Test.YtmgkjcobdmdjmaaGreatDoorYLF
import Derived.Test.YtmgkjcobdmdjmaaGreatDoorYLD
import Derived.Test.YtmgkjcobdmdjmaaGreatDoorYLA
import Derived.Deep.Slices
import Derived.Deep.Strs
import Derived.Lib.SmallJoins
import Derived.ProofKit
import Derived.Test.YtmgkjcobdmdjmaaGreatDoorYLC
import Derived.Test.YtmgkjcobdmdjmaaGreatDoorRows
import Derived.Test.YtmgkjcobdmdjmaaGreatDoorYLB
import Derived.Lib.LaidU8
import Derived.OpenVars
import Derived.LaidMore
import Derived.Stop.LaidErr
import Derived.Stop.Joined
import Derived.Laws.StructEq
namespace Go.Proofs.YtmgkjcobdmdjmaaGreatDoor
open Go.RowKit
open Go.BigFrame
set_option linter.unusedVariables false
set_option maxRecDepth 100000
set_option linter.unusedSimpArgs false
/-- The board that boardOf answers. -/
def bdOf (p : InstQ) : List Value := if insF p.e = 0 then brdC p.has p.vb p.e.rounds p.dec else brd0

theorem ins_zero {x : InstE} (h : insF x = 0) : shpF x = 0 ∧ rgtI x = true := by
  unfold insF at h
  by_cases h0 : shpF x = 0
  · rw [if_pos h0] at h
    refine ⟨h0, ?_⟩
    by_cases h1 : rgtI x = true
    · exact h1
    · rw [if_neg h1] at h
      simp at h
  · rw [if_neg h0] at h
    exact absurd h h0

/-- What a right instance is like. -/
theorem ins_ok {x : InstE} (h : insF x = 0) : Wel x.rounds ∧ (1 ≤ x.rounds.length ∧ x.rounds.length ≤ 4) ∧ x.dec.length = 3 ∧ rndsF x.rounds = 0 ∧ vf x.dec 1 = 0 := by
  obtain ⟨h0, _⟩ := ins_zero h
  obtain ⟨h1, h2, h3, _⟩ := shp_zero h0
  exact ⟨wel_of h2, h1, vf_len h3, h2, h3⟩

theorem brd_one {has : Bool} {vb : Value} {rs : List RoundE} {dec : List Int} (hv : vb.oneCell' = true) : (brdC has vb rs dec).toArray.all (·.oneCell') = true := all_oneCell_toArray (fun v hm => by
  simp only [brdC, rndC, rowsV, List.mem_append, List.mem_cons, List.mem_flatMap, List.mem_replicate, List.mem_map, rowC, List.not_mem_nil, or_false] at hm
  rcases hm with (rfl | ⟨r, _, z, _, rfl⟩ | ⟨_, rfl⟩) | (rfl | rfl) | ⟨z, _, rfl⟩ <;> first | rfl | exact hv)

theorem bd_ok {w : World} {p : InstQ} (h : instK.rd w p) : (bdOf p).length = 30 ∧ (bdOf p).toArray.all (·.oneCell') = true := by
  unfold bdOf
  by_cases h0 : insF p.e = 0
  · rw [if_pos h0]
    obtain ⟨h1, h2, h3, _⟩ := ins_ok h0
    refine ⟨brdC_length h1 h2.2 h3, brd_one ?_⟩
    obtain ⟨a, c, e⟩ := h.1.shape
    rw [e]; rfl
  · rw [if_neg h0]
    exact ⟨rfl, by kernel_rfl⟩

set_option maxHeartbeats 2000000 in
theorem implInstanceFault_any (p : InstQ) (w : World) (hG : Rul w) (h : instK.rd w p) (hl : p.n ≤ 1048576) :
    Calls Tryz.prog 20 #[.agg #[.bool p.has, p.vb, p.vr, p.vd]] w fun e w' => e = .returned (.int .i64 (insF p.e)) ∧ Below w.heap.size w w' := by
  obtain ⟨hl30, hone⟩ := bd_ok h
  have hbo := fun w hG h => boardOf_any p w hG h hl
  have hrb := fun (w' : World) hb => instK.rd_below (w' := w') h hb
  change ∀ w hG h, Calls _ _ _ _ fun e w' => e = .returned (.tuple #[.agg (bdOf p).toArray, _]) ∧ _ at hbo
  generalize bdOf p = BD at *
  generalize insF p.e = C at *
  obtain ⟨has, vb, batch, vr, rounds, vd, dec⟩ := p
  obtain ⟨ba, bk, rfl⟩ : ∃ a c, vb = .slice a batch.length c := h.1.shape
  obtain ⟨va, vk, rfl⟩ : ∃ a c, vr = .slice a rounds.length c := h.2.1.shape
  obtain ⟨da, dk, rfl⟩ : ∃ a c, vd = .slice a dec.length c := h.2.2.shape
  dsimp only at hbo hrb
  have hB : Below w.heap.size w (w.alloc (.cells #[.bool has, .slice ba batch.length bk, .slice va rounds.length vk, .slice da dec.length dk] 28)) := by go_grown
  have hszB : (Tryz.prog.info? 96).map (·.size) = some BD.toArray.size := by rw [List.size_toArray, hl30]; exact sz_board
  have hold : (#[.int .i64 0, .int .i64 0, .int .i64 0, .int .i64 0, .int .i64 0, .int .i64 0, .int .i64 0, .int .i64 0, .int .i64 0, .int .i64 0, .int .i64 0, .int .i64 0, .int .i64 0, .int .i64 0, .int .i64 0, .int .i64 0, .int .i64 0, .int .i64 0, .int .i64 0, .int .i64 0, .int .i64 0, .int .i64 0, .int .i64 0, .int .i64 0, .int .i64 0, .bool false, .slice none 0 0, .int .i64 0, .int .i64 0, .int .i64 0] : Array Value).size = BD.toArray.size := (show 30 = BD.length from hl30.symm)
  go_enter Tryz.func20, Tryz.ntmps20
  go_wp2_with fail
  generalize w.alloc (.cells #[.bool has, .slice ba batch.length bk, .slice va rounds.length vk, .slice da dec.length dk] 28) = W at *
  refine (hbo W (hG.below hB) (hrb W hB)).mono ?_
  rintro e w1 ⟨rfl, hb1⟩
  replace hB := hB.trans (hb1.mono hB.size)
  have Bz := Blk.new w1 96 #[.int .i64 0, .int .i64 0, .int .i64 0, .int .i64 0, .int .i64 0, .int .i64 0, .int .i64 0, .int .i64 0, .int .i64 0, .int .i64 0, .int .i64 0, .int .i64 0, .int .i64 0, .int .i64 0, .int .i64 0, .int .i64 0, .int .i64 0, .int .i64 0, .int .i64 0, .int .i64 0, .int .i64 0, .int .i64 0, .int .i64 0, .int .i64 0, .int .i64 0, .bool false, .slice none 0 0, .int .i64 0, .int .i64 0, .int .i64 0]
  have hB2 := below_row (hB.alloc hB.size (.cells #[.int .i64 0, .int .i64 0, .int .i64 0, .int .i64 0, .int .i64 0, .int .i64 0, .int .i64 0, .int .i64 0, .int .i64 0, .int .i64 0, .int .i64 0, .int .i64 0, .int .i64 0, .int .i64 0, .int .i64 0, .int .i64 0, .int .i64 0, .int .i64 0, .int .i64 0, .int .i64 0, .int .i64 0, .int .i64 0, .int .i64 0, .int .i64 0, .int .i64 0, .bool false, .slice none 0 0, .int .i64 0, .int .i64 0, .int .i64 0] 96)) (g := w1.heap.size) hB.size BD.toArray
  clear hbo hrb hb1
  go_wp2_with (refine st_row (by kernel_rfl) 96 _ _ rfl _ BD.toArray rfl rfl 96 _ Bz hszB hold hone ?_)
  go_ret
  exact ⟨rfl, hB2⟩

/-- What the first one that decided decided, or that none did. -/
def outV : List Int → Int
  | [] => 3
  | x :: r => if x = 3 then outV r else x

theorem outV_at (L : List Int) : ∀ k, (∀ j, j < k → L.getD j 0 = 3) → k < L.length → L.getD k 0 ≠ 3 → outV L = L.getD k 0 := by
  induction L with
  | nil => intro k _ h; simp at h
  | cons x r ih =>
    intro k h0 hk hne
    cases k with
    | zero => simp [List.getD] at hne ⊢; simp [outV, hne]
    | succ k =>
      have hx : x = 3 := by simpa [List.getD] using h0 0 (by omega)
      have := ih k (fun j hj => by simpa [List.getD] using h0 (j + 1) (by omega)) (by simpa using hk) (by simpa [List.getD] using hne)
      simp only [outV, hx, if_true]
      rw [this]
      simp [List.getD]

theorem outV_none (L : List Int) (h : ∀ j, j < L.length → L.getD j 0 = 3) : outV L = 3 := by
  induction L with
  | nil => rfl
  | cons x r ih =>
    have hx : x = 3 := by simpa [List.getD] using h 0 (by simp)
    simp only [outV, hx, if_true]
    exact ih (fun j hj => by simpa [List.getD] using h (j + 1) (by simpa using hj))

/-- OutcomeOf: code and value. -/
def ocC (x : InstE) : Int := if insF x = 0 then (if outV x.dec = 3 then 4 else 0) else insF x

def ocV (x : InstE) : Int := if insF x = 0 then (if outV x.dec = 3 then 0 else outV x.dec) else 0

set_option maxHeartbeats 2000000 in
theorem implOutcome_any (p : InstQ) (w : World) (hG : Rul w) (h : instK.rd w p) (hl : p.n ≤ 1048576) :
    Calls Tryz.prog 157 #[.agg #[.bool p.has, p.vb, p.vr, p.vd]] w fun e w' => e = .returned (.agg #[.int .i64 (ocC p.e), .int .i64 (ocV p.e)]) ∧ Below w.heap.size w w' := by
  obtain ⟨hl30, hone⟩ := bd_ok h
  have hbo := fun w hG h => boardOf_any p w hG h hl
  have hrb := fun (w' : World) hb => instK.rd_below (w' := w') h hb
  change ∀ w hG h, Calls _ _ _ _ fun e w' => e = .returned (.tuple #[.agg (bdOf p).toArray, _]) ∧ _ at hbo
  have HBD : Hid (insF p.e = 0 → bdOf p = brdC p.has p.vb p.e.rounds p.dec ∧ Wel p.e.rounds ∧ p.e.rounds.length ≤ 4 ∧ p.dec.length = 3) := fun h0 => by
    obtain ⟨h1, h2, h3, _⟩ := ins_ok h0
    exact ⟨if_pos h0, h1, h2.2, h3⟩
  obtain ⟨D, hD⟩ : ∃ D, ocC p.e = D := ⟨_, rfl⟩
  obtain ⟨E, hE⟩ : ∃ E, ocV p.e = E := ⟨_, rfl⟩
  have HDE : Hid ((insF p.e = 0 → (D = if outV p.dec = 3 then 4 else 0) ∧ (E = if outV p.dec = 3 then 0 else outV p.dec)) ∧ (insF p.e ≠ 0 → D = insF p.e ∧ E = 0)) := by
    refine ⟨fun h0 => ⟨?_, ?_⟩, fun h0 => ⟨?_, ?_⟩⟩
    · rw [← hD]; exact if_pos h0
    · rw [← hE]; exact if_pos h0
    · rw [← hD]; exact if_neg h0
    · rw [← hE]; exact if_neg h0
  rw [hD, hE]
  clear hD hE
  generalize bdOf p = BD at *
  generalize insF p.e = C at *
  generalize p.e.rounds = rs at *
  obtain ⟨has, vb, batch, vr, rounds, vd, dec⟩ := p
  obtain ⟨ba, bk, rfl⟩ : ∃ a c, vb = .slice a batch.length c := h.1.shape
  obtain ⟨va, vk, rfl⟩ : ∃ a c, vr = .slice a rounds.length c := h.2.1.shape
  obtain ⟨da, dk, rfl⟩ : ∃ a c, vd = .slice a dec.length c := h.2.2.shape
  dsimp only at hbo hrb HBD HDE
  have hB : Below w.heap.size w ((w.alloc (.cells #[.bool has, .slice ba batch.length bk, .slice va rounds.length vk, .slice da dec.length dk] 28)).alloc (.cells #[.int .i64 0, .int .i64 0] 56)) := by go_grown
  have Rb := Blk.new (w.alloc (.cells #[.bool has, .slice ba batch.length bk, .slice va rounds.length vk, .slice da dec.length dk] 28)) 56 #[.int .i64 0, .int .i64 0]
  simp only [World.size_alloc] at Rb
  have hszB : (Tryz.prog.info? 96).map (·.size) = some BD.toArray.size := by rw [List.size_toArray, hl30]; exact sz_board
  have hold : (#[.int .i64 0, .int .i64 0, .int .i64 0, .int .i64 0, .int .i64 0, .int .i64 0, .int .i64 0, .int .i64 0, .int .i64 0, .int .i64 0, .int .i64 0, .int .i64 0, .int .i64 0, .int .i64 0, .int .i64 0, .int .i64 0, .int .i64 0, .int .i64 0, .int .i64 0, .int .i64 0, .int .i64 0, .int .i64 0, .int .i64 0, .int .i64 0, .int .i64 0, .bool false, .slice none 0 0, .int .i64 0, .int .i64 0, .int .i64 0] : Array Value).size = BD.toArray.size := (show 30 = BD.length from hl30.symm)
  go_enter Tryz.func157, Tryz.ntmps157
  go_wp2_with fail
  generalize (w.alloc (.cells #[.bool has, .slice ba batch.length bk, .slice va rounds.length vk, .slice da dec.length dk] 28)).alloc (.cells #[.int .i64 0, .int .i64 0] 56) = W at *
  refine (hbo W (hG.below hB) (hrb W hB)).mono ?_
  rintro e w1 ⟨rfl, hb1⟩
  replace hB := hB.trans (hb1.mono hB.size)
  replace Rb := Rb.below hb1
  have Bz := Blk.new w1 96 #[.int .i64 0, .int .i64 0, .int .i64 0, .int .i64 0, .int .i64 0, .int .i64 0, .int .i64 0, .int .i64 0, .int .i64 0, .int .i64 0, .int .i64 0, .int .i64 0, .int .i64 0, .int .i64 0, .int .i64 0, .int .i64 0, .int .i64 0, .int .i64 0, .int .i64 0, .int .i64 0, .int .i64 0, .int .i64 0, .int .i64 0, .int .i64 0, .int .i64 0, .bool false, .slice none 0 0, .int .i64 0, .int .i64 0, .int .i64 0]
  have hB2 := below_row (hB.alloc hB.size (.cells #[.int .i64 0, .int .i64 0, .int .i64 0, .int .i64 0, .int .i64 0, .int .i64 0, .int .i64 0, .int .i64 0, .int .i64 0, .int .i64 0, .int .i64 0, .int .i64 0, .int .i64 0, .int .i64 0, .int .i64 0, .int .i64 0, .int .i64 0, .int .i64 0, .int .i64 0, .int .i64 0, .int .i64 0, .int .i64 0, .int .i64 0, .int .i64 0, .int .i64 0, .bool false, .slice none 0 0, .int .i64 0, .int .i64 0, .int .i64 0] 96)) (g := w1.heap.size) hB.size BD.toArray
  have Rb2 : Blk ((w1.alloc (.cells #[.int .i64 0, .int .i64 0, .int .i64 0, .int .i64 0, .int .i64 0, .int .i64 0, .int .i64 0, .int .i64 0, .int .i64 0, .int .i64 0, .int .i64 0, .int .i64 0, .int .i64 0, .int .i64 0, .int .i64 0, .int .i64 0, .int .i64 0, .int .i64 0, .int .i64 0, .int .i64 0, .int .i64 0, .int .i64 0, .int .i64 0, .int .i64 0, .int .i64 0, .bool false, .slice none 0 0, .int .i64 0, .int .i64 0, .int .i64 0] 96)).setRow w1.heap.size BD.toArray) (w.heap.size + 1) 56 #[.int .i64 0, .int .i64 0] := (setRow_other _ _ _ _ (by have := Rb.lt; omega)).trans (Rb.below ((Below.refl _ _).alloc (Nat.le_refl _) _))
  have B2 := Bz.row BD.toArray
  clear hbo hrb hb1 Rb
  by_cases h0 : C = 0
  · obtain ⟨hBD, hwel, h4, hd3⟩ := HBD.out h0
    have HD : Hid (D = if outV dec = 3 then 4 else 0) := (HDE.out.1 h0).1
    have HV : Hid (E = if outV dec = 3 then 0 else outV dec) := (HDE.out.1 h0).2
    subst h0
    have hrg := rng B2 (dec.map iv) (o := 27) (fun j v hv => by
      obtain ⟨hj, rfl⟩ := row_get hd3 hv
      rw [List.getElem?_toArray, hBD]
      exact brd_dec hwel h4 hd3 j hj)
    have hszD : (Tryz.prog.info? 89).map (·.size) = some (dec.map iv).length := by rw [List.length_map, hd3]; exact sz_row
    clear HBD HDE hBD
    go_wp2_with (first | (refine st_row (by kernel_rfl) 96 _ _ rfl _ BD.toArray rfl rfl 96 _ Bz hszB hold hone ?_) | (refine ld_g (by kernel_rfl) 89 _ rfl _ _ rfl (dec.map iv) _ hrg Tryz.underlying89 rfl hszD ?_))
    clear hrg Bz
    generalize (w1.alloc (.cells #[.int .i64 0, .int .i64 0, .int .i64 0, .int .i64 0, .int .i64 0, .int .i64 0, .int .i64 0, .int .i64 0, .int .i64 0, .int .i64 0, .int .i64 0, .int .i64 0, .int .i64 0, .int .i64 0, .int .i64 0, .int .i64 0, .int .i64 0, .int .i64 0, .int .i64 0, .int .i64 0, .int .i64 0, .int .i64 0, .int .i64 0, .int .i64 0, .int .i64 0, .bool false, .slice none 0 0, .int .i64 0, .int .i64 0, .int .i64 0] 96)).setRow w1.heap.size BD.toArray = X at *
    go_loopw [18] (fun j wr => ∃ m : Nat, m ≤ 3 ∧ j = .int .i64 m ∧ Hid (∀ j, j < m → dec.getD j 0 = 3) ∧ wr = X) (fun j _ => 3 - (intOf j).toNat)
    case atStart => exact ⟨0, Nat.zero_le _, rfl, fun j hj => absurd hj (Nat.not_lt_zero _), rfl⟩
    case round =>
      obtain ⟨m, hm, rfl, HA, rfl⟩ := hrel
      have q0 := Rb2.cell 0 _ rfl
      have q1 := Rb2.cell 1 _ rfl
      have f0 := Rb2.frozen 0
      have f1 := Rb2.frozen 1
      by_cases hm3 : m < 3
      · have hm3' : (m : Int) < 3 := by omega
        have hix := fun w => idx_any hd3 m hm3 w
        have HY : Hid (dec.getD m 0 ≠ 3 → outV dec = dec.getD m 0) := fun hx => outV_at dec m HA.out (by omega) hx
        have HN : Hid (dec.getD m 0 = 3 → ∀ j, j < m + 1 → dec.getD j 0 = 3) := fun hx j hj => by
          by_cases hjm : j = m
          · subst hjm; exact hx
          · exact HA.out j (by omega)
        clear HA
        generalize dec.getD m 0 = v at *
        by_cases hv : v = 3
        · have hv' : (v != 3) = false := by simp [hv]
          have R := HN.out hv
          have HR : Hid _ := R
          clear HY HN R hv
          go_wp2
          go_roundw
          case rel => exact ⟨m + 1, by omega, by go_num, HR.out, by first | rfl | trivial⟩
          case measure => simp [intOf]; omega
        · have hv' : (v != 3) = true := by simpa using hv
          have hov := HY.out hv
          have E1 : Hid (D = 0 ∧ E = v) := by
            refine ⟨?_, ?_⟩
            · rw [HD.out, hov, if_neg hv]
            · rw [HV.out, hov, if_neg hv]
          clear HY HN HD HV hov hv
          go_wp2
          exact bodyPost_ret (v := .agg #[.int .i64 0, .int .i64 v]) (by simp [results, Tryz.results157, go_sem, q0, q1]) rfl ⟨by rw [E1.out.1, E1.out.2], (hB2.setCell (p := ⟨w.heap.size + 1, 0, none⟩) (by show w.heap.size ≤ w.heap.size + 1; omega) _).setCell (p := ⟨w.heap.size + 1, 1, none⟩) (by show w.heap.size ≤ w.heap.size + 1; omega) _⟩
      · have hme : m = 3 := by omega
        subst hme
        have hov := outV_none dec (by rw [hd3]; exact HA.out)
        have E1 : Hid (D = 4 ∧ E = 0) := by
          refine ⟨?_, ?_⟩
          · rw [HD.out, hov, if_pos rfl]
          · rw [HV.out, hov, if_pos rfl]
        clear HA HD HV hov
        go_wp2
        exact bodyPost_ret (v := .agg #[.int .i64 4, .int .i64 0]) (by simp [results, Tryz.results157, go_sem, q0, q1]) rfl ⟨by rw [E1.out.1, E1.out.2], (hB2.setCell (p := ⟨w.heap.size + 1, 0, none⟩) (by show w.heap.size ≤ w.heap.size + 1; omega) _).setCell (p := ⟨w.heap.size + 1, 1, none⟩) (by show w.heap.size ≤ w.heap.size + 1; omega) _⟩
  · have E1 : Hid (D = C ∧ E = 0) := HDE.out.2 h0
    have h0' : (C != 0) = true := by simpa using h0
    have q0 := Rb2.cell 0 _ rfl
    have q1 := Rb2.cell 1 _ rfl
    have f0 := Rb2.frozen 0
    have f1 := Rb2.frozen 1
    clear HDE HBD h0 B2 Rb2
    generalize hX : (w1.alloc (.cells #[.int .i64 0, .int .i64 0, .int .i64 0, .int .i64 0, .int .i64 0, .int .i64 0, .int .i64 0, .int .i64 0, .int .i64 0, .int .i64 0, .int .i64 0, .int .i64 0, .int .i64 0, .int .i64 0, .int .i64 0, .int .i64 0, .int .i64 0, .int .i64 0, .int .i64 0, .int .i64 0, .int .i64 0, .int .i64 0, .int .i64 0, .int .i64 0, .int .i64 0, .bool false, .slice none 0 0, .int .i64 0, .int .i64 0, .int .i64 0] 96)).setRow w1.heap.size BD.toArray = X at q0 q1 f0 f1 hB2
    go_wp2_with (refine st_row (by kernel_rfl) 96 _ _ rfl _ BD.toArray rfl rfl 96 _ Bz hszB hold hone ?_)
    exact bodyPost_ret (v := .agg #[.int .i64 C, .int .i64 0]) (by simp [results, Tryz.results157, go_sem, q0, q1]) rfl ⟨by rw [E1.out.1, E1.out.2], (hB2.setCell (p := ⟨w.heap.size + 1, 0, none⟩) (by show w.heap.size ≤ w.heap.size + 1; omega) _).setCell (p := ⟨w.heap.size + 1, 1, none⟩) (by show w.heap.size ≤ w.heap.size + 1; omega) _⟩

set_option maxHeartbeats 2000000 in
theorem l6Outcome_any (b o : Nat) (p : InstQ) (w : World) (hP : InstP w b o p) (hl : p.n ≤ 1048576) :
    Calls Tryz.prog 153 #[.pointer (some ⟨b, o, none⟩)] w fun e w' => e = .returned (.int .i64 (outV p.dec)) ∧ w' = w := by
  obtain ⟨has, vb, batch, vr, rounds, vd, dec⟩ := p
  have hD : intK.At w vd dec := hP.dec
  obtain ⟨da, dk, rfl⟩ := hD.shape
  have hRow := (intK_at hD).2
  obtain ⟨c0, c1, c2, c3⟩ := hP.box
  dsimp only [InstQ.n] at c0 c1 c2 c3 hl ⊢
  generalize hE : outV dec = E
  have HE : Hid (outV dec = E) := hE
  clear hE
  go_enter Tryz.func153, Tryz.ntmps153
  go_wp2
  go_loop [3] (fun j => ∃ k : Nat, k ≤ dec.length ∧ j = .int .i64 k ∧ Hid (∀ j, j < k → dec.getD j 0 = 3)) (fun j => dec.length - (intOf j).toNat)
  case atStart => exact ⟨0, Nat.zero_le _, rfl, fun j hj => absurd hj (Nat.not_lt_zero _)⟩
  case round =>
    obtain ⟨k, hk, rfl, HA⟩ := hrel
    by_cases hlt : k < dec.length
    · obtain ⟨bb, off, rfl, hbs, hc⟩ := hRow k hlt
      have HY : Hid (dec.getD k 0 ≠ 3 → E = dec.getD k 0) := fun hx => by rw [← HE.out]; exact outV_at dec k HA.out hlt hx
      have HN : Hid (dec.getD k 0 = 3 → ∀ j, j < k + 1 → dec.getD j 0 = 3) := fun hx j hj => by
        by_cases hjm : j = k
        · subst hjm; exact hx
        · exact HA.out j (by omega)
      clear HA
      generalize dec.getD k 0 = v at *
      by_cases hv : v = 3
      · have hv' : (v != 3) = false := by simp [hv]
        have R := HN.out hv
        have HR : Hid _ := R
        clear HY HN R hv
        go_wp2
        go_round
        case rel => exact ⟨k + 1, by omega, by go_num, HR.out⟩
        case measure => simp [intOf]; omega
      · have hv' : (v != 3) = true := by simpa using hv
        have E1 : Hid (E = v) := HY.out hv
        clear HY HN hv
        go_wp2
        go_ret
        exact ⟨by rw [E1.out]; rfl, rfl⟩
    · have hkl : k = dec.length := by omega
      subst hkl
      have E1 : Hid (E = 3) := by rw [← HE.out]; exact outV_none dec HA.out
      clear HA HE
      go_wp2
      go_ret
      exact ⟨by rw [E1.out]; rfl, rfl⟩

end Go.Proofs.YtmgkjcobdmdjmaaGreatDoor
namespace Go.Proofs.YtmgkjcobdmdjmaaGreatDoor
open Go.RowKit
set_option linter.unusedVariables false
set_option maxRecDepth 100000
set_option linter.unusedSimpArgs false
def instNo : InstE := ⟨false, [], [], []⟩

/-- The fault of the instances, one by one. -/
def ordGo : List InstE → Int
  | [] => 0
  | x :: r => if insF x = 0 then (if 0 < r.length ∧ outV x.dec = 3 then 8 else ordGo r) else insF x

/-- The fault of an order. -/
def ordF (ds : List InstE) : Int := if ds.length < 1 ∨ 4 < ds.length then 2 else ordGo ds

def lastE (ds : List InstE) : InstE := ds.getD (ds.length - 1) instNo

theorem drop_at (ds : List InstE) (k : Nat) (hk : k < ds.length) : ds.drop k = ds.getD k instNo :: ds.drop (k + 1) := by
  rw [List.drop_eq_getElem_cons hk]
  simp [List.getD, hk]

theorem ordGo_bad (ds : List InstE) (k : Nat) (hk : k < ds.length) (h : insF (ds.getD k instNo) ≠ 0) : ordGo (ds.drop k) = insF (ds.getD k instNo) := by
  rw [drop_at ds k hk, ordGo, if_neg h]

theorem ordGo_open (ds : List InstE) (k : Nat) (hk : k + 1 < ds.length) (h : insF (ds.getD k instNo) = 0) (h3 : outV (ds.getD k instNo).dec = 3) : ordGo (ds.drop k) = 8 := by
  rw [drop_at ds k (by omega), ordGo, if_pos h, if_pos ⟨by simp; omega, h3⟩]

theorem ordGo_next (ds : List InstE) (k : Nat) (hk : k < ds.length) (h : insF (ds.getD k instNo) = 0) (h3 : ¬ (k + 1 < ds.length ∧ outV (ds.getD k instNo).dec = 3)) : ordGo (ds.drop k) = ordGo (ds.drop (k + 1)) := by
  rw [drop_at ds k hk, ordGo, if_pos h, if_neg]
  rintro ⟨h1, h2⟩
  exact h3 ⟨by simp at h1; omega, h2⟩

theorem ordGo_end (ds : List InstE) (k : Nat) (hk : ds.length ≤ k) : ordGo (ds.drop k) = 0 := by
  rw [List.drop_of_length_le hk]
  rfl

theorem ordGo_iff : ∀ (ds : List InstE), ordGo ds = 0 ↔ ∀ k, k < ds.length → insF (ds.getD k instNo) = 0 ∧ (k + 1 < ds.length → outV (ds.getD k instNo).dec ≠ 3)
  | [] => by simp [ordGo]
  | x :: r => by
    rw [ordGo]
    constructor
    · intro h k hk
      by_cases h0 : insF x = 0
      · rw [if_pos h0] at h
        by_cases h1 : 0 < r.length ∧ outV x.dec = 3
        · rw [if_pos h1] at h
          exact absurd h (by decide)
        · rw [if_neg h1] at h
          cases k with
          | zero => exact ⟨h0, fun hl h3 => h1 ⟨by simpa using hl, h3⟩⟩
          | succ k =>
            have := (ordGo_iff r).1 h k (by simpa using hk)
            simp only [List.getD_cons_succ, List.length_cons]
            exact ⟨this.1, fun hl => this.2 (by omega)⟩
      · rw [if_neg h0] at h
        exact absurd h h0
    · intro h
      have h0 := h 0 (by simp)
      have e0 : insF x = 0 := h0.1
      rw [if_pos e0, if_neg (fun e => h0.2 (by simpa using e.1) e.2)]
      refine (ordGo_iff r).2 (fun k hk => ?_)
      have := h (k + 1) (by simpa using hk)
      simp only [List.getD_cons_succ, List.length_cons] at this
      exact ⟨this.1, fun hl => this.2 (by omega)⟩

theorem ord_iff (ds : List InstE) : ordF ds = 0 ↔ (1 ≤ ds.length ∧ ds.length ≤ 4) ∧ ∀ k, k < ds.length → insF (ds.getD k instNo) = 0 ∧ (k + 1 < ds.length → outV (ds.getD k instNo).dec ≠ 3) := by
  unfold ordF
  by_cases h : ds.length < 1 ∨ 4 < ds.length
  · rw [if_pos h]
    constructor
    · intro h; exact absurd h (by decide)
    · rintro ⟨h1, _⟩; omega
  · rw [if_neg h, ordGo_iff]
    constructor
    · intro h2; exact ⟨by omega, h2⟩
    · rintro ⟨_, h2⟩; exact h2

theorem ord_mem {ds : List InstE} (h : ordF ds = 0) : ∀ x ∈ ds, insF x = 0 := by
  intro x hx
  obtain ⟨k, hk, rfl⟩ := List.getElem_of_mem hx
  have := (((ord_iff ds).1 h).2 k hk).1
  simpa [List.getD, hk] using this

/-- One row of votes has all that another one has. -/
def kps (was now : List Int) : Bool := (List.range was.length).all (fun i => (was.getD i 0 == 3) || (now.getD i 0 == was.getD i 0))

end Go.Proofs.YtmgkjcobdmdjmaaGreatDoor
namespace Go.Proofs.YtmgkjcobdmdjmaaGreatDoor
open Go.RowKit
open Go.BigFrame
set_option linter.unusedVariables false
set_option maxRecDepth 100000
set_option linter.unusedSimpArgs false
theorem infoInstance : (Tryz.prog.info? 28).map (fun i => (i.zero, i.size, i.bytes)) = some (some (.agg #[.bool false, .slice none 0 0, .slice none 0 0, .slice none 0 0]), 4, 80) := by kernel_rfl

set_option maxHeartbeats 1000000 in
theorem szInstances_k (v : Value) (ps : List InstQ) (c : Int) (w : World) (h : instK.At w v ps) (hn : ps.length ≤ 9223372036854775807) (hn1 : ∀ p ∈ ps, InstQ.wf p) (h0 : 0 ≤ c) (h1 : c ≤ 1048576) :
    Calls Tryz.prog 35 #[v, .int .i64 c] w fun e w' => ∃ r : Int, e = .returned (.int .i64 r) ∧ (¬ r < 0 → ((ps.length + nmL InstQ.n ps : Nat) : Int) + r = c) ∧ Below w.heap.size w w' := by
  obtain ⟨a, cap, rfl⟩ := h.shape
  by_cases hbig : c - ps.length < 0
  · go_enter Tryz.func35, Tryz.ntmps35
    go_wp2
    go_ret
    exact ⟨_, rfl, fun h => by omega, Below.refl _ _⟩
  · go_enter Tryz.func35, Tryz.ntmps35
    go_wp2
    go_loopw [1, 5] (fun l i wr => ∃ (k : Nat) (x : Int), k ≤ ps.length ∧ i = .int .i64 k ∧ l = .int .i64 x ∧ 0 ≤ x ∧ x ≤ 1048576 ∧ Hid (ps.length + nmL InstQ.n (ps.take k) + x = c) ∧ Below w.heap.size w wr) (fun _ i _ => ps.length - (intOf i).toNat)
    case atStart => exact ⟨0, c - ps.length, Nat.zero_le _, rfl, by go_num, by omega, by omega, show _ = _ by simp [nmL]; omega, Below.refl _ _⟩
    case round =>
      obtain ⟨k, x, hk, rfl, rfl, hx0, hx1, HS, hb⟩ := hrel
      by_cases hlt : k < ps.length
      · obtain ⟨b, off, rfl, hbs, hc, hrd⟩ := (h.below hb).cell (by decide) k hlt
        have hc' : ∀ j x, (instK.cells ps[k])[j]? = some x → wr.cell? ⟨b, off + k * 4 + j, none⟩ = some x := hc
        have c0 := hc' 0 (.bool ps[k].has) rfl
        have c1 := hc' 1 (ps[k].vb) rfl
        have c2 := hc' 2 (ps[k].vr) rfl
        have c3 := hc' 3 (ps[k].vd) rfl
        have hs := nmL_succ InstQ.n ps k hlt
        have HN := hn1 _ (List.getElem_mem hlt)
        have HS' : Hid (∀ y : Int, (InstQ.n ps[k] : Int) + y = x → ps.length + nmL InstQ.n (ps.take (k + 1)) + y = c) := by
          intro y hy
          have := HS.out
          omega
        clear HS hs hc hc'
        generalize ps[k] = p at *
        have hsz := szInstance_k p x wr hrd HN hx0 hx1
        generalize InstQ.n p = m at *
        rw [Nat.add_zero] at c0
        go_wp2_with fail
        refine hsz.mono ?_
        rintro e w2 ⟨r, rfl, hr, hb2⟩
        replace hb := hb.trans (hb2.mono hb.size)
        clear hb2 hsz c0 c1 c2 c3
        by_cases hneg : r < 0
        · go_wp2
          go_ret
          exact ⟨_, rfl, fun h => by omega, hb⟩
        · have hrx := hr (by omega)
          have HR : Hid (ps.length + nmL InstQ.n (ps.take (k + 1)) + r = c) := HS'.out r hrx
          have hr1 : r ≤ 1048576 := by omega
          clear HS' hr hrx
          go_wp2
          go_roundw
          case rel => exact ⟨k + 1, r, by omega, by go_num, rfl, by omega, hr1, HR.out, hb⟩
          case measure => simp [intOf]; omega
      · have hkl : k = ps.length := by omega
        subst hkl
        rw [List.take_length] at HS
        go_wp2
        go_ret
        exact ⟨_, rfl, fun _ => by have := HS.out; omega, hb⟩

set_option maxHeartbeats 2000000 in
theorem eqInstances_k (v v' : Value) (ps qs : List InstQ) (w : World) (h : instK.At w v ps) (h' : instK.At w v' qs) (he : ps.map InstQ.e = qs.map InstQ.e) (hl : (ps.length + nmL InstQ.n ps) ≤ 1048576) :
    Calls Tryz.prog 38 #[v, v'] w fun e w' => e = .returned (.bool true) ∧ Below w.heap.size w w' := by
  obtain ⟨a, cap, rfl⟩ := h.shape
  obtain ⟨a', cap', rfl⟩ := h'.shape
  have hlen : qs.length = ps.length := by
    have := congrArg List.length he
    simpa using this.symm
  rw [hlen] at h' ⊢
  have HL : Hid (qs.length = ps.length) := hlen
  clear hlen
  go_enter Tryz.func38, Tryz.ntmps38
  go_wp2
  go_loopw [5] (fun i wr => ∃ k : Nat, k ≤ ps.length ∧ i = .int .i64 k ∧ Below w.heap.size w wr) (fun i _ => ps.length - (intOf i).toNat)
  case atStart => exact ⟨0, Nat.zero_le _, rfl, Below.refl _ _⟩
  case round =>
    obtain ⟨k, hk, rfl, hb⟩ := hrel
    by_cases hlt : k < ps.length
    · have hlt' : k < qs.length := by have := HL.out; omega
      obtain ⟨b, off, rfl, hbs, hc, hrd⟩ := (h.below hb).cell (by decide) k hlt
      obtain ⟨b', off', rfl, hbs', hd, hrd'⟩ := (h'.below hb).cell (by decide) k hlt'
      have hc' : ∀ j x, (instK.cells ps[k])[j]? = some x → wr.cell? ⟨b, off + k * 4 + j, none⟩ = some x := hc
      have hd' : ∀ j x, (instK.cells qs[k])[j]? = some x → wr.cell? ⟨b', off' + k * 4 + j, none⟩ = some x := hd
      have c0 := hc' 0 (.bool ps[k].has) rfl
      have d0 := hd' 0 (.bool qs[k].has) rfl
      have c1 := hc' 1 (ps[k].vb) rfl
      have d1 := hd' 1 (qs[k].vb) rfl
      have c2 := hc' 2 (ps[k].vr) rfl
      have d2 := hd' 2 (qs[k].vr) rfl
      have c3 := hc' 3 (ps[k].vd) rfl
      have d3 := hd' 3 (qs[k].vd) rfl
      have hee : InstQ.e ps[k] = InstQ.e qs[k] := by
        have := congrArg (·[k]?) he
        simpa [hlt, hlt'] using this
      have hzl := nm_le InstQ.n ps k hlt
      clear hc hc' hd hd'
      generalize ps[k] = p at *
      generalize qs[k] = p' at *
      have hEQ := fun w h1 h2 => eqInstance_k p p' w h1 h2 hee (show InstQ.n p ≤ 1048576 by omega)
      clear hee hzl
      rw [Nat.add_zero] at c0 d0
      have k0 := lat_cell c0
      have l0 := lat_cell d0
      have k1 := lat_cell c1
      have l1 := lat_cell d1
      have k2 := lat_cell c2
      have l2 := lat_cell d2
      have k3 := lat_cell c3
      have l3 := lat_cell d3
      clear c0 d0 c1 d1 c2 d2 c3 d3
      have hW : Below wr.heap.size wr wr.drew := (Below.refl _ _).drew
      have hne : Nonempty (Lat wr) := ⟨⟨wr, Below.refl _ _⟩⟩
      go_wp2_with fail
      refine text_begin (S := fun w' => ∃ u : Lat wr, w' = u.val) (by kernel_rfl) ?_
      refine seg_range [(0, 8)] 2 (by kernel_rfl) (by kernel_rfl) (by kernel_rfl) (by kernel_rfl) (by kernel_rfl) ⟨⟨_, hW⟩, rfl⟩ ?_
      simp only [pickR, List.toList_toArray, List.flatMap_cons, List.flatMap_nil, List.drop_succ_cons, List.drop_zero, List.take_succ_cons, List.take_zero, List.cons_append, List.nil_append, List.append_nil]
      repeat go_big_quiet_step (fail)
      refine wpQuiet_nil ?_
      refine call_at 8 (some 25) 53 #[.agg #[.bool p.has, p.vb, p.vr, p.vd], .agg #[.bool p'.has, p'.vb, p'.vr, p'.vd]] 1 (by kernel_rfl) (by kernel_rfl) (by kernel_rfl) (by kernel_rfl) (by kernel_rfl) ?_
      refine (hEQ _ (instK.rd_below hrd hW) (instK.rd_below hrd' hW)).mono ?_
      rintro e w2 ⟨rfl, hb2⟩
      replace hW := hW.trans (hb2.mono hW.size)
      clear hb2
      refine ⟨_, rfl, ⟨⟨_, hW⟩, rfl⟩, ?_⟩
      simp only [Act.put, List.setIfInBounds_toArray, List.set_cons_zero, List.set_cons_succ]
      refine seg_range [(9, 1)] 0 (by kernel_rfl) (by kernel_rfl) (by kernel_rfl) (by kernel_rfl) (by kernel_rfl) ⟨⟨_, hW⟩, rfl⟩ ?_
      simp only [pickR, List.toList_toArray, List.flatMap_cons, List.flatMap_nil, List.drop_succ_cons, List.drop_zero, List.take_succ_cons, List.take_zero, List.cons_append, List.nil_append, List.append_nil]
      repeat go_big_quiet_step (fail)
      refine wpQuiet_nil ?_
      refine text_end (by kernel_rfl) ?_
      replace hb := hb.trans (hW.mono hb.size)
      clear k0 l0 k1 l1 k2 l2 k3 l3 hW hne hrd hrd' hEQ
      go_wp2
      go_roundw
      case rel => exact ⟨k + 1, by omega, by go_num, hb⟩
      case measure => simp [intOf]; omega
    · go_wp2
      go_ret
      exact ⟨rfl, hb⟩

set_option maxHeartbeats 2000000 in
theorem toInstances_k (v : Value) (ps : List InstQ) (w : World) (h : instK.At w v ps) (hl : (ps.length + nmL InstQ.n ps) ≤ 1048576) :
    Calls Tryz.prog 37 #[v] w fun e w' => ∃ v' qs, e = .returned v' ∧ qs.map InstQ.e = ps.map InstQ.e ∧ instK.Own w' v' qs ∧ (instK.fp v' qs).Nodup ∧ (∀ k ∈ instK.fp v' qs, w.heap.size ≤ k) ∧ Below w.heap.size w w' := by
  obtain ⟨a, cap, rfl⟩ := h.shape
  obtain ⟨i0, hi, hz0, hz1, hz2⟩ := info_parts infoInstance
  have hbytes : i0.bytes * ps.length ≤ 281474976710656 := by rw [hz2]; omega
  have hmax : ps.length ≤ maxLen := by unfold maxLen; omega
  go_enter Tryz.func37, Tryz.ntmps37
  go_wp2_with (at_make; refine wpList_make_full _ rfl _ _ 49 rfl w.heap.size 28 i0 (.agg #[.bool false, .slice none 0 0, .slice none 0 0, .slice none 0 0]) 4 Tryz.underlying49 hi hz0 hz1 _ _ _ _ ps.length rfl rfl rfl rfl hbytes hmax (Nat.le_refl _) ?_)
  intro w1 hown hgrow
  have hb1 : Below w.heap.size w w1 := (Below.refl _ _).grown hgrow (Nat.le_refl _) (by simp)
  have hO : instK.Own w1 (.slice (some ⟨w.heap.size, 0, none⟩) ps.length ps.length) (List.replicate ps.length (⟨false, .slice none 0 0, [], .slice none 0 0, [], .slice none 0 0, []⟩ : InstQ)) := by
    refine ⟨?_, fun p hp => ?_⟩
    · rw [List.length_replicate, ← made_row (⟨false, .slice none 0 0, [], .slice none 0 0, [], .slice none 0 0, []⟩ : InstQ) _ (by decide)]
      exact own_base hown (Nat.zero_le _)
    · rw [(List.mem_replicate.1 hp).2]
      exact ⟨⟨World.ownsRow_nil _ _ _ _, fun p hp => by simp at hp⟩, ⟨World.ownsRow_nil _ _ _ _, fun p hp => by simp at hp⟩, ⟨World.ownsRow_nil _ _ _ _, fun p hp => by simp at hp⟩⟩
  have hF : instK.fp (.slice (some ⟨w.heap.size, 0, none⟩) ps.length ps.length) (List.replicate ps.length (⟨false, .slice none 0 0, [], .slice none 0 0, [], .slice none 0 0, []⟩ : InstQ)) = [w.heap.size] := fp_new rfl
  have HN : Hid ((instK.fp (.slice (some ⟨w.heap.size, 0, none⟩) ps.length ps.length) (List.replicate ps.length (⟨false, .slice none 0 0, [], .slice none 0 0, [], .slice none 0 0, []⟩ : InstQ))).Nodup) := by rw [hF]; show List.Nodup _; simp
  have HG : Hid (∀ x ∈ instK.fp (.slice (some ⟨w.heap.size, 0, none⟩) ps.length ps.length) (List.replicate ps.length (⟨false, .slice none 0 0, [], .slice none 0 0, [], .slice none 0 0, []⟩ : InstQ)), w.heap.size ≤ x) := by rw [hF]; intro x hx; simp at hx; omega
  have HZ : Hid (∀ j (hj : j < (List.replicate ps.length (⟨false, .slice none 0 0, [], .slice none 0 0, [], .slice none 0 0, []⟩ : InstQ)).length), 0 ≤ j → (List.replicate ps.length (⟨false, .slice none 0 0, [], .slice none 0 0, [], .slice none 0 0, []⟩ : InstQ))[j] = (⟨false, .slice none 0 0, [], .slice none 0 0, [], .slice none 0 0, []⟩ : InstQ)) := fun j hj _ => by simp
  have hql : (List.replicate ps.length (⟨false, .slice none 0 0, [], .slice none 0 0, [], .slice none 0 0, []⟩ : InstQ)).length = ps.length := by simp
  clear hown hgrow hF
  generalize List.replicate ps.length (⟨false, .slice none 0 0, [], .slice none 0 0, [], .slice none 0 0, []⟩ : InstQ) = qs0 at *
  have HE : Hid ((qs0.take 0).map InstQ.e = (ps.take 0).map InstQ.e) := show _ = _ by simp
  go_wp2
  go_loopw [4] (fun i wr => ∃ (k : Nat) (qs : List InstQ), k ≤ ps.length ∧ i = .int .i64 k ∧ Hid (qs.length = ps.length) ∧ Hid ((qs.take k).map InstQ.e = (ps.take k).map InstQ.e) ∧ Hid (∀ j (hj : j < qs.length), k ≤ j → qs[j] = (⟨false, .slice none 0 0, [], .slice none 0 0, [], .slice none 0 0, []⟩ : InstQ)) ∧ instK.Own wr (.slice (some ⟨w.heap.size, 0, none⟩) ps.length ps.length) qs ∧
    Hid ((instK.fp (.slice (some ⟨w.heap.size, 0, none⟩) ps.length ps.length) qs).Nodup) ∧ Hid (∀ x ∈ instK.fp (.slice (some ⟨w.heap.size, 0, none⟩) ps.length ps.length) qs, w.heap.size ≤ x) ∧ Below w.heap.size w wr) (fun i _ => ps.length - (intOf i).toNat)
  case atStart => exact ⟨0, qs0, Nat.zero_le _, rfl, hql, HE, HZ, hO, HN, HG, hb1⟩
  case round =>
    clear HE HZ hO HN HG hb1 hql
    obtain ⟨k, qs, hk, rfl, HQ, HE, HZ, hO, HN, HG, hb⟩ := hrel
    by_cases hlt : k < ps.length
    · have hltq : k < qs.length := by have := HQ.out; omega
      have hzk := HZ.out k hltq (Nat.le_refl _)
      obtain ⟨b, off, rfl, hbs, hc, hrd⟩ := (h.below hb).cell (by decide) k hlt
      have hc' : ∀ j x, (instK.cells ps[k])[j]? = some x → wr.cell? ⟨b, off + k * 4 + j, none⟩ = some x := hc
      have c0 := hc' 0 (.bool ps[k].has) rfl
      have c1 := hc' 1 (ps[k].vb) rfl
      have c2 := hc' 2 (ps[k].vr) rfl
      have c3 := hc' 3 (ps[k].vd) rfl
      have hzl := nm_le InstQ.n ps k hlt
      have HPE : Hid (∀ p' : InstQ, p'.e = InstQ.e ps[k] → ((qs.set k p').take (k + 1)).map InstQ.e = (ps.take (k + 1)).map InstQ.e) := by
        intro p' hp'
        have h1 := HE.out
        rw [List.take_succ_eq_append_getElem hlt, List.take_succ_eq_append_getElem (show k < (qs.set k p').length by simpa using hltq)]
        simp only [List.map_append, List.map_cons, List.map_nil, List.getElem_set_self, hp', List.take_set_of_le (Nat.le_refl k), h1]
      clear hc hc'
      generalize ps[k] = p at *
      have hto := toInstance_k p wr hrd (by omega)
      rw [Nat.add_zero] at c0
      go_wp2_with fail
      refine hto.mono ?_
      rintro e w2 ⟨p', rfl, hpe, hown', hnd', hlo', hb2⟩
      obtain ⟨x0, x1, y1, x2, y2, x3, y3⟩ := p'
      obtain ⟨o1, o2, o3⟩ : txnK.Own w2 x1 y1 ∧ roundK.Own w2 x2 y2 ∧ intK.Own w2 x3 y3 := And.intro hown'.1 hown'.2
      obtain ⟨a1, b1, rfl⟩ := o1.shape
      obtain ⟨a2, b2, rfl⟩ := o2.shape
      obtain ⟨a3, b3, rfl⟩ := o3.shape
      clear o1 o2 o3
      dsimp only
      generalize hP : (⟨x0, .slice a1 y1.length b1, y1, .slice a2 y2.length b2, y2, .slice a3 y3.length b3, y3⟩ : InstQ) = p' at hpe hown' hnd' hlo'
      have hcp : instK.cells p' = [.bool x0, .slice a1 y1.length b1, .slice a2 y2.length b2, .slice a3 y3.length b3] := by rw [← hP]; rfl
      have hO2 := hO.below hb2
      obtain ⟨e0, f0⟩ := hO2.cell k hltq 0 _ (by rw [hzk]; rfl)
      obtain ⟨e1, f1⟩ := hO2.cell k hltq 1 _ (by rw [hzk]; rfl)
      obtain ⟨e2, f2⟩ := hO2.cell k hltq 2 _ (by rw [hzk]; rfl)
      obtain ⟨e3, f3⟩ := hO2.cell k hltq 3 _ (by rw [hzk]; rfl)
      have hkk : ∀ j, k * instK.size + j = k * 4 + j := fun j => rfl
      rw [hkk] at e0 f0 e1 f1 e2 f2 e3 f3
      rw [Nat.add_zero] at e0 f0
      have hrow0 := hO2.1
      have hQ := HQ.out
      rw [hQ] at hrow0
      have hrow := own_setFrom hrow0 (k * 4) [.bool x0, .slice a1 y1.length b1, .slice a2 y2.length b2, .slice a3 y3.length b3]
      rw [← hcp] at hrow
      have hfp : ∀ x ∈ instK.fp (.slice (some ⟨w.heap.size, 0, none⟩) ps.length ps.length) qs, x < wr.heap.size := hO.lt
      have hg0 : w.heap.size ∈ instK.fp (.slice (some ⟨w.heap.size, 0, none⟩) ps.length ps.length) qs := by simp [Kind.fp, blk, Value.ownBlock]
      have hgl : w.heap.size < wr.heap.size := hfp _ hg0
      have hNq := HN.out
      have hdis : ∀ x ∈ instK.foot p', x ∉ instK.fp (.slice (some ⟨w.heap.size, 0, none⟩) ps.length ps.length) qs := fun x hx hxx => by have := hlo' x hx; have := hfp x hxx; omega
      have hput : instK.Own ((((w2.setCell ⟨w.heap.size, k * 4, none⟩ (.bool x0)).setCell ⟨w.heap.size, k * 4 + 1, none⟩ (.slice a1 y1.length b1)).setCell ⟨w.heap.size, k * 4 + 2, none⟩ (.slice a2 y2.length b2)).setCell ⟨w.heap.size, k * 4 + 3, none⟩ (.slice a3 y3.length b3)) (.slice (some ⟨w.heap.size, 0, none⟩) ps.length ps.length) (qs.set k p') := by
        refine Kind.Own.put hO2 k hltq p' ?_ ((((Out.setCell _ _ _ _).trans (Out.setCell _ _ _ _)).trans (Out.setCell _ _ _ _)).trans (Out.setCell _ _ _ _)) ?_ hown' ?_
        · rw [hQ]
          rw [hcp] at hrow ⊢
          exact hrow
        · intro q hq x hx hxe
          simp only [Kind.fp, blk, Value.ownBlock, Option.toList, List.cons_append, List.nil_append, List.nodup_cons] at hNq
          exact hNq.1 (List.mem_flatMap.2 ⟨q, hq, hxe ▸ hx⟩)
        · intro x hx hxe
          have := hlo' x hx
          omega
      have R : Hid (instK.Own ((((w2.setCell ⟨w.heap.size, k * 4, none⟩ (.bool x0)).setCell ⟨w.heap.size, k * 4 + 1, none⟩ (.slice a1 y1.length b1)).setCell ⟨w.heap.size, k * 4 + 2, none⟩ (.slice a2 y2.length b2)).setCell ⟨w.heap.size, k * 4 + 3, none⟩ (.slice a3 y3.length b3)) (.slice (some ⟨w.heap.size, 0, none⟩) ps.length ps.length) (qs.set k p') ∧ Below w.heap.size w ((((w2.setCell ⟨w.heap.size, k * 4, none⟩ (.bool x0)).setCell ⟨w.heap.size, k * 4 + 1, none⟩ (.slice a1 y1.length b1)).setCell ⟨w.heap.size, k * 4 + 2, none⟩ (.slice a2 y2.length b2)).setCell ⟨w.heap.size, k * 4 + 3, none⟩ (.slice a3 y3.length b3))) := by
        refine ⟨hput, ?_⟩
        have hbb := hb.trans (hb2.mono hb.size)
        exact ((((hbb.setCell (p := ⟨w.heap.size, k * 4, none⟩) (Nat.le_refl _) _).setCell (p := ⟨w.heap.size, k * 4 + 1, none⟩) (Nat.le_refl _) _).setCell (p := ⟨w.heap.size, k * 4 + 2, none⟩) (Nat.le_refl _) _).setCell (p := ⟨w.heap.size, k * 4 + 3, none⟩) (Nat.le_refl _) _)
      have R1 : Hid ((instK.fp (.slice (some ⟨w.heap.size, 0, none⟩) ps.length ps.length) (qs.set k p')).Nodup) := nodup_put hNq k hltq p' (by rw [hzk]; rfl) hnd' hdis
      have R2 : Hid (∀ x ∈ instK.fp (.slice (some ⟨w.heap.size, 0, none⟩) ps.length ps.length) (qs.set k p'), w.heap.size ≤ x) := by
        intro x hx
        simp only [Kind.fp, List.mem_append] at hx
        rcases hx with hx | hx
        · exact HG.out x (by simp only [Kind.fp, List.mem_append]; exact Or.inl hx)
        · rcases mem_foot_set hltq hx with hx | hx
          · exact HG.out x (by simp only [Kind.fp, List.mem_append]; exact Or.inr hx)
          · have := hlo' x hx
            omega
      have R3 : Hid (∀ j (hj : j < (qs.set k p').length), k + 1 ≤ j → (qs.set k p')[j] = (⟨false, .slice none 0 0, [], .slice none 0 0, [], .slice none 0 0, []⟩ : InstQ)) := fun j hj hkj => by
        rw [List.getElem_set_ne (by omega)]
        exact HZ.out j (by simpa using hj) (by omega)
      have R4 : Hid ((qs.set k p').length = ps.length) := by rw [List.length_set]; exact HQ.out
      have R5 : Hid (((qs.set k p').take (k + 1)).map InstQ.e = (ps.take (k + 1)).map InstQ.e) := HPE.out p' hpe
      clear hput hrow hrow0 hQ hO2 hO HN HG HZ HE HQ HPE hNq hdis hown' hnd' hlo' hfp hg0 hb hzk hrd hto hpe hkk hcp hP
      go_wp2
      go_roundw
      case rel => exact ⟨k + 1, qs.set k p', by omega, by go_num, R4.out, R5.out, R3.out, R.out.1, R1.out, R2.out, R.out.2⟩
      case measure => simp [intOf]; omega
    · have hkl : k = ps.length := by omega
      subst hkl
      have hQ := HQ.out
      have hE := HE.out
      rw [List.take_length, List.take_of_length_le (by omega)] at hE
      clear HE HZ
      go_wp2
      go_ret
      exact ⟨_, qs, rfl, hE, hO, HN.out, HG.out, hb⟩

end Go.Proofs.YtmgkjcobdmdjmaaGreatDoor
namespace Go.Proofs.YtmgkjcobdmdjmaaGreatDoor
open Go.RowKit
open Go.BigFrame
set_option linter.unusedVariables false
set_option maxRecDepth 100000
set_option linter.unusedSimpArgs false
theorem fieldI0 (c v : Int) (w : World) : (Instr.field 56 (.agg #[.int .i64 c, .int .i64 v]) 0).run Tryz.prog w = .ok (.int .i64 c) w := by kernel_rfl

theorem oc_eq (x : InstE) : (ocC x == 0) = ((insF x == 0) && (outV x.dec != 3)) := by
  unfold ocC
  by_cases h0 : insF x = 0
  · rw [if_pos h0, h0]
    by_cases h3 : outV x.dec = 3
    · rw [if_pos h3, h3]; rfl
    · rw [if_neg h3]
      have : (outV x.dec != 3) = true := by simpa using h3
      rw [this]; rfl
  · rw [if_neg h0]
    have : (insF x == 0) = false := by simpa using h0
    rw [this]; rfl

theorem inst_at (ps : List InstQ) (k : Nat) (hk : k < ps.length) : (ps.map InstQ.e).getD k instNo = InstQ.e ps[k] := by simp [List.getD, hk]

theorem nmI_le (ps : List InstQ) (k : Nat) (hk : k < ps.length) : InstQ.n ps[k] ≤ nmL InstQ.n ps := nm_le InstQ.n ps k hk

theorem instP_at {w : World} {a : Option Addr} {n cap : Nat} {ps : List InstQ} (h : instK.At w (.slice a n cap) ps) (k : Nat) (hk : k < ps.length) : ∃ b off, a = some ⟨b, off, none⟩ ∧ b < w.heap.size ∧ InstP w b (off + k * 4) ps[k] := by
  obtain ⟨b, off, e, hb, hc, hrd⟩ := h.cell (by decide) k hk
  have hc' : ∀ j x, (instK.cells ps[k])[j]? = some x → w.cell? ⟨b, off + k * 4 + j, none⟩ = some x := hc
  exact ⟨b, off, e, hb, ⟨hc' 0 (.bool ps[k].has) rfl, hc' 1 ps[k].vb rfl, hc' 2 ps[k].vr rfl, hc' 3 ps[k].vd rfl⟩, hrd⟩

set_option maxHeartbeats 2000000 in
theorem hasOutcome_any (p : InstQ) (w : World) (hG : Rul w) (h : instK.rd w p) (hl : p.n ≤ 1048576) :
    Calls Tryz.prog 97 #[.agg #[.bool p.has, p.vb, p.vr, p.vd]] w fun e w' => e = .returned (.bool (ocC p.e == 0)) ∧ Below w.heap.size w w' := by
  have hbo := fun w hG h => implOutcome_any p w hG h hl
  have hrb := fun (w' : World) hb => instK.rd_below (w' := w') h hb
  generalize ocC p.e = D at *
  generalize ocV p.e = E at *
  obtain ⟨has, vb, batch, vr, rounds, vd, dec⟩ := p
  obtain ⟨ba, bk, rfl⟩ : ∃ a c, vb = .slice a batch.length c := h.1.shape
  obtain ⟨va, vk, rfl⟩ : ∃ a c, vr = .slice a rounds.length c := h.2.1.shape
  obtain ⟨da, dk, rfl⟩ : ∃ a c, vd = .slice a dec.length c := h.2.2.shape
  dsimp only at hbo hrb
  have hf0 := fieldI0 D E
  have hB : Below w.heap.size w (w.alloc (.cells #[.bool has, .slice ba batch.length bk, .slice va rounds.length vk, .slice da dec.length dk] 28)) := by go_grown
  go_enter Tryz.func97, Tryz.ntmps97
  go_wp2_with fail
  generalize w.alloc (.cells #[.bool has, .slice ba batch.length bk, .slice va rounds.length vk, .slice da dec.length dk] 28) = W at *
  refine (hbo W (hG.below hB) (hrb W hB)).mono ?_
  rintro e w1 ⟨rfl, hb1⟩
  replace hB := hB.trans (hb1.mono hB.size)
  go_wp2
  go_ret
  exact ⟨rfl, hB⟩

set_option maxHeartbeats 4000000 in
theorem implOrderFault_any (v : Value) (ps : List InstQ) (w : World) (hG : Rul w) (h : instK.At w v ps) (hl : (ps.length + nmL InstQ.n ps) ≤ 1048576) :
    Calls Tryz.prog 31 #[v] w fun e w' => e = .returned (.int .i64 (ordF (ps.map InstQ.e))) ∧ Below w.heap.size w w' := by
  obtain ⟨a, cap, rfl⟩ := h.shape
  generalize hE : ordF (ps.map InstQ.e) = E
  have HE : Hid (ordF (ps.map InstQ.e) = E) := hE
  clear hE
  by_cases hlen : ps.length < 1 ∨ 4 < ps.length
  · have E1 : Hid (E = 2) := by
      have := HE.out
      unfold ordF at this
      rw [if_pos (by simpa using hlen)] at this
      exact this.symm
    clear HE
    rcases hlen with hlen | hlen
    · go_enter Tryz.func31, Tryz.ntmps31
      go_wp2
      go_ret
      exact ⟨by rw [E1.out]; rfl, Below.refl _ _⟩
    · have h1 : ¬ ps.length < 1 := by omega
      go_enter Tryz.func31, Tryz.ntmps31
      go_wp2
      go_ret
      exact ⟨by rw [E1.out]; rfl, Below.refl _ _⟩
  · have HG : Hid (E = ordGo (ps.map InstQ.e)) := by
      have := HE.out
      unfold ordF at this
      rw [if_neg (by simpa using hlen)] at this
      exact this.symm
    have h1 : ¬ ps.length < 1 := by omega
    have h4 : ps.length ≤ 4 := by omega
    clear HE hlen
    go_enter Tryz.func31, Tryz.ntmps31
    go_wp2
    go_loopw [16] (fun i wr => ∃ k : Nat, k ≤ ps.length ∧ i = .int .i64 k ∧ Hid (E = ordGo ((ps.map InstQ.e).drop k)) ∧ Below w.heap.size w wr) (fun i _ => ps.length - (intOf i).toNat)
    case atStart => exact ⟨0, Nat.zero_le _, rfl, HG, Below.refl _ _⟩
    case round =>
      clear HG
      obtain ⟨k, hk, rfl, HG, hb⟩ := hrel
      by_cases hlt : k < ps.length
      · have hat := inst_at ps k hlt
        have HBAD : Hid (insF (InstQ.e ps[k]) ≠ 0 → E = insF (InstQ.e ps[k])) := fun hx => by
          rw [HG.out, ordGo_bad _ k (by simpa using hlt) (by rw [hat]; exact hx), hat]
        have HOPN : Hid (k + 1 < ps.length → insF (InstQ.e ps[k]) = 0 → outV (InstQ.e ps[k]).dec = 3 → E = 8) := fun h1 h2 h3 => by
          rw [HG.out, ordGo_open _ k (by simpa using h1) (by rw [hat]; exact h2) (by rw [hat]; exact h3)]
        have HNXT : Hid (insF (InstQ.e ps[k]) = 0 → ¬ (k + 1 < ps.length ∧ outV (InstQ.e ps[k]).dec = 3) → E = ordGo ((ps.map InstQ.e).drop (k + 1))) := fun h2 h3 => by
          rw [HG.out, ordGo_next _ k (by simpa using hlt) (by rw [hat]; exact h2) (by rw [hat]; simpa using h3)]
        have hn : InstQ.n ps[k] ≤ 1048576 := by have := nmI_le ps k hlt; omega
        have hif0 := implInstanceFault_any ps[k]
        have hho0 := hasOutcome_any ps[k]
        have hif := fun w hG h => hif0 w hG h hn
        have hho := fun w hG h => hho0 w hG h hn
        clear hif0 hho0
        have hoc := oc_eq (InstQ.e ps[k])
        clear hat HG
        obtain ⟨b, off, rfl, hbs, hc, hrd⟩ := (h.below hb).cell (by decide) k hlt
        have hc' : ∀ j x, (instK.cells ps[k])[j]? = some x → wr.cell? ⟨b, off + k * 4 + j, none⟩ = some x := hc
        have c0 := hc' 0 (.bool ps[k].has) rfl
        have c1 := hc' 1 ps[k].vb rfl
        have c2 := hc' 2 ps[k].vr rfl
        have c3 := hc' 3 ps[k].vd rfl
        rw [Nat.add_zero] at c0
        clear hc hc'
        have hrb := fun (w' : World) hb => instK.rd_below (w' := w') hrd hb
        generalize ocC (InstQ.e ps[k]) = OC at *
        generalize outV (InstQ.e ps[k]).dec = OV at *
        generalize insF (InstQ.e ps[k]) = C at *
        generalize ps[k] = p at *
        obtain ⟨has, vb, batch, vr, rounds, vd, dec⟩ := p
        obtain ⟨ba, bk, rfl⟩ : ∃ a c, vb = .slice a batch.length c := hrd.1.shape
        obtain ⟨va, vk, rfl⟩ : ∃ a c, vr = .slice a rounds.length c := hrd.2.1.shape
        obtain ⟨da, dk, rfl⟩ : ∃ a c, vd = .slice a dec.length c := hrd.2.2.shape
        dsimp only at c0 c1 c2 c3 hif hho hrb
        have hB1 : Below wr.heap.size wr (wr.alloc (.cells #[.bool has, .slice ba batch.length bk, .slice va rounds.length vk, .slice da dec.length dk] 28)) := by go_grown
        have Bk := Blk.new wr 28 #[.bool has, .slice ba batch.length bk, .slice va rounds.length vk, .slice da dec.length dk]
        have rd1 := hrb _ hB1
        go_wp2_with fail
        generalize wr.alloc (.cells #[.bool has, .slice ba batch.length bk, .slice va rounds.length vk, .slice da dec.length dk] 28) = W1 at *
        refine (hif W1 (hG.below (hb.trans (hB1.mono hb.size))) rd1).mono ?_
        rintro e w2 ⟨rfl, hb2⟩
        have rd2 := instK.rd_below rd1 hb2
        replace Bk := Bk.below hb2
        replace hb := (hb.trans (hB1.mono hb.size)).trans (hb2.mono (hb.trans (hB1.mono hb.size)).size)
        clear hB1 hb2 rd1 hif c0 c1 c2 c3 hrb
        by_cases hC : C = 0
        · subst hC
          by_cases hk1 : k + 1 < ps.length
          · have hk2 : (k : Int) < (ps.length : Int) - 1 := by omega
            have p0 := Bk.cell 0 _ rfl
            have p1 := Bk.cell 1 _ rfl
            have p2 := Bk.cell 2 _ rfl
            have p3 := Bk.cell 3 _ rfl
            go_wp2_with fail
            refine (hho w2 (hG.below hb) rd2).mono ?_
            rintro e w3 ⟨rfl, hb3⟩
            replace hb := hb.trans (hb3.mono hb.size)
            clear hb3 hho p0 p1 p2 p3 Bk rd2
            by_cases hO : OV = 3
            · have e1 : (OC == 0) = false := by rw [hoc, hO]; rfl
              have E1 : Hid (E = 8) := HOPN.out hk1 (by simp) hO
              clear hoc HOPN HNXT HBAD
              go_wp2
              go_ret
              exact ⟨by rw [E1.out]; rfl, hb⟩
            · have e1 : (OC == 0) = true := by
                rw [hoc]
                have : (OV != 3) = true := by simpa using hO
                rw [this]; rfl
              have E1 : Hid (E = ordGo ((ps.map InstQ.e).drop (k + 1))) := HNXT.out (by simp) (fun h => hO h.2)
              clear hoc HOPN HNXT HBAD
              go_wp2
              go_roundw
              case rel => exact ⟨k + 1, by omega, by go_num, E1.out, hb⟩
              case measure => simp [intOf]; omega
          · have hk2 : ¬ (k : Int) < (ps.length : Int) - 1 := by omega
            have E1 : Hid (E = ordGo ((ps.map InstQ.e).drop (k + 1))) := HNXT.out (by simp) (fun h => hk1 h.1)
            clear hoc HOPN HNXT HBAD hho
            go_wp2
            go_roundw
            case rel => exact ⟨k + 1, by omega, by go_num, E1.out, hb⟩
            case measure => simp [intOf]; omega
        · have hC' : (C != 0) = true := by simpa using hC
          have E1 : Hid (E = C) := HBAD.out hC
          clear hoc HOPN HNXT HBAD hho
          go_wp2
          go_ret
          exact ⟨by rw [E1.out]; rfl, hb⟩
      · have E1 : Hid (E = 0) := by rw [HG.out]; exact ordGo_end _ k (by simp; omega)
        clear HG
        go_wp2
        go_ret
        exact ⟨by rw [E1.out]; rfl, hb⟩

set_option maxHeartbeats 4000000 in
theorem l7Fault_any (v : Value) (ps : List InstQ) (w : World) (h : instK.At w v ps) (hl : (ps.length + nmL InstQ.n ps) ≤ 1048576) :
    Calls Tryz.prog 93 #[v] w fun e w' => e = .returned (.int .i64 (ordF (ps.map InstQ.e))) ∧ Below w.heap.size w w' := by
  obtain ⟨a, cap, rfl⟩ := h.shape
  generalize hE : ordF (ps.map InstQ.e) = E
  have HE : Hid (ordF (ps.map InstQ.e) = E) := hE
  clear hE
  by_cases hlen : ps.length < 1 ∨ 4 < ps.length
  · have E1 : Hid (E = 2) := by
      have := HE.out
      unfold ordF at this
      rw [if_pos (by simpa using hlen)] at this
      exact this.symm
    clear HE
    rcases hlen with hlen | hlen
    · go_enter Tryz.func93, Tryz.ntmps93
      go_wp2
      go_ret
      exact ⟨by rw [E1.out]; rfl, Below.refl _ _⟩
    · have h1 : ¬ ps.length < 1 := by omega
      go_enter Tryz.func93, Tryz.ntmps93
      go_wp2
      go_ret
      exact ⟨by rw [E1.out]; rfl, Below.refl _ _⟩
  · have HG : Hid (E = ordGo (ps.map InstQ.e)) := by
      have := HE.out
      unfold ordF at this
      rw [if_neg (by simpa using hlen)] at this
      exact this.symm
    have h1 : ¬ ps.length < 1 := by omega
    have h4 : ps.length ≤ 4 := by omega
    clear HE hlen
    go_enter Tryz.func93, Tryz.ntmps93
    go_wp2
    go_loopw [3] (fun i wr => ∃ k : Nat, k ≤ ps.length ∧ i = .int .i64 k ∧ Hid (E = ordGo ((ps.map InstQ.e).drop k)) ∧ Below w.heap.size w wr) (fun i _ => ps.length - (intOf i).toNat)
    case atStart => exact ⟨0, Nat.zero_le _, rfl, HG, Below.refl _ _⟩
    case round =>
      clear HG
      obtain ⟨k, hk, rfl, HG, hb⟩ := hrel
      by_cases hlt : k < ps.length
      · have hat := inst_at ps k hlt
        have HBAD : Hid (insF (InstQ.e ps[k]) ≠ 0 → E = insF (InstQ.e ps[k])) := fun hx => by
          rw [HG.out, ordGo_bad _ k (by simpa using hlt) (by rw [hat]; exact hx), hat]
        have HOPN : Hid (k + 1 < ps.length → insF (InstQ.e ps[k]) = 0 → outV (InstQ.e ps[k]).dec = 3 → E = 8) := fun h1 h2 h3 => by
          rw [HG.out, ordGo_open _ k (by simpa using h1) (by rw [hat]; exact h2) (by rw [hat]; exact h3)]
        have HNXT : Hid (insF (InstQ.e ps[k]) = 0 → ¬ (k + 1 < ps.length ∧ outV (InstQ.e ps[k]).dec = 3) → E = ordGo ((ps.map InstQ.e).drop (k + 1))) := fun h2 h3 => by
          rw [HG.out, ordGo_next _ k (by simpa using hlt) (by rw [hat]; exact h2) (by rw [hat]; simpa using h3)]
        obtain ⟨b, off, rfl, hbs, hP⟩ := instP_at (h.below hb) k hlt
        have hn : InstQ.n ps[k] ≤ 1048576 := by have := nmI_le ps k hlt; omega
        have hif0 := l6Fault_any b (off + k * 4) ps[k]
        have hho0 := l6Outcome_any b (off + k * 4) ps[k]
        have hif := fun w hP => hif0 w hP hn
        have hho := fun w hP => hho0 w hP hn
        clear hif0 hho0
        have ho2 : outV (InstQ.e ps[k]).dec = outV ps[k].dec := rfl
        rw [ho2] at HOPN HNXT
        clear hat HG ho2
        generalize outV ps[k].dec = OV at *
        generalize insF (InstQ.e ps[k]) = C at *
        generalize ps[k] = p at *
        go_wp2_with fail
        refine (hif wr hP).mono ?_
        rintro e w2 ⟨rfl, hb2⟩
        replace hP := hP.below hb2
        replace hb := hb.trans (hb2.mono hb.size)
        clear hb2 hif
        by_cases hC : C = 0
        · subst hC
          by_cases hk1 : k + 1 < ps.length
          · have hk2 : (k : Int) < (ps.length : Int) - 1 := by omega
            go_wp2_with fail
            refine (hho w2 hP).mono ?_
            rintro e w3 ⟨rfl, hw⟩
            replace hw := hw.symm
            subst hw
            clear hho hP
            by_cases hO : OV = 3
            · have E1 : Hid (E = 8) := HOPN.out hk1 (by simp) hO
              have hO' : (OV == 3) = true := by simpa using hO
              clear HOPN HNXT HBAD hO
              go_wp2
              go_ret
              exact ⟨by rw [E1.out]; rfl, hb⟩
            · have hO' : (OV == 3) = false := by simpa using hO
              have E1 : Hid (E = ordGo ((ps.map InstQ.e).drop (k + 1))) := HNXT.out (by simp) (fun h => hO h.2)
              clear HOPN HNXT HBAD hO
              go_wp2
              go_roundw
              case rel => exact ⟨k + 1, by omega, by go_num, E1.out, hb⟩
              case measure => simp [intOf]; omega
          · have hk2 : ¬ (k : Int) < (ps.length : Int) - 1 := by omega
            have E1 : Hid (E = ordGo ((ps.map InstQ.e).drop (k + 1))) := HNXT.out (by simp) (fun h => hk1 h.1)
            clear HOPN HNXT HBAD hho
            go_wp2
            go_roundw
            case rel => exact ⟨k + 1, by omega, by go_num, E1.out, hb⟩
            case measure => simp [intOf]; omega
        · have hC' : (C != 0) = true := by simpa using hC
          have E1 : Hid (E = C) := HBAD.out hC
          clear HOPN HNXT HBAD hho
          go_wp2
          go_ret
          exact ⟨by rw [E1.out]; rfl, hb⟩
      · have E1 : Hid (E = 0) := by rw [HG.out]; exact ordGo_end _ k (by simp; omega)
        clear HG
        go_wp2
        go_ret
        exact ⟨by rw [E1.out]; rfl, hb⟩

end Go.Proofs.YtmgkjcobdmdjmaaGreatDoor
namespace Go.Proofs.YtmgkjcobdmdjmaaGreatDoor
open Go.RowKit Go.Deep Go.ChangeShapes Go.WideShapes
set_option linter.unusedVariables false
set_option maxRecDepth 100000
set_option linter.unusedSimpArgs false
theorem flatten_at {α : Type} {c : Nat} (css : List (List α)) (hc : ∀ l ∈ css, l.length = c) : ∀ (j : Nat) (x : α), css.flatten[j]? = some x → ∃ i r, j = i * c + r ∧ r < c ∧ i < css.length ∧ (css.getD i [])[r]? = some x := by
  induction css with
  | nil => intro j x h; simp at h
  | cons l css ih =>
    intro j x h
    have hl : l.length = c := hc l (by simp)
    rw [List.flatten_cons] at h
    by_cases hj : j < c
    · rw [List.getElem?_append_left (by omega)] at h
      exact ⟨0, j, by omega, hj, by simp, by simpa [List.getD] using h⟩
    · rw [List.getElem?_append_right (by omega), hl] at h
      obtain ⟨i, r, e1, e2, e3, e4⟩ := ih (fun l hl => hc l (by simp [hl])) _ _ h
      refine ⟨i + 1, r, ?_, e2, by simpa using e3, by simpa [List.getD] using e4⟩
      rw [Nat.add_mul]; omega

section
variable {H : Type} {enc : TypeId × Value → H} {P : Program} {w : World} {base : Nat} {spare : Nat → Bool} {held : Bool}
set_option maxRecDepth 100000 in
theorem open_row {t e : TypeId} {c fuel : Nat} {cs : List Value} {x : DataW H × List MemPlace} (ht : P.underlying t = some (.slice e)) (hc : P.cellsOf e = c) (hc0 : 0 < c) (h : DataW.trod enc P w base spare held fuel t cs = some x) :
    ∃ (a : Option Addr) (cap n : Nat) (css : List (List Value)), cs = [.slice a css.length cap] ∧ css.length ≤ 9223372036854775807 ∧ Lies w a css.flatten ∧ ∀ l ∈ css, l.length = c ∧ ∃ y, DataW.trod enc P w base spare held n e l = some y := by
  rcases open_slice ht h with ⟨rfl, _⟩ | ⟨a, len, cap, m, n, D, Pl, rfl, hb, hl, hm, hmm, rfl, hx⟩
  · exact ⟨none, 0, 0, [], rfl, by simp, Or.inl rfl, by simp⟩
  have hlm : len ≤ m := by rw [hmm]; split <;> omega
  rw [hc] at hx
  obtain ⟨f, hf⟩ := choose_lt (α := List Value) (p := fun i l => w.cells? base (a.add (i * c)) c = some l ∧ DataW.trod enc P w base spare held n e l = some (D i, Pl i)) (fun i hi => hx i (Nat.lt_of_lt_of_le hi hlm))
  have hlen : ∀ i, i < len → (f i).length = c := fun i hi => (World.cells?_some (hf i hi).1).2.1
  have hall : ∀ l ∈ (List.range len).map f, l.length = c := by
    intro l hl
    obtain ⟨i, hi, rfl⟩ := List.mem_map.1 hl
    exact hlen i (List.mem_range.1 hi)
  refine ⟨some a, cap, n, (List.range len).map f, by simp, ?_, ?_, ?_⟩
  · unfold maxLen at hm; simp; omega
  · by_cases h0 : len = 0
    · subst h0; exact Or.inl rfl
    · right
      have h00 := (World.cells?_some (hf 0 (by omega)).1).2.2 0 hc0
      obtain ⟨v, hv⟩ : ∃ v, (f 0)[0]? = some v := ⟨_, List.getElem?_eq_getElem (by rw [hlen 0 (by omega)]; exact hc0)⟩
      rw [hv, add_add] at h00
      obtain ⟨b, off, spot⟩ := a
      have hspot : spot = none := by simpa [Addr.add] using World.cell?_spot h00
      subst hspot
      refine ⟨b, off, rfl, by simpa [Addr.add_lit] using World.block_lt_of_cell? w _ h00, ?_⟩
      intro j x hj
      obtain ⟨i, r, rfl, hr, hi, hxr⟩ := flatten_at _ hall j x hj
      have hi' : i < len := by simpa using hi
      have hxr' : (f i)[r]? = some x := by simpa [List.getD, hi'] using hxr
      have := (World.cells?_some (hf i hi').1).2.2 r hr
      rw [add_add, Addr.add_lit, hxr'] at this
      exact this
  · intro l hl
    obtain ⟨i, hi, rfl⟩ := List.mem_map.1 hl
    exact ⟨hlen i (List.mem_range.1 hi), _, (hf i (List.mem_range.1 hi)).2⟩

end
theorem list_pre {α β : Type} {p : β → α → Prop} {q : α → Prop} (f : β → α) (l : List α) (h : ∀ x ∈ l, ∃ b, x = f b) : ∃ bs : List β, l = bs.map f := by
  induction l with
  | nil => exact ⟨[], rfl⟩
  | cons x l ih =>
    obtain ⟨bs, rfl⟩ := ih (fun x hx => h x (by simp [hx]))
    obtain ⟨b, rfl⟩ := h x (by simp)
    exact ⟨b :: bs, rfl⟩

section
variable {H : Type} {enc : TypeId × Value → H} {w : World} {base : Nat} {spare : Nat → Bool} {held : Bool}
set_option maxRecDepth 100000 in
theorem open_act {fuel : Nat} {cs : List Value} {x : DataW H × List MemPlace} (h : DataW.trod enc Tryz.prog w base spare held fuel 234 cs = some x) : ∃ z : ActD, cs = z.cells := by
  obtain ⟨y0, y1, y2, n, _, hl, h0, h1, h2⟩ := trod_struct3 Tryz.underlying234 h
  rw [show Tryz.prog.cellsOf 234 = 3 by kernel_rfl] at hl
  have e : Tryz.prog.cellsOf 2 = 1 := by kernel_rfl
  match cs, hl with
  | [c0, c1, c2], _ =>
    simp only [e, List.drop_zero, List.drop_succ_cons, List.take_succ_cons, List.take_zero] at h0 h1 h2
    obtain ⟨k, e0, _⟩ := DataW.trod_int Tryz.underlying2 h0
    obtain ⟨y, e1, _⟩ := DataW.trod_int Tryz.underlying2 h1
    obtain ⟨v, e2, _⟩ := DataW.trod_int Tryz.underlying2 h2
    simp only [List.cons.injEq, and_true] at e0 e1 e2
    exact ⟨⟨k, y, v⟩, by rw [e0, e1, e2]; rfl⟩

set_option maxRecDepth 100000 in
theorem open_acts {fuel : Nat} {cs : List Value} {x : DataW H × List MemPlace} (h : DataW.trod enc Tryz.prog w base spare held fuel 195 cs = some x) :
    ∃ (a : Option Addr) (cap : Nat) (zs : List ActD), cs = [.slice a zs.length cap] ∧ zs.length ≤ 9223372036854775807 ∧ ActRow w a zs := by
  obtain ⟨a, cap, n, css, rfl, hl, hL, hc⟩ := open_row Tryz.underlying195 (show Tryz.prog.cellsOf 234 = 3 by kernel_rfl) (by omega) h
  obtain ⟨zs, rfl⟩ := list_pre (p := fun _ _ => True) (q := fun _ => True) ActD.cells css (fun l hl => by obtain ⟨_, y, hy⟩ := hc l hl; exact open_act hy)
  refine ⟨a, cap, zs, by simp, by simpa using hl, ?_⟩
  rw [← List.flatMap_def] at hL
  exact hL

set_option maxRecDepth 100000 in
theorem open_txnCells {fuel : Nat} {cs : List Value} {x : DataW H × List MemPlace} (h : DataW.trod enc Tryz.prog w base spare held fuel 197 cs = some x) :
    ∃ (i s q : Int) (a : Option Addr) (cap : Nat) (zs : List ActD), cs = [.int .i64 i, .int .i64 s, .int .i64 q, .slice a zs.length cap] ∧ zs.length ≤ 9223372036854775807 ∧ ActRow w a zs := by
  obtain ⟨y0, y1, y2, y3, n, _, hl, h0, h1, h2, h3⟩ := Go.Joins.trod_struct4 Tryz.underlying197 h
  rw [show Tryz.prog.cellsOf 197 = 4 by kernel_rfl] at hl
  have e : Tryz.prog.cellsOf 2 = 1 := by kernel_rfl
  have e' : Tryz.prog.cellsOf 195 = 1 := by kernel_rfl
  match cs, hl with
  | [c0, c1, c2, c3], _ =>
    simp only [e, e', List.drop_zero, List.drop_succ_cons, List.take_succ_cons, List.take_zero] at h0 h1 h2 h3
    obtain ⟨k, e0, _⟩ := DataW.trod_int Tryz.underlying2 h0
    obtain ⟨y, e1, _⟩ := DataW.trod_int Tryz.underlying2 h1
    obtain ⟨v, e2, _⟩ := DataW.trod_int Tryz.underlying2 h2
    obtain ⟨a, cap, zs, e3, hz, hA⟩ := open_acts h3
    simp only [List.cons.injEq, and_true] at e0 e1 e2 e3
    exact ⟨k, y, v, a, cap, zs, by rw [e0, e1, e2, e3], hz, hA⟩

end
end Go.Proofs.YtmgkjcobdmdjmaaGreatDoor
namespace Go.Proofs.YtmgkjcobdmdjmaaGreatDoor
open Go.RowKit Go.Deep Go.ChangeShapes Go.WideShapes
set_option linter.unusedVariables false
set_option maxRecDepth 100000
set_option linter.unusedSimpArgs false
section
variable {H : Type} {enc : TypeId × Value → H} {w : World} {base : Nat} {spare : Nat → Bool} {held : Bool}
theorem list_pre2 {α β : Type} (f : β → α) (q : β → Prop) (l : List α) (h : ∀ x ∈ l, ∃ b, x = f b ∧ q b) : ∃ bs : List β, l = bs.map f ∧ ∀ b ∈ bs, q b := by
  induction l with
  | nil => exact ⟨[], rfl, by simp⟩
  | cons x l ih =>
    obtain ⟨bs, rfl, hq⟩ := ih (fun x hx => h x (by simp [hx]))
    obtain ⟨b, rfl, hb⟩ := h x (by simp)
    exact ⟨b :: bs, rfl, by intro c hc; rcases List.mem_cons.1 hc with rfl | hc; exact hb; exact hq c hc⟩

end
end Go.Proofs.YtmgkjcobdmdjmaaGreatDoor
namespace Go.Proofs.YtmgkjcobdmdjmaaGreatDoor
open Go.RowKit Go.Deep Go.ChangeShapes Go.WideShapes
set_option linter.unusedVariables false
set_option maxRecDepth 100000
set_option linter.unusedSimpArgs false
section
variable {H : Type} {enc : TypeId × Value → H} {w : World} {base : Nat} {spare : Nat → Bool} {held : Bool}
/-- A slice of whatever elements that are opened one by one. -/
theorem open_kind {P : Type} (K : Kind P) (q : P → Prop) {t e : TypeId} {fuel : Nat} {cs : List Value} {x : DataW H × List MemPlace} (ht : Tryz.prog.underlying t = some (.slice e)) (hc : Tryz.prog.cellsOf e = K.size) (hc0 : 0 < K.size)
    (hel : ∀ (n : Nat) (l : List Value) y, DataW.trod enc Tryz.prog w base spare held n e l = some y → ∃ p : P, l = K.cells p ∧ K.rd w p ∧ q p) (h : DataW.trod enc Tryz.prog w base spare held fuel t cs = some x) :
    ∃ (v : Value) (ps : List P), cs = [v] ∧ K.At w v ps ∧ ps.length ≤ 9223372036854775807 ∧ ∀ p ∈ ps, q p := by
  obtain ⟨a, cap, n, css, rfl, hl, hL, hcs⟩ := open_row ht hc hc0 h
  obtain ⟨ps, rfl, hq⟩ := list_pre2 K.cells (fun p => K.rd w p ∧ q p) css (fun l hl => by
    obtain ⟨_, y, hy⟩ := hcs l hl
    obtain ⟨p, h1, h2, h3⟩ := hel n l y hy
    exact ⟨p, h1, h2, h3⟩)
  rw [← List.flatMap_def] at hL
  refine ⟨.slice a (ps.map K.cells).length cap, ps, rfl, ⟨a, cap, by rw [List.length_map], hL, fun p hp => (hq p hp).1⟩, by simpa using hl, fun p hp => (hq p hp).2⟩

theorem open_i64 (n : Nat) (l : List Value) (y : DataW H × List MemPlace) (h : DataW.trod enc Tryz.prog w base spare held n 2 l = some y) : ∃ p : Int, l = intK.cells p ∧ intK.rd w p ∧ True := by
  obtain ⟨k, e, _⟩ := DataW.trod_int Tryz.underlying2 h
  exact ⟨k, e, trivial, trivial⟩

theorem open_intsK {fuel : Nat} {cs : List Value} {x : DataW H × List MemPlace} (h : DataW.trod enc Tryz.prog w base spare held fuel 26 cs = some x) :
    ∃ (v : Value) (zs : List Int), cs = [v] ∧ intK.At w v zs ∧ zs.length ≤ 9223372036854775807 := by
  obtain ⟨v, ps, h1, h2, h3, _⟩ := open_kind intK (fun _ => True) Tryz.underlying26 (by kernel_rfl) (by decide) open_i64 h
  exact ⟨v, ps, h1, h2, h3⟩

theorem open_txnK (n : Nat) (l : List Value) (y : DataW H × List MemPlace) (h : DataW.trod enc Tryz.prog w base spare held n 197 l = some y) : ∃ p : TxnQ, l = txnK.cells p ∧ txnK.rd w p ∧ TxnQ.wf p := by
  obtain ⟨i, s, q, a, cap, zs, e, hz, hA⟩ := open_txnCells h
  exact ⟨⟨i, s, q, .slice a zs.length cap, zs⟩, e, actK_mk hA, hz⟩

theorem open_txnsK {fuel : Nat} {cs : List Value} {x : DataW H × List MemPlace} (h : DataW.trod enc Tryz.prog w base spare held fuel 75 cs = some x) :
    ∃ (v : Value) (ps : List TxnQ), cs = [v] ∧ txnK.At w v ps ∧ ps.length ≤ 9223372036854775807 ∧ ∀ p ∈ ps, TxnQ.wf p :=
  open_kind txnK TxnQ.wf Tryz.underlying75 (by kernel_rfl) (by decide) open_txnK h

theorem open_roundK (n : Nat) (l : List Value) (y : DataW H × List MemPlace) (h : DataW.trod enc Tryz.prog w base spare held n 199 l = some y) : ∃ p : RoundQ, l = roundK.cells p ∧ roundK.rd w p ∧ RoundQ.wf p := by
  obtain ⟨y0, y1, n, _, hl, h0, h1⟩ := trod_struct2 Tryz.underlying199 h
  rw [show Tryz.prog.cellsOf 199 = 2 by kernel_rfl] at hl
  have e : Tryz.prog.cellsOf 26 = 1 := by kernel_rfl
  match l, hl with
  | [c0, c1], _ =>
    simp only [e, List.drop_zero, List.drop_succ_cons, List.take_succ_cons, List.take_zero] at h0 h1
    obtain ⟨v0, z0, e0, a0, l0⟩ := open_intsK h0
    obtain ⟨v1, z1, e1, a1, l1⟩ := open_intsK h1
    simp only [List.cons.injEq, and_true] at e0 e1
    exact ⟨⟨v0, z0, v1, z1⟩, by rw [e0, e1]; rfl, ⟨a0, a1⟩, ⟨l0, l1⟩⟩

theorem open_roundsK {fuel : Nat} {cs : List Value} {x : DataW H × List MemPlace} (h : DataW.trod enc Tryz.prog w base spare held fuel 76 cs = some x) :
    ∃ (v : Value) (ps : List RoundQ), cs = [v] ∧ roundK.At w v ps ∧ ps.length ≤ 9223372036854775807 ∧ ∀ p ∈ ps, RoundQ.wf p :=
  open_kind roundK RoundQ.wf Tryz.underlying76 (by kernel_rfl) (by decide) open_roundK h

theorem open_instCells {fuel : Nat} {cs : List Value} {x : DataW H × List MemPlace} (h : DataW.trod enc Tryz.prog w base spare held fuel 78 cs = some x) :
    ∃ p : InstQ, cs = [.bool p.has, p.vb, p.vr, p.vd] ∧ instK.rd w p ∧ p.wf := by
  obtain ⟨y0, y1, y2, y3, n, _, hl, h0, h1, h2, h3⟩ := Go.Joins.trod_struct4 Tryz.underlying78 h
  rw [show Tryz.prog.cellsOf 78 = 4 by kernel_rfl] at hl
  have e : Tryz.prog.cellsOf 4 = 1 := by kernel_rfl
  have e' : Tryz.prog.cellsOf 75 = 1 := by kernel_rfl
  have e2 : Tryz.prog.cellsOf 76 = 1 := by kernel_rfl
  have e3 : Tryz.prog.cellsOf 26 = 1 := by kernel_rfl
  match cs, hl with
  | [c0, c1, c2, c3], _ =>
    simp only [e, e', e2, e3, List.drop_zero, List.drop_succ_cons, List.take_succ_cons, List.take_zero] at h0 h1 h2 h3
    obtain ⟨k, e0, _⟩ := DataW.trod_bool Tryz.underlying4 h0
    obtain ⟨v1, z1, e1, a1, l1, w1⟩ := open_txnsK h1
    obtain ⟨v2, z2, e2, a2, l2, w2⟩ := open_roundsK h2
    obtain ⟨v3, z3, e3, a3, l3⟩ := open_intsK h3
    simp only [List.cons.injEq, and_true] at e0 e1 e2 e3
    exact ⟨⟨k, v1, z1, v2, z2, v3, z3⟩, by rw [e0, e1, e2, e3], ⟨a1, a2, a3⟩, ⟨⟨l1, w1⟩, ⟨l2, w2⟩, l3⟩⟩

theorem open_inst {r : Reach} {b0 : Nat} {v : Value} {d : DataW H} {p : List MemPlace} (hv : Value.okWide Tryz.prog w r b0 78 v) (h : DataW.Trod enc Tryz.prog w base spare held 78 v d p) :
    ∃ q : InstQ, v = .agg #[.bool q.has, q.vb, q.vr, q.vd] ∧ instK.rd w q ∧ q.wf := by
  obtain ⟨cs, rfl, hsz⟩ := okWide_struct Tryz.underlying78 hv
  obtain ⟨fuel, hf⟩ := h
  obtain ⟨q, e, h1, h2⟩ := open_instCells hf
  refine ⟨q, ?_, h1, h2⟩
  congr 1
  apply Array.ext'
  simpa [Value.cells] using e

end
end Go.Proofs.YtmgkjcobdmdjmaaGreatDoor
namespace Go.Proofs.YtmgkjcobdmdjmaaGreatDoor
open Go.RowKit Go.ChangeShapes Go.WideShapes
set_option linter.unusedVariables false
set_option maxRecDepth 100000
set_option linter.unusedSimpArgs false
theorem gRul : Tryz.prog.globalNamed "loop.example/g00631/impl.rules" = some 1 := by kernel_rfl

theorem tRul : (Tryz.prog.globals[1]?).map (·.type) = some 208 := by kernel_rfl

theorem cRule : Tryz.prog.cellsOf 169 = 7 := by kernel_rfl

theorem cCh : Tryz.prog.cellsOf 32 = 4 := by kernel_rfl

theorem cI : Tryz.prog.cellsOf 2 = 1 := by kernel_rfl

theorem cB : Tryz.prog.cellsOf 4 = 1 := by kernel_rfl

section
variable {H : Type} {enc : TypeId × Value → H} {w : World} {base : Nat} {spare : Nat → Bool} {held : Bool}
theorem choice_cells {fuel : Nat} {cs : List Value} {c v : Int} {d k : Bool} {q : List MemPlace} (h : DataW.trod enc Tryz.prog w base spare held fuel 32 cs = some (.agg [.lit (.int .i64 c), .lit (.bool d), .lit (.bool k), .lit (.int .i64 v)], q)) : cs = [.int .i64 c, .bool d, .bool k, .int .i64 v] := by
  obtain ⟨y0, y1, y2, y3, n, hx, hl, h0, h1, h2, h3⟩ := Go.Joins.trod_struct4 Tryz.underlying32 h
  rw [cCh] at hl
  simp only [Prod.mk.injEq, DataW.agg.injEq, List.cons.injEq, and_true] at hx
  obtain ⟨⟨x0, x1, x2, x3⟩, _⟩ := hx
  match cs, hl with
  | [c0, c1, c2, c3], _ =>
    simp only [cI, cB, List.drop_zero, List.drop_succ_cons, List.take_succ_cons, List.take_zero] at h0 h1 h2 h3
    obtain ⟨n0, e0, g0, _⟩ := DataW.trod_int Tryz.underlying2 h0
    obtain ⟨n1, e1, g1⟩ := DataW.trod_bool Tryz.underlying4 h1
    obtain ⟨n2, e2, g2⟩ := DataW.trod_bool Tryz.underlying4 h2
    obtain ⟨n3, e3, g3, _⟩ := DataW.trod_int Tryz.underlying2 h3
    simp only [List.cons.injEq, and_true] at e0 e1 e2 e3
    rw [g0] at x0
    rw [g1] at x1
    rw [g2] at x2
    rw [g3] at x3
    simp at x0 x1 x2 x3
    rw [e0, e1, e2, e3, x0, x1, x2, x3]

theorem rule_cells {fuel : Nat} {cs : List Value} {z o p c v : Int} {d k : Bool} {q : List MemPlace} (h : DataW.trod enc Tryz.prog w base spare held fuel 169 cs = some (.agg [.lit (.int .i64 z), .lit (.int .i64 o), .lit (.int .i64 p), .agg [.lit (.int .i64 c), .lit (.bool d), .lit (.bool k), .lit (.int .i64 v)]], q)) :
    cs = [.int .i64 z, .int .i64 o, .int .i64 p, .int .i64 c, .bool d, .bool k, .int .i64 v] := by
  obtain ⟨y0, y1, y2, y3, n, hx, hl, h0, h1, h2, h3⟩ := Go.Joins.trod_struct4 Tryz.underlying169 h
  rw [cRule] at hl
  simp only [Prod.mk.injEq, DataW.agg.injEq, List.cons.injEq, and_true] at hx
  obtain ⟨⟨x0, x1, x2, x3⟩, _⟩ := hx
  match cs, hl with
  | [c0, c1, c2, c3, c4, c5, c6], _ =>
    simp only [cI, cCh, List.drop_zero, List.drop_succ_cons, List.take_succ_cons, List.take_zero] at h0 h1 h2 h3
    obtain ⟨n0, e0, g0, _⟩ := DataW.trod_int Tryz.underlying2 h0
    obtain ⟨n1, e1, g1, _⟩ := DataW.trod_int Tryz.underlying2 h1
    obtain ⟨n2, e2, g2, _⟩ := DataW.trod_int Tryz.underlying2 h2
    obtain ⟨y30, y31⟩ := y3
    dsimp only at x3
    rw [← x3] at h3
    have e3 := choice_cells h3
    simp only [List.cons.injEq, and_true] at e0 e1 e2 e3
    rw [g0] at x0
    rw [g1] at x1
    rw [g2] at x2
    simp at x0 x1 x2
    obtain ⟨e3, e4, e5, e6⟩ := e3
    rw [e0, e1, e2, e3, e4, e5, e6, x0, x1, x2]

end
theorem rul_of_laid {W : World} (h : laidMetH Tryz.prog [("loop.example/g00631/impl.rules", Rows.laid_loop_example_g00631_impl_rules)] W) : Rul W := by
  rw [MakeChecks.laidMetH_plain _ _ _ (by kernel_rfl)] at h
  obtain ⟨g, t, cs, fuel, p, hg, ht, hvar, hd⟩ := Lib.laidMet.reads h (List.mem_singleton.2 rfl)
  obtain rfl := Option.some.inj (gRul.symm.trans hg)
  obtain rfl := Option.some.inj (tRul.symm.trans ht)
  unfold Rows.laid_loop_example_g00631_impl_rules at hd
  have e : ∀ i, i < 5 → ∃ fuel' d q, _ ∧ _ := fun i hi => Lib.array_elem Tryz.underlying208 hd i hi
  rw [cRule] at e
  obtain ⟨f0, d0, q0, r0, s0⟩ := e 0 (by omega)
  obtain ⟨f1, d1, q1, r1, s1⟩ := e 1 (by omega)
  obtain ⟨f2, d2, q2, r2, s2⟩ := e 2 (by omega)
  obtain ⟨f3, d3, q3, r3, s3⟩ := e 3 (by omega)
  obtain ⟨f4, d4, q4, r4, s4⟩ := e 4 (by omega)
  simp only [List.getElem?_cons_zero, List.getElem?_cons_succ, Option.some.injEq] at r0 r1 r2 r3 r4
  subst r0 r1 r2 r3 r4
  have t0 := rule_cells s0
  have t1 := rule_cells s1
  have t2 := rule_cells s2
  have t3 := rule_cells s3
  have t4 := rule_cells s4
  have hall : cs.toList.take 35 = rulL := by
    rw [show 35 = 0 * 7 + 7 + 7 + 7 + 7 + 7 from rfl, List.take_add, List.take_add, List.take_add, List.take_add]
    rw [show 0 * 7 + 7 + 7 + 7 + 7 = 4 * 7 from rfl, show 0 * 7 + 7 + 7 + 7 = 3 * 7 from rfl, show 0 * 7 + 7 + 7 = 2 * 7 from rfl, show 0 * 7 + 7 = 1 * 7 from rfl, t1, t2, t3, t4]
    have t0' : List.take (1 * 7) cs.toList = _ := t0
    rw [t0']
    rfl
  intro i v hv
  have hi : i < 35 := by
    have := (List.getElem?_eq_some_iff.1 hv).1
    simpa [rulL] using this
  rw [World.var?_cell hg hvar i, ← Array.getElem?_toList]
  rw [← hall, List.getElem?_take, if_pos hi] at hv
  exact hv

end Go.Proofs.YtmgkjcobdmdjmaaGreatDoor
namespace Go.Proofs.YtmgkjcobdmdjmaaGreatDoor
open Go.RowKit
open Go.BigFrame
set_option linter.unusedVariables false
set_option maxRecDepth 100000
set_option linter.unusedSimpArgs false
def sameA (x y : ActD) : Bool := (x.kind == y.kind) && ((x.key == y.key) && (x.val == y.val))

def sameAs : List ActD → List ActD → Bool
  | [], [] => true
  | x :: r, y :: s => sameA x y && sameAs r s
  | _, _ => false

def sameT (x y : TxnD) : Bool := (x.id == y.id) && (x.session == y.session) && (x.seq == y.seq) && sameAs x.acts y.acts

def sameTs : List TxnD → List TxnD → Bool
  | [], [] => true
  | x :: r, y :: s => sameT x y && sameTs r s
  | _, _ => false

/-- A comparison of two lists, place by place. -/
theorem same_len {α : Type} {f : α → α → Bool} {g : List α → List α → Bool} (h0 : g [] [] = true) (h1 : ∀ x r y s, g (x :: r) (y :: s) = (f x y && g r s)) (h2 : ∀ x r, g (x :: r) [] = false) (h3 : ∀ y s, g [] (y :: s) = false) :
    ∀ a b, a.length ≠ b.length → g a b = false := by
  intro a
  induction a with
  | nil => intro b h; cases b with | nil => simp at h | cons y s => exact h3 y s
  | cons x r ih => intro b h; cases b with | nil => exact h2 x r | cons y s => rw [h1, ih s (by simpa using h)]; simp

theorem same_bad {α : Type} {f : α → α → Bool} {g : List α → List α → Bool} (d : α) (h1 : ∀ x r y s, g (x :: r) (y :: s) = (f x y && g r s)) :
    ∀ a b k, a.length = b.length → k < a.length → f (a.getD k d) (b.getD k d) = false → g a b = false := by
  intro a
  induction a with
  | nil => intro b k _ h; simp at h
  | cons x r ih =>
    intro b k hl hk hf
    cases b with
    | nil => simp at hl
    | cons y s =>
      rw [h1]
      cases k with
      | zero => simp [List.getD] at hf; simp [hf]
      | succ k => rw [ih s k (by simpa using hl) (by simpa using hk) (by simpa [List.getD] using hf)]; simp

theorem same_all {α : Type} {f : α → α → Bool} {g : List α → List α → Bool} (d : α) (h0 : g [] [] = true) (h1 : ∀ x r y s, g (x :: r) (y :: s) = (f x y && g r s)) :
    ∀ a b, a.length = b.length → (∀ k, k < a.length → f (a.getD k d) (b.getD k d) = true) → g a b = true := by
  intro a
  induction a with
  | nil => intro b hl _; cases b with | nil => exact h0 | cons y s => simp at hl
  | cons x r ih =>
    intro b hl hf
    cases b with
    | nil => simp at hl
    | cons y s =>
      rw [h1, ih s (by simpa using hl) (fun k hk => by simpa [List.getD] using hf (k + 1) (by simpa using hk))]
      have := hf 0 (by simp)
      simp [List.getD] at this
      simp [this]

theorem eqAct_run (x0 x1 x2 y0 y1 y2 : Int) (w : World) : (binOp .neq 179 (.agg #[.int .i64 x0, .int .i64 x1, .int .i64 x2]) (.agg #[.int .i64 y0, .int .i64 y1, .int .i64 y2])).run Tryz.prog w = .ok (.bool (!sameA ⟨x0, x1, x2⟩ ⟨y0, y1, y2⟩)) w := by
  rw [run_neq_struct, run_equalIn_struct (P := Tryz.prog) w 9999 179 _ _ (by kernel_rfl) (by kernel_rfl)]
  have c1 : Tryz.prog.cellsOf 2 = 1 := by kernel_rfl
  cases h0 : (x0 == y0) <;> cases h1 : (x1 == y1) <;> cases h2 : (x2 == y2) <;> simp [Program.fieldsOf, Tryz.underlying179, Op.eqFields, go_sem, Tryz.underlying2, h0, h1, h2, sameA, c1]

set_option maxRecDepth 100000 in
set_option maxHeartbeats 2000000 in
theorem equalA_any (a a' : Option Addr) (cap cap' : Nat) (xs ys : List ActD) (w : World) (h : ActRow w a xs) (h' : ActRow w a' ys) (hl : xs.length ≤ 1048576) (hl' : ys.length ≤ 1048576) :
    Calls Tryz.prog 144 #[.slice a xs.length cap, .slice a' ys.length cap'] w fun e w' => e = .returned (.bool (sameAs xs ys)) ∧ Below w.heap.size w w' := by
  by_cases hlen : xs.length = ys.length
  case neg =>
    have E : sameAs xs ys = false := same_len (f := sameA) rfl (fun _ _ _ _ => rfl) (fun _ _ => rfl) (fun _ _ => rfl) xs ys hlen
    rw [E]
    have hd : ((xs.length : Int) != (ys.length : Int)) = true := by simp; omega
    go_enter Tryz.func144, Tryz.ntmps144
    go_wp2
    go_ret
    exact ⟨rfl, Below.refl _ _⟩
  case pos =>
    have hd : ((xs.length : Int) != (ys.length : Int)) = false := by simp [hlen]
    have HL : Hid (xs.length = ys.length) := hlen
    clear hlen
    go_enter Tryz.func144, Tryz.ntmps144
    go_wp2
    go_loopw [13] (fun i wr => ∃ k m : Nat, k ≤ xs.length ∧ i = .int .i64 k ∧ wr = w.drewN m ∧ Hid (∀ j, j < k → sameA (xs.getD j actNo) (ys.getD j actNo) = true)) (fun i _ => xs.length - (intOf i).toNat)
    case atStart => exact ⟨0, 0, Nat.zero_le _, rfl, rfl, fun j hj => absurd hj (Nat.not_lt_zero _)⟩
    case round =>
      obtain ⟨k, m, hk, rfl, rfl, HA⟩ := hrel
      by_cases hlt : k < xs.length
      · have hlt' : k < ys.length := by have := HL.out; omega
        obtain ⟨b, off, rfl, hbs, hc0, hc1, hc2⟩ := h.at k hlt
        obtain ⟨b', off', rfl, hbs', hd0, hd1, hd2⟩ := h'.at k hlt'
        cases hs : sameA (xs.getD k actNo) (ys.getD k actNo)
        case false =>
          have E : Hid (sameAs xs ys = false) := same_bad (f := sameA) actNo (fun _ _ _ _ => rfl) xs ys k HL.out hlt hs
          have hr := eqAct_run (xs.getD k actNo).kind (xs.getD k actNo).key (xs.getD k actNo).val (ys.getD k actNo).kind (ys.getD k actNo).key (ys.getD k actNo).val
          rw [show sameA ⟨(xs.getD k actNo).kind, (xs.getD k actNo).key, (xs.getD k actNo).val⟩ ⟨(ys.getD k actNo).kind, (ys.getD k actNo).key, (ys.getD k actNo).val⟩ = false from hs, Bool.not_false] at hr
          clear HA hs
          generalize xs.getD k actNo = z at hc0 hc1 hc2 hr
          generalize ys.getD k actNo = z' at hd0 hd1 hd2 hr
          go_wp2
          go_quiet (fail)
          go_wp2
          go_ret
          rw [E.out]
          exact ⟨rfl, ⟨rfl, rfl, rfl, Nat.le_refl _, fun _ _ => rfl⟩⟩
        case true =>
          have HB : Hid (∀ j, j < k + 1 → sameA (xs.getD j actNo) (ys.getD j actNo) = true) := by
            intro j hj
            by_cases hjk : j = k
            · subst hjk; exact hs
            · exact HA.out j (by omega)
          have hr := eqAct_run (xs.getD k actNo).kind (xs.getD k actNo).key (xs.getD k actNo).val (ys.getD k actNo).kind (ys.getD k actNo).key (ys.getD k actNo).val
          rw [show sameA ⟨(xs.getD k actNo).kind, (xs.getD k actNo).key, (xs.getD k actNo).val⟩ ⟨(ys.getD k actNo).kind, (ys.getD k actNo).key, (ys.getD k actNo).val⟩ = true from hs, Bool.not_true] at hr
          clear HA hs
          generalize xs.getD k actNo = z at hc0 hc1 hc2 hr
          generalize ys.getD k actNo = z' at hd0 hd1 hd2 hr
          go_wp2
          go_quiet (fail)
          go_wp2
          go_roundw
          case rel => exact ⟨k + 1, _, by omega, by go_num, rfl, HB⟩
          case measure => simp [intOf]; omega
      · have E : Hid (sameAs xs ys = true) := same_all (f := sameA) actNo rfl (fun _ _ _ _ => rfl) xs ys HL.out (fun j hj => HA.out j (by omega))
        clear HA
        go_wp2
        go_ret
        rw [E.out]
        exact ⟨rfl, ⟨rfl, rfl, rfl, Nat.le_refl _, fun _ _ => rfl⟩⟩

theorem sameT_ways (x y : TxnD) : ((x.id == y.id) = false ∧ sameT x y = false) ∨ ((x.id == y.id) = true ∧ (x.session == y.session) = false ∧ sameT x y = false) ∨ ((x.id == y.id) = true ∧ (x.session == y.session) = true ∧ (x.seq == y.seq) = false ∧ sameT x y = false) ∨
    ((x.id == y.id) = true ∧ (x.session == y.session) = true ∧ (x.seq == y.seq) = true ∧ sameT x y = sameAs x.acts y.acts) := by
  unfold sameT
  cases h1 : (x.id == y.id) <;> cases h2 : (x.session == y.session) <;> cases h3 : (x.seq == y.seq) <;> simp

set_option maxRecDepth 100000 in
set_option maxHeartbeats 2000000 in
theorem isSameTxn_any (x y : TxnD) (a a' : Option Addr) (cap cap' : Nat) (w : World) (h : ActRow w a x.acts) (h' : ActRow w a' y.acts) (hl : x.acts.length ≤ 1048576) (hl' : y.acts.length ≤ 1048576) :
    Calls Tryz.prog 80 #[.agg #[.int .i64 x.id, .int .i64 x.session, .int .i64 x.seq, .slice a x.acts.length cap], .agg #[.int .i64 y.id, .int .i64 y.session, .int .i64 y.seq, .slice a' y.acts.length cap']] w fun e w' => e = .returned (.bool (sameT x y)) ∧ Below w.heap.size w w' := by
  have hq := fun w h h' => equalA_any a a' cap cap' x.acts y.acts w h h' hl hl'
  rcases sameT_ways x y with ⟨h1, e⟩ | ⟨h1, h2, e⟩ | ⟨h1, h2, h3, e⟩ | ⟨h1, h2, h3, e⟩ <;> rw [e] <;> clear e
  all_goals
    (generalize sameAs x.acts y.acts = r at hq
     obtain ⟨x0, x1, x2, xs⟩ := x
     obtain ⟨y0, y1, y2, ys⟩ := y
     dsimp only at *)
  all_goals
    (go_enter Tryz.func80, Tryz.ntmps80
     go_wp2_with (go_at_call 144; refine (hq _ (h.below (by go_grown)) (h'.below (by go_grown))).mono ?_; rintro e w' ⟨rfl, hb⟩)
     go_ret)
  · exact ⟨rfl, by go_grown⟩
  · exact ⟨rfl, by go_grown⟩
  · exact ⟨rfl, by go_grown⟩
  · exact ⟨rfl, below_from (by go_grown) hb⟩

end Go.Proofs.YtmgkjcobdmdjmaaGreatDoor
namespace Go.Proofs.YtmgkjcobdmdjmaaGreatDoor
open Go.RowKit
open Go.BigFrame
set_option linter.unusedVariables false
set_option maxRecDepth 100000
set_option linter.unusedSimpArgs false
set_option maxRecDepth 100000 in
set_option maxHeartbeats 2000000 in
theorem equalFunc_any (v v' : Value) (xs ys : List TxnD) (w : World) (h : TxnsAt w v xs) (h' : TxnsAt w v' ys) (hl : xs.length + sumA xs ≤ 1048576) (hl' : ys.length + sumA ys ≤ 1048576) :
    Calls Tryz.prog 79 #[v, v', .func (.func 80) #[] #[]] w fun e w' => e = .returned (.bool (sameTs xs ys)) ∧ Below w.heap.size w w' := by
  obtain ⟨a, cap, rfl⟩ := h.shape
  obtain ⟨a', cap', rfl⟩ := h'.shape
  by_cases hlen : xs.length = ys.length
  case neg =>
    have E : sameTs xs ys = false := same_len (f := sameT) rfl (fun _ _ _ _ => rfl) (fun _ _ => rfl) (fun _ _ => rfl) xs ys hlen
    rw [E]
    have hd : ((xs.length : Int) != (ys.length : Int)) = true := by simp; omega
    go_enter Tryz.func79, Tryz.ntmps79
    go_wp2
    go_ret
    exact ⟨rfl, Below.refl _ _⟩
  case pos =>
    have hd : ((xs.length : Int) != (ys.length : Int)) = false := by simp [hlen]
    have HL : Hid (xs.length = ys.length) := hlen
    clear hlen
    go_enter Tryz.func79, Tryz.ntmps79
    go_wp2
    go_loopw [17] (fun i wr => ∃ k : Nat, k ≤ xs.length ∧ i = .int .i64 k ∧ Below w.heap.size w wr ∧ Hid (∀ j, j < k → sameT (xs.getD j txnNo) (ys.getD j txnNo) = true)) (fun i _ => xs.length - (intOf i).toNat)
    case atStart => exact ⟨0, Nat.zero_le _, rfl, Below.refl _ _, fun j hj => absurd hj (Nat.not_lt_zero _)⟩
    case round =>
      obtain ⟨k, hk, rfl, hb, HA⟩ := hrel
      by_cases hlt : k < xs.length
      · have hlt' : k < ys.length := by have := HL.out; omega
        obtain ⟨b, off, aa, cc, rfl, hbs, hc0, hc1, hc2, hc3, hA⟩ := (h.below hb).at k hlt
        obtain ⟨b', off', aa', cc', rfl, hbs', hd0, hd1, hd2, hd3, hA'⟩ := (h'.below hb).at k hlt'
        have hzl : (xs.getD k txnNo).acts.length ≤ sumA xs := mem_le_sumA (by simp [List.getD, hlt])
        have hzl' : (ys.getD k txnNo).acts.length ≤ sumA ys := mem_le_sumA (by simp [List.getD, hlt'])
        have hq := fun w h h' => isSameTxn_any (xs.getD k txnNo) (ys.getD k txnNo) aa aa' cc cc' w h h' (by omega) (by omega)
        have hs5 := hb.size
        have hal : ∀ (o : Obj) (j : Nat), (wr.alloc o).cell? ⟨b', j, none⟩ = wr.cell? ⟨b', j, none⟩ := fun o j => (show Below wr.heap.size wr (wr.alloc o) by go_grown).cell (p := ⟨b', j, none⟩) hbs'
        cases hs : sameT (xs.getD k txnNo) (ys.getD k txnNo)
        case false =>
          have E : Hid (sameTs xs ys = false) := same_bad (f := sameT) txnNo (fun _ _ _ _ => rfl) xs ys k HL.out hlt hs
          rw [hs] at hq
          clear HA hs
          generalize xs.getD k txnNo = z at hc0 hc1 hc2 hc3 hA hq hzl
          generalize ys.getD k txnNo = z' at hd0 hd1 hd2 hd3 hA' hq hzl'
          obtain ⟨z0, z1, z2, zs⟩ := z
          obtain ⟨y0, y1, y2, us⟩ := z'
          dsimp only at hc0 hc1 hc2 hc3 hA hd0 hd1 hd2 hd3 hA' hq hzl hzl'
          go_wp2_with fail
          refine (hq _ (hA.below (by go_grown)) (hA'.below (by go_grown))).mono ?_
          rintro e w2 ⟨rfl, hb2⟩
          go_wp2
          go_ret
          rw [E.out]
          exact ⟨rfl, below_from (below_from hb (by go_grown)) hb2⟩
        case true =>
          have HB : Hid (∀ j, j < k + 1 → sameT (xs.getD j txnNo) (ys.getD j txnNo) = true) := by
            intro j hj
            by_cases hjk : j = k
            · subst hjk; exact hs
            · exact HA.out j (by omega)
          rw [hs] at hq
          clear HA hs
          generalize xs.getD k txnNo = z at hc0 hc1 hc2 hc3 hA hq hzl
          generalize ys.getD k txnNo = z' at hd0 hd1 hd2 hd3 hA' hq hzl'
          obtain ⟨z0, z1, z2, zs⟩ := z
          obtain ⟨y0, y1, y2, us⟩ := z'
          dsimp only at hc0 hc1 hc2 hc3 hA hd0 hd1 hd2 hd3 hA' hq hzl hzl'
          go_wp2_with fail
          refine (hq _ (hA.below (by go_grown)) (hA'.below (by go_grown))).mono ?_
          rintro e w2 ⟨rfl, hb2⟩
          have hb3 := below_from (below_from hb (by go_grown)) hb2
          clear hb2 hal hc0 hc1 hc2 hc3 hd0 hd1 hd2 hd3 hA hA' hq
          go_wp2
          go_roundw
          case rel => exact ⟨k + 1, by omega, by go_num, hb3, HB⟩
          case measure => simp [intOf]; omega
      · have E : Hid (sameTs xs ys = true) := same_all (f := sameT) txnNo rfl (fun _ _ _ _ => rfl) xs ys HL.out (fun j hj => HA.out j (by omega))
        clear HA
        go_wp2
        go_ret
        rw [E.out]
        exact ⟨rfl, hb⟩

set_option maxRecDepth 100000 in
set_option maxHeartbeats 1000000 in
theorem implSameTxns_any (v v' : Value) (xs ys : List TxnD) (w : World) (h : TxnsAt w v xs) (h' : TxnsAt w v' ys) (hl : xs.length + sumA xs ≤ 1048576) (hl' : ys.length + sumA ys ≤ 1048576) :
    Calls Tryz.prog 21 #[v, v'] w fun e w' => e = .returned (.bool (sameTs xs ys)) ∧ Below w.heap.size w w' := by
  have hq := equalFunc_any v v' xs ys w h h' hl hl'
  generalize sameTs xs ys = r at hq
  go_enter Tryz.func21, Tryz.ntmps21
  go_wp2_with fail
  refine hq.mono ?_
  rintro e w2 ⟨rfl, hb⟩
  go_wp2
  go_ret
  exact ⟨rfl, hb⟩

end Go.Proofs.YtmgkjcobdmdjmaaGreatDoor
namespace Go.Proofs.YtmgkjcobdmdjmaaGreatDoor
open Go.RowKit
open Go.BigFrame
set_option linter.unusedVariables false
set_option maxRecDepth 100000
set_option linter.unusedSimpArgs false
theorem sameT_ways2 (x y : TxnD) : ((x.id != y.id) = true ∧ sameT x y = false) ∨ ((x.id != y.id) = false ∧ (x.session != y.session) = true ∧ sameT x y = false) ∨ ((x.id != y.id) = false ∧ (x.session != y.session) = false ∧ (x.seq != y.seq) = true ∧ sameT x y = false) ∨
    ((x.id != y.id) = false ∧ (x.session != y.session) = false ∧ (x.seq != y.seq) = false ∧ ((x.acts.length : Int) != (y.acts.length : Int)) = true ∧ sameT x y = false) ∨
    ((x.id != y.id) = false ∧ (x.session != y.session) = false ∧ (x.seq != y.seq) = false ∧ ((x.acts.length : Int) != (y.acts.length : Int)) = false ∧ sameT x y = sameAs x.acts y.acts) := by
  by_cases hl : x.acts.length = y.acts.length
  · rcases sameT_ways x y with ⟨h1, e⟩ | ⟨h1, h2, e⟩ | ⟨h1, h2, h3, e⟩ | ⟨h1, h2, h3, e⟩ <;> simp [bne, *]
  · have hs : sameAs x.acts y.acts = false := same_len (f := sameA) rfl (fun _ _ _ _ => rfl) (fun _ _ => rfl) (fun _ _ => rfl) _ _ hl
    have hl2 : ¬ ((x.acts.length : Int) = (y.acts.length : Int)) := by omega
    rcases sameT_ways x y with ⟨h1, e⟩ | ⟨h1, h2, e⟩ | ⟨h1, h2, h3, e⟩ | ⟨h1, h2, h3, e⟩ <;> simp [bne, *]

set_option maxRecDepth 100000 in
set_option maxHeartbeats 4000000 in
theorem l2Same_any (x y : TxnD) (b o b' o' : Nat) (a a' : Option Addr) (cap cap' : Nat) (w : World) (hB : Box4 w b o (.int .i64 x.id) (.int .i64 x.session) (.int .i64 x.seq) (.slice a x.acts.length cap)) (hB' : Box4 w b' o' (.int .i64 y.id) (.int .i64 y.session) (.int .i64 y.seq) (.slice a' y.acts.length cap'))
    (h : ActRow w a x.acts) (h' : ActRow w a' y.acts) (hl : x.acts.length ≤ 1048576) (hl' : y.acts.length ≤ 1048576) :
    Calls Tryz.prog 193 #[.pointer (some ⟨b, o, none⟩), .pointer (some ⟨b', o', none⟩)] w fun e w' => e = .returned (.bool (sameT x y)) ∧ Below w.heap.size w w' := by
  obtain ⟨c0, c1, c2, c3⟩ := hB
  obtain ⟨d0, d1, d2, d3⟩ := hB'
  rcases sameT_ways2 x y with ⟨h1, e⟩ | ⟨h1, h2, e⟩ | ⟨h1, h2, h3, e⟩ | ⟨h1, h2, h3, h4, e⟩ | ⟨h1, h2, h3, h4, e⟩ <;> rw [e] <;> clear e <;> obtain ⟨x0, x1, x2, xs⟩ := x <;> obtain ⟨y0, y1, y2, ys⟩ := y <;> dsimp only at *
  · go_enter Tryz.func193, Tryz.ntmps193
    go_wp2_with fail
    go_quiet (fail)
    go_wp2
    go_ret
    exact ⟨rfl, ⟨rfl, rfl, rfl, Nat.le_refl _, fun _ _ => rfl⟩⟩
  · go_enter Tryz.func193, Tryz.ntmps193
    go_wp2_with fail
    go_quiet (fail)
    go_wp2
    go_ret
    exact ⟨rfl, ⟨rfl, rfl, rfl, Nat.le_refl _, fun _ _ => rfl⟩⟩
  · go_enter Tryz.func193, Tryz.ntmps193
    go_wp2_with fail
    go_quiet (fail)
    go_wp2
    go_ret
    exact ⟨rfl, ⟨rfl, rfl, rfl, Nat.le_refl _, fun _ _ => rfl⟩⟩
  · go_enter Tryz.func193, Tryz.ntmps193
    go_wp2_with fail
    go_quiet (fail)
    go_wp2
    go_ret
    exact ⟨rfl, ⟨rfl, rfl, rfl, Nat.le_refl _, fun _ _ => rfl⟩⟩
  · have hlen : xs.length = ys.length := by simp at h4; omega
    have HL : Hid (xs.length = ys.length) := hlen
    clear hlen
    go_enter Tryz.func193, Tryz.ntmps193
    go_wp2_with fail
    go_quiet (fail)
    go_wp2
    go_loopw [5] (fun i wr => ∃ k m : Nat, k ≤ xs.length ∧ i = .int .i64 k ∧ wr = w.drewN m ∧ Hid (∀ j, j < k → sameA (xs.getD j actNo) (ys.getD j actNo) = true)) (fun i _ => xs.length - (intOf i).toNat)
    case atStart => exact ⟨0, _, Nat.zero_le _, rfl, rfl, fun j hj => absurd hj (Nat.not_lt_zero _)⟩
    case round =>
      obtain ⟨k, m, hk, rfl, rfl, HA⟩ := hrel
      by_cases hlt : k < xs.length
      · have hlt' : k < ys.length := by have := HL.out; omega
        obtain ⟨bb, off, rfl, hbs, hc0, hc1, hc2⟩ := h.at k hlt
        obtain ⟨bb', off', rfl, hbs', hd0, hd1, hd2⟩ := h'.at k hlt'
        have hr := eqAct_run (xs.getD k actNo).kind (xs.getD k actNo).key (xs.getD k actNo).val (ys.getD k actNo).kind (ys.getD k actNo).key (ys.getD k actNo).val
        cases hs : sameA (xs.getD k actNo) (ys.getD k actNo)
        case false =>
          have E : Hid (sameAs xs ys = false) := same_bad (f := sameA) actNo (fun _ _ _ _ => rfl) xs ys k HL.out hlt hs
          rw [show sameA ⟨(xs.getD k actNo).kind, (xs.getD k actNo).key, (xs.getD k actNo).val⟩ ⟨(ys.getD k actNo).kind, (ys.getD k actNo).key, (ys.getD k actNo).val⟩ = false from hs, Bool.not_false] at hr
          clear HA hs
          generalize xs.getD k actNo = z at hc0 hc1 hc2 hr
          generalize ys.getD k actNo = z' at hd0 hd1 hd2 hr
          go_wp2
          go_quiet (fail)
          go_wp2
          go_ret
          rw [E.out]
          exact ⟨rfl, ⟨rfl, rfl, rfl, Nat.le_refl _, fun _ _ => rfl⟩⟩
        case true =>
          have HB : Hid (∀ j, j < k + 1 → sameA (xs.getD j actNo) (ys.getD j actNo) = true) := by
            intro j hj
            by_cases hjk : j = k
            · subst hjk; exact hs
            · exact HA.out j (by omega)
          rw [show sameA ⟨(xs.getD k actNo).kind, (xs.getD k actNo).key, (xs.getD k actNo).val⟩ ⟨(ys.getD k actNo).kind, (ys.getD k actNo).key, (ys.getD k actNo).val⟩ = true from hs, Bool.not_true] at hr
          clear HA hs
          generalize xs.getD k actNo = z at hc0 hc1 hc2 hr
          generalize ys.getD k actNo = z' at hd0 hd1 hd2 hr
          go_wp2
          go_quiet (fail)
          go_wp2
          go_roundw
          case rel => exact ⟨k + 1, _, by omega, by go_num, rfl, HB⟩
          case measure => simp [intOf]; omega
      · have E : Hid (sameAs xs ys = true) := same_all (f := sameA) actNo rfl (fun _ _ _ _ => rfl) xs ys HL.out (fun j hj => HA.out j (by omega))
        clear HA
        go_wp2
        go_ret
        rw [E.out]
        exact ⟨rfl, ⟨rfl, rfl, rfl, Nat.le_refl _, fun _ _ => rfl⟩⟩

end Go.Proofs.YtmgkjcobdmdjmaaGreatDoor
