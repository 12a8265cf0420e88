/- The board of an instance for who says something: a node, in a round that is there. -/
import Derived.Test.YtpjmlidbligcbaaGreatDoorP6
namespace Go.Proofs.YtpjmlidbligcbaaGreatDoor
open Go.RowKit
open Go.BigFrame
set_option linter.unusedVariables false
set_option maxRecDepth 100000
set_option linter.unusedSimpArgs false

/-- The code for who says something. -/
def atC (x : InstE) (node round : Int) : Int := if insF x = 0 then (if inB node 0 2 && inB round 0 ((x.rounds.length : Int) - 1) then 0 else 3) else insF x
def bdAt (p : InstQ) (node round : Int) : List Value := if atC p.e node round = 0 then brdC p.has p.vb p.e.rounds p.dec else brd0
theorem at_zero {x : InstE} {node round : Int} (h : atC x node round = 0) : insF x = 0 ∧ ∃ n r : Nat, node = (n : Int) ∧ round = (r : Int) ∧ n < 3 ∧ r < x.rounds.length := by
  unfold atC at h
  by_cases h0 : insF x = 0
  · rw [if_pos h0] at h
    by_cases h1 : (inB node 0 2 && inB round 0 ((x.rounds.length : Int) - 1)) = true
    · rw [Bool.and_eq_true] at h1
      obtain ⟨h1, h2⟩ := h1
      unfold inB at h1 h2
      rw [decide_eq_true_eq] at h1 h2
      exact ⟨h0, node.toNat, round.toNat, by omega, by omega, by omega, by omega⟩
    · rw [if_neg h1] at h
      exact absurd h (by decide)
  · rw [if_neg h0] at h
    exact absurd h h0
theorem bdAt_ok {w : World} {p : InstQ} (node round : Int) (h : instK.rd w p) : (bdAt p node round).length = 30 ∧ (bdAt p node round).toArray.all (·.oneCell') = true := by
  by_cases h0 : atC p.e node round = 0
  · have h1 := bd_ok h
    unfold bdOf at h1
    rw [if_pos (at_zero h0).1] at h1
    unfold bdAt
    rw [if_pos h0]
    exact h1
  · unfold bdAt
    rw [if_neg h0]
    exact ⟨rfl, by kernel_rfl⟩

set_option maxHeartbeats 4000000 in
theorem boardAt_any (p : InstQ) (node round : Int) (w : World) (hG : Rul w) (h : instK.rd w p) (hl : p.n ≤ 1048576) :
    Calls Tryz.prog 67 #[.agg #[.bool p.has, p.vb, p.vr, p.vd], .int .i64 node, .int .i64 round] w fun e w' => e = .returned (.tuple #[.agg (bdAt p node round).toArray, .int .i64 (atC p.e node round)]) ∧ Below w.heap.size w w' := by
  obtain ⟨hl30, hone⟩ := bd_ok h
  have hbo := fun w hG h => boardOf_any p w hG h hl
  have hrb := fun (w' : World) hb => instK.rd_below (w' := w') h hb
  change ∀ w hG h, Calls _ _ _ _ fun e w' => e = .returned (.tuple #[.agg (bdOf p).toArray, _]) ∧ _ at hbo
  have HBD : Hid (insF p.e = 0 → bdOf p = brdC p.has p.vb p.e.rounds p.dec ∧ Wel p.e.rounds ∧ p.e.rounds.length ≤ 4) := fun h0 => by
    obtain ⟨h1, h2, h3, _⟩ := ins_ok h0
    exact ⟨if_pos h0, h1, h2.2⟩
  obtain ⟨D, hD⟩ : ∃ D, atC p.e node round = D := ⟨_, rfl⟩
  obtain ⟨E, hE⟩ : ∃ E, bdAt p node round = E := ⟨_, rfl⟩
  have HDE : Hid ((insF p.e ≠ 0 → D = insF p.e ∧ E = brd0) ∧ (insF p.e = 0 → (inB node 0 2 && inB round 0 ((p.e.rounds.length : Int) - 1)) = false → D = 3 ∧ E = brd0) ∧ (insF p.e = 0 → (inB node 0 2 && inB round 0 ((p.e.rounds.length : Int) - 1)) = true → D = 0 ∧ E = bdOf p)) := by
    refine ⟨fun h0 => ?_, fun h0 h1 => ?_, fun h0 h1 => ?_⟩
    · have e : D = insF p.e := by rw [← hD]; exact if_neg h0
      exact ⟨e, by rw [← hE]; exact if_neg (by rw [hD, e]; exact h0)⟩
    · have e : D = 3 := by rw [← hD]; unfold atC; rw [if_pos h0, h1]; rfl
      exact ⟨e, by rw [← hE]; exact if_neg (by rw [hD, e]; decide)⟩
    · have e : D = 0 := by rw [← hD]; unfold atC; rw [if_pos h0, h1]; rfl
      refine ⟨e, ?_⟩
      rw [← hE]
      unfold bdAt bdOf
      rw [hD, if_pos e, if_pos h0]
  rw [hD, hE]
  clear hD hE
  generalize bdOf p = BD at *
  generalize insF p.e = C at *
  generalize p.e.rounds = rs at *
  obtain ⟨has, vb, batch, vr, rounds, vd, dec⟩ := p
  obtain ⟨ba, bk, rfl⟩ : ∃ a c, vb = .slice a batch.length c := h.1.shape
  obtain ⟨va, vk, rfl⟩ : ∃ a c, vr = .slice a rounds.length c := h.2.1.shape
  obtain ⟨da, dk, rfl⟩ : ∃ a c, vd = .slice a dec.length c := h.2.2.shape
  dsimp only at hbo hrb HBD HDE
  have hB : Below w.heap.size w ((w.alloc (.cells #[.bool has, .slice ba batch.length bk, .slice va rounds.length vk, .slice da dec.length dk] 28)).alloc (.cells #[.int .i64 0, .int .i64 0, .int .i64 0, .int .i64 0, .int .i64 0, .int .i64 0, .int .i64 0, .int .i64 0, .int .i64 0, .int .i64 0, .int .i64 0, .int .i64 0, .int .i64 0, .int .i64 0, .int .i64 0, .int .i64 0, .int .i64 0, .int .i64 0, .int .i64 0, .int .i64 0, .int .i64 0, .int .i64 0, .int .i64 0, .int .i64 0, .int .i64 0, .bool false, .slice none 0 0, .int .i64 0, .int .i64 0, .int .i64 0] 104)) := by go_grown
  have Rb := Blk.new (w.alloc (.cells #[.bool has, .slice ba batch.length bk, .slice va rounds.length vk, .slice da dec.length dk] 28)) 104 #[.int .i64 0, .int .i64 0, .int .i64 0, .int .i64 0, .int .i64 0, .int .i64 0, .int .i64 0, .int .i64 0, .int .i64 0, .int .i64 0, .int .i64 0, .int .i64 0, .int .i64 0, .int .i64 0, .int .i64 0, .int .i64 0, .int .i64 0, .int .i64 0, .int .i64 0, .int .i64 0, .int .i64 0, .int .i64 0, .int .i64 0, .int .i64 0, .int .i64 0, .bool false, .slice none 0 0, .int .i64 0, .int .i64 0, .int .i64 0]
  simp only [World.size_alloc] at Rb
  have hszB : (Tryz.prog.info? 104).map (·.size) = some BD.toArray.size := by rw [List.size_toArray, hl30]; exact sz_board
  have hszL : (Tryz.prog.info? 104).map (·.size) = some BD.length := by rw [hl30]; exact sz_board
  have hold : (#[.int .i64 0, .int .i64 0, .int .i64 0, .int .i64 0, .int .i64 0, .int .i64 0, .int .i64 0, .int .i64 0, .int .i64 0, .int .i64 0, .int .i64 0, .int .i64 0, .int .i64 0, .int .i64 0, .int .i64 0, .int .i64 0, .int .i64 0, .int .i64 0, .int .i64 0, .int .i64 0, .int .i64 0, .int .i64 0, .int .i64 0, .int .i64 0, .int .i64 0, .bool false, .slice none 0 0, .int .i64 0, .int .i64 0, .int .i64 0] : Array Value).size = BD.toArray.size := (show 30 = BD.length from hl30.symm)
  have hszZ : (Tryz.prog.info? 104).map (·.size) = some (#[.int .i64 0, .int .i64 0, .int .i64 0, .int .i64 0, .int .i64 0, .int .i64 0, .int .i64 0, .int .i64 0, .int .i64 0, .int .i64 0, .int .i64 0, .int .i64 0, .int .i64 0, .int .i64 0, .int .i64 0, .int .i64 0, .int .i64 0, .int .i64 0, .int .i64 0, .int .i64 0, .int .i64 0, .int .i64 0, .int .i64 0, .int .i64 0, .int .i64 0, .bool false, .slice none 0 0, .int .i64 0, .int .i64 0, .int .i64 0] : Array Value).size := by kernel_rfl
  have honeZ : (#[.int .i64 0, .int .i64 0, .int .i64 0, .int .i64 0, .int .i64 0, .int .i64 0, .int .i64 0, .int .i64 0, .int .i64 0, .int .i64 0, .int .i64 0, .int .i64 0, .int .i64 0, .int .i64 0, .int .i64 0, .int .i64 0, .int .i64 0, .int .i64 0, .int .i64 0, .int .i64 0, .int .i64 0, .int .i64 0, .int .i64 0, .int .i64 0, .int .i64 0, .bool false, .slice none 0 0, .int .i64 0, .int .i64 0, .int .i64 0] : Array Value).all (·.oneCell') = true := by kernel_rfl
  go_enter Tryz.func67, Tryz.ntmps67
  go_wp2_with fail
  generalize ((w.alloc (.cells #[.bool has, .slice ba batch.length bk, .slice va rounds.length vk, .slice da dec.length dk] 28)).alloc (.cells #[.int .i64 0, .int .i64 0, .int .i64 0, .int .i64 0, .int .i64 0, .int .i64 0, .int .i64 0, .int .i64 0, .int .i64 0, .int .i64 0, .int .i64 0, .int .i64 0, .int .i64 0, .int .i64 0, .int .i64 0, .int .i64 0, .int .i64 0, .int .i64 0, .int .i64 0, .int .i64 0, .int .i64 0, .int .i64 0, .int .i64 0, .int .i64 0, .int .i64 0, .bool false, .slice none 0 0, .int .i64 0, .int .i64 0, .int .i64 0] 104)) = W at *
  refine (hbo W (hG.below hB) (hrb W hB)).mono ?_
  rintro e w1 ⟨rfl, hb1⟩
  replace hB := hB.trans (hb1.mono hB.size)
  replace Rb := Rb.below hb1
  have Bz := Blk.new w1 104 #[.int .i64 0, .int .i64 0, .int .i64 0, .int .i64 0, .int .i64 0, .int .i64 0, .int .i64 0, .int .i64 0, .int .i64 0, .int .i64 0, .int .i64 0, .int .i64 0, .int .i64 0, .int .i64 0, .int .i64 0, .int .i64 0, .int .i64 0, .int .i64 0, .int .i64 0, .int .i64 0, .int .i64 0, .int .i64 0, .int .i64 0, .int .i64 0, .int .i64 0, .bool false, .slice none 0 0, .int .i64 0, .int .i64 0, .int .i64 0]
  have hB2 := below_row (hB.alloc hB.size (.cells #[.int .i64 0, .int .i64 0, .int .i64 0, .int .i64 0, .int .i64 0, .int .i64 0, .int .i64 0, .int .i64 0, .int .i64 0, .int .i64 0, .int .i64 0, .int .i64 0, .int .i64 0, .int .i64 0, .int .i64 0, .int .i64 0, .int .i64 0, .int .i64 0, .int .i64 0, .int .i64 0, .int .i64 0, .int .i64 0, .int .i64 0, .int .i64 0, .int .i64 0, .bool false, .slice none 0 0, .int .i64 0, .int .i64 0, .int .i64 0] 104)) (g := w1.heap.size) hB.size BD.toArray
  have Rb2 : Blk ((w1.alloc (.cells #[.int .i64 0, .int .i64 0, .int .i64 0, .int .i64 0, .int .i64 0, .int .i64 0, .int .i64 0, .int .i64 0, .int .i64 0, .int .i64 0, .int .i64 0, .int .i64 0, .int .i64 0, .int .i64 0, .int .i64 0, .int .i64 0, .int .i64 0, .int .i64 0, .int .i64 0, .int .i64 0, .int .i64 0, .int .i64 0, .int .i64 0, .int .i64 0, .int .i64 0, .bool false, .slice none 0 0, .int .i64 0, .int .i64 0, .int .i64 0] 104)).setRow w1.heap.size BD.toArray) (w.heap.size + 1) 104 #[.int .i64 0, .int .i64 0, .int .i64 0, .int .i64 0, .int .i64 0, .int .i64 0, .int .i64 0, .int .i64 0, .int .i64 0, .int .i64 0, .int .i64 0, .int .i64 0, .int .i64 0, .int .i64 0, .int .i64 0, .int .i64 0, .int .i64 0, .int .i64 0, .int .i64 0, .int .i64 0, .int .i64 0, .int .i64 0, .int .i64 0, .int .i64 0, .int .i64 0, .bool false, .slice none 0 0, .int .i64 0, .int .i64 0, .int .i64 0] := (setRow_other _ _ _ _ (by have := Rb.lt; omega)).trans (Rb.below ((Below.refl _ _).alloc (Nat.le_refl _) _))
  have B2 := Bz.row BD.toArray
  have hlt2 := Rb.lt
  clear hbo hrb hb1 Rb
  by_cases h0 : C = 0
  case neg =>
    have E1 : Hid (D = C ∧ E = brd0) := HDE.out.1 h0
    have h0' : (C != 0) = true := by simpa using h0
    clear HDE HBD h0 B2
    have Rr := Rb2.row #[.int .i64 0, .int .i64 0, .int .i64 0, .int .i64 0, .int .i64 0, .int .i64 0, .int .i64 0, .int .i64 0, .int .i64 0, .int .i64 0, .int .i64 0, .int .i64 0, .int .i64 0, .int .i64 0, .int .i64 0, .int .i64 0, .int .i64 0, .int .i64 0, .int .i64 0, .int .i64 0, .int .i64 0, .int .i64 0, .int .i64 0, .int .i64 0, .int .i64 0, .bool false, .slice none 0 0, .int .i64 0, .int .i64 0, .int .i64 0]
    have hBr := below_row hB2 (g := w.heap.size + 1) (by omega) #[.int .i64 0, .int .i64 0, .int .i64 0, .int .i64 0, .int .i64 0, .int .i64 0, .int .i64 0, .int .i64 0, .int .i64 0, .int .i64 0, .int .i64 0, .int .i64 0, .int .i64 0, .int .i64 0, .int .i64 0, .int .i64 0, .int .i64 0, .int .i64 0, .int .i64 0, .int .i64 0, .int .i64 0, .int .i64 0, .int .i64 0, .int .i64 0, .int .i64 0, .bool false, .slice none 0 0, .int .i64 0, .int .i64 0, .int .i64 0]
    go_wp2_with (first | (refine st_row (by kernel_rfl) 104 _ _ rfl _ BD.toArray rfl rfl 104 _ Bz hszB hold hone ?_) | (refine st_row (by kernel_rfl) 104 _ _ rfl _ #[.int .i64 0, .int .i64 0, .int .i64 0, .int .i64 0, .int .i64 0, .int .i64 0, .int .i64 0, .int .i64 0, .int .i64 0, .int .i64 0, .int .i64 0, .int .i64 0, .int .i64 0, .int .i64 0, .int .i64 0, .int .i64 0, .int .i64 0, .int .i64 0, .int .i64 0, .int .i64 0, .int .i64 0, .int .i64 0, .int .i64 0, .int .i64 0, .int .i64 0, .bool false, .slice none 0 0, .int .i64 0, .int .i64 0, .int .i64 0] rfl rfl 104 _ Rb2 hszZ rfl honeZ ?_) | (go_at_call 68; refine (within_any _ _ _ _).mono ?_; rintro e w' ⟨rfl, rfl⟩))
    exact bodyPost_ret (v := .tuple #[.agg brd0.toArray, .int .i64 C]) (results_two Tryz.results67 _ _ (w.heap.size + 1) brd0.toArray _ rfl rfl (ld_brd Rr rfl)) rfl ⟨by rw [E1.out.1, E1.out.2], hBr⟩

  case pos =>
    obtain ⟨hBD, hwel, h4⟩ := HBD.out h0
    have c0 : ((w1.alloc (.cells #[.int .i64 0, .int .i64 0, .int .i64 0, .int .i64 0, .int .i64 0, .int .i64 0, .int .i64 0, .int .i64 0, .int .i64 0, .int .i64 0, .int .i64 0, .int .i64 0, .int .i64 0, .int .i64 0, .int .i64 0, .int .i64 0, .int .i64 0, .int .i64 0, .int .i64 0, .int .i64 0, .int .i64 0, .int .i64 0, .int .i64 0, .int .i64 0, .int .i64 0, .bool false, .slice none 0 0, .int .i64 0, .int .i64 0, .int .i64 0] 104)).setRow w1.heap.size BD.toArray).cell? ⟨w1.heap.size, 0, none⟩ = some (.int .i64 (rs.length : Int)) := B2.cell 0 _ (by rw [List.getElem?_toArray, hBD, brd_rnd hwel h4 0 (by omega)]; exact rnd_cnt rs)
    have RGB := rng B2 BD (o := 0) (fun j v hv => by rw [Nat.zero_add, List.getElem?_toArray]; exact hv)
    subst h0
    clear HBD hBD hwel
    have E4 : Hid (((inB node 0 2 && inB round 0 ((rs.length : Int) - 1)) = false → D = 3 ∧ E = brd0) ∧ ((inB node 0 2 && inB round 0 ((rs.length : Int) - 1)) = true → D = 0 ∧ E = BD)) := ⟨HDE.out.2.1 rfl, HDE.out.2.2 rfl⟩
    clear HDE
    cases hN : inB node 0 2 with
    | false =>
      have E1 : Hid (D = 3 ∧ E = brd0) := E4.out.1 (by rw [hN]; rfl)
      clear E4
      have Rr := Rb2.row #[.int .i64 0, .int .i64 0, .int .i64 0, .int .i64 0, .int .i64 0, .int .i64 0, .int .i64 0, .int .i64 0, .int .i64 0, .int .i64 0, .int .i64 0, .int .i64 0, .int .i64 0, .int .i64 0, .int .i64 0, .int .i64 0, .int .i64 0, .int .i64 0, .int .i64 0, .int .i64 0, .int .i64 0, .int .i64 0, .int .i64 0, .int .i64 0, .int .i64 0, .bool false, .slice none 0 0, .int .i64 0, .int .i64 0, .int .i64 0]
      have hBr := below_row hB2 (g := w.heap.size + 1) (by omega) #[.int .i64 0, .int .i64 0, .int .i64 0, .int .i64 0, .int .i64 0, .int .i64 0, .int .i64 0, .int .i64 0, .int .i64 0, .int .i64 0, .int .i64 0, .int .i64 0, .int .i64 0, .int .i64 0, .int .i64 0, .int .i64 0, .int .i64 0, .int .i64 0, .int .i64 0, .int .i64 0, .int .i64 0, .int .i64 0, .int .i64 0, .int .i64 0, .int .i64 0, .bool false, .slice none 0 0, .int .i64 0, .int .i64 0, .int .i64 0]
      go_wp2_with (first | (refine st_row (by kernel_rfl) 104 _ _ rfl _ BD.toArray rfl rfl 104 _ Bz hszB hold hone ?_) | (refine st_row (by kernel_rfl) 104 _ _ rfl _ #[.int .i64 0, .int .i64 0, .int .i64 0, .int .i64 0, .int .i64 0, .int .i64 0, .int .i64 0, .int .i64 0, .int .i64 0, .int .i64 0, .int .i64 0, .int .i64 0, .int .i64 0, .int .i64 0, .int .i64 0, .int .i64 0, .int .i64 0, .int .i64 0, .int .i64 0, .int .i64 0, .int .i64 0, .int .i64 0, .int .i64 0, .int .i64 0, .int .i64 0, .bool false, .slice none 0 0, .int .i64 0, .int .i64 0, .int .i64 0] rfl rfl 104 _ Rb2 hszZ rfl honeZ ?_) | (go_at_call 68; refine (within_any _ _ _ _).mono ?_; rintro e w' ⟨rfl, rfl⟩))
      exact bodyPost_ret (v := .tuple #[.agg brd0.toArray, .int .i64 3]) (results_two Tryz.results67 _ _ (w.heap.size + 1) brd0.toArray _ rfl rfl (ld_brd Rr rfl)) rfl ⟨by rw [E1.out.1, E1.out.2], hBr⟩

    | true =>
      cases hR : inB round 0 ((rs.length : Int) - 1) with
      | false =>
        have E1 : Hid (D = 3 ∧ E = brd0) := E4.out.1 (by rw [hN, hR]; rfl)
        clear E4
        have Rr := Rb2.row #[.int .i64 0, .int .i64 0, .int .i64 0, .int .i64 0, .int .i64 0, .int .i64 0, .int .i64 0, .int .i64 0, .int .i64 0, .int .i64 0, .int .i64 0, .int .i64 0, .int .i64 0, .int .i64 0, .int .i64 0, .int .i64 0, .int .i64 0, .int .i64 0, .int .i64 0, .int .i64 0, .int .i64 0, .int .i64 0, .int .i64 0, .int .i64 0, .int .i64 0, .bool false, .slice none 0 0, .int .i64 0, .int .i64 0, .int .i64 0]
        have hBr := below_row hB2 (g := w.heap.size + 1) (by omega) #[.int .i64 0, .int .i64 0, .int .i64 0, .int .i64 0, .int .i64 0, .int .i64 0, .int .i64 0, .int .i64 0, .int .i64 0, .int .i64 0, .int .i64 0, .int .i64 0, .int .i64 0, .int .i64 0, .int .i64 0, .int .i64 0, .int .i64 0, .int .i64 0, .int .i64 0, .int .i64 0, .int .i64 0, .int .i64 0, .int .i64 0, .int .i64 0, .int .i64 0, .bool false, .slice none 0 0, .int .i64 0, .int .i64 0, .int .i64 0]
        go_wp2_with (first | (refine st_row (by kernel_rfl) 104 _ _ rfl _ BD.toArray rfl rfl 104 _ Bz hszB hold hone ?_) | (refine st_row (by kernel_rfl) 104 _ _ rfl _ #[.int .i64 0, .int .i64 0, .int .i64 0, .int .i64 0, .int .i64 0, .int .i64 0, .int .i64 0, .int .i64 0, .int .i64 0, .int .i64 0, .int .i64 0, .int .i64 0, .int .i64 0, .int .i64 0, .int .i64 0, .int .i64 0, .int .i64 0, .int .i64 0, .int .i64 0, .int .i64 0, .int .i64 0, .int .i64 0, .int .i64 0, .int .i64 0, .int .i64 0, .bool false, .slice none 0 0, .int .i64 0, .int .i64 0, .int .i64 0] rfl rfl 104 _ Rb2 hszZ rfl honeZ ?_) | (go_at_call 68; refine (within_any _ _ _ _).mono ?_; rintro e w' ⟨rfl, rfl⟩))
        exact bodyPost_ret (v := .tuple #[.agg brd0.toArray, .int .i64 3]) (results_two Tryz.results67 _ _ (w.heap.size + 1) brd0.toArray _ rfl rfl (ld_brd Rr rfl)) rfl ⟨by rw [E1.out.1, E1.out.2], hBr⟩

      | true =>
        have E1 : Hid (D = 0 ∧ E = BD) := E4.out.2 (by rw [hN, hR]; rfl)
        clear E4
        have Rr := Rb2.row BD.toArray
        have hBr := below_row hB2 (g := w.heap.size + 1) (by omega) BD.toArray
        go_wp2_with (first | (refine st_row (by kernel_rfl) 104 _ _ rfl _ BD.toArray rfl rfl 104 _ Bz hszB hold hone ?_) | (refine st_row (by kernel_rfl) 104 _ _ rfl _ BD.toArray rfl rfl 104 _ Rb2 hszB hold hone ?_) | (refine ld_g (by kernel_rfl) 104 _ rfl _ _ rfl BD _ RGB Tryz.underlying104 rfl hszL ?_) | (go_at_call 68; refine (within_any _ _ _ _).mono ?_; rintro e w' ⟨rfl, rfl⟩))
        exact bodyPost_ret (v := .tuple #[.agg BD.toArray, .int .i64 0]) (results_two Tryz.results67 _ _ (w.heap.size + 1) BD.toArray _ rfl rfl (ld_brd Rr hl30)) rfl ⟨by rw [E1.out.1, E1.out.2], hBr⟩

end Go.Proofs.YtpjmlidbligcbaaGreatDoor
