/- InstanceFault and OutcomeOf, of the program and of its model. -/
import Derived.Test.YtmlkfmjenkcflaaGreatDoorI6i
namespace Go.Proofs.YtmlkfmjenkcflaaGreatDoor
open Go.RowKit
open Go.BigFrame
set_option linter.unusedVariables false
set_option maxRecDepth 100000
set_option linter.unusedSimpArgs false

/-- The board that boardOf answers. -/
def bdOf (p : InstQ) : List Value := if insF p.e = 0 then brdC p.has p.vb p.e.rounds p.dec else brd0
theorem ins_zero {x : InstE} (h : insF x = 0) : shpF x = 0 ∧ rgtI x = true := by
  unfold insF at h
  by_cases h0 : shpF x = 0
  · rw [if_pos h0] at h
    refine ⟨h0, ?_⟩
    by_cases h1 : rgtI x = true
    · exact h1
    · rw [if_neg h1] at h
      simp at h
  · rw [if_neg h0] at h
    exact absurd h h0
/-- What a right instance is like. -/
theorem ins_ok {x : InstE} (h : insF x = 0) : Wel x.rounds ∧ (1 ≤ x.rounds.length ∧ x.rounds.length ≤ 4) ∧ x.dec.length = 3 ∧ rndsF x.rounds = 0 ∧ vf x.dec 1 = 0 := by
  obtain ⟨h0, _⟩ := ins_zero h
  obtain ⟨h1, h2, h3, _⟩ := shp_zero h0
  exact ⟨wel_of h2, h1, vf_len h3, h2, h3⟩
theorem brd_one {has : Bool} {vb : Value} {rs : List RoundE} {dec : List Int} (hv : vb.oneCell' = true) : (brdC has vb rs dec).toArray.all (·.oneCell') = true := all_oneCell_toArray (fun v hm => by
  simp only [brdC, rndC, rowsV, List.mem_append, List.mem_cons, List.mem_flatMap, List.mem_replicate, List.mem_map, rowC, List.not_mem_nil, or_false] at hm
  rcases hm with (rfl | ⟨r, _, z, _, rfl⟩ | ⟨_, rfl⟩) | (rfl | rfl) | ⟨z, _, rfl⟩ <;> first | rfl | exact hv)
theorem bd_ok {w : World} {p : InstQ} (h : instK.rd w p) : (bdOf p).length = 30 ∧ (bdOf p).toArray.all (·.oneCell') = true := by
  unfold bdOf
  by_cases h0 : insF p.e = 0
  · rw [if_pos h0]
    obtain ⟨h1, h2, h3, _⟩ := ins_ok h0
    refine ⟨brdC_length h1 h2.2 h3, brd_one ?_⟩
    obtain ⟨a, c, e⟩ := h.1.shape
    rw [e]; rfl
  · rw [if_neg h0]
    exact ⟨rfl, by kernel_rfl⟩

set_option maxHeartbeats 2000000 in
theorem implInstanceFault_any (p : InstQ) (w : World) (hG : Rul w) (h : instK.rd w p) (hl : p.n ≤ 1048576) :
    Calls Tryz.prog 17 #[.agg #[.bool p.has, p.vb, p.vr, p.vd]] w fun e w' => e = .returned (.int .i64 (insF p.e)) ∧ Below w.heap.size w w' := by
  obtain ⟨hl30, hone⟩ := bd_ok h
  have hbo := fun w hG h => boardOf_any p w hG h hl
  have hrb := fun (w' : World) hb => instK.rd_below (w' := w') h hb
  change ∀ w hG h, Calls _ _ _ _ fun e w' => e = .returned (.tuple #[.agg (bdOf p).toArray, _]) ∧ _ at hbo
  generalize bdOf p = BD at *
  generalize insF p.e = C at *
  obtain ⟨has, vb, batch, vr, rounds, vd, dec⟩ := p
  obtain ⟨ba, bk, rfl⟩ : ∃ a c, vb = .slice a batch.length c := h.1.shape
  obtain ⟨va, vk, rfl⟩ : ∃ a c, vr = .slice a rounds.length c := h.2.1.shape
  obtain ⟨da, dk, rfl⟩ : ∃ a c, vd = .slice a dec.length c := h.2.2.shape
  dsimp only at hbo hrb
  have hB : Below w.heap.size w (w.alloc (.cells #[.bool has, .slice ba batch.length bk, .slice va rounds.length vk, .slice da dec.length dk] 32)) := by go_grown
  have hszB : (Tryz.prog.info? 76).map (·.size) = some BD.toArray.size := by rw [List.size_toArray, hl30]; exact sz_board
  have hold : (#[.int .i64 0, .int .i64 0, .int .i64 0, .int .i64 0, .int .i64 0, .int .i64 0, .int .i64 0, .int .i64 0, .int .i64 0, .int .i64 0, .int .i64 0, .int .i64 0, .int .i64 0, .int .i64 0, .int .i64 0, .int .i64 0, .int .i64 0, .int .i64 0, .int .i64 0, .int .i64 0, .int .i64 0, .int .i64 0, .int .i64 0, .int .i64 0, .int .i64 0, .bool false, .slice none 0 0, .int .i64 0, .int .i64 0, .int .i64 0] : Array Value).size = BD.toArray.size := (show 30 = BD.length from hl30.symm)
  go_enter Tryz.func17, Tryz.ntmps17
  go_wp2_with fail
  generalize w.alloc (.cells #[.bool has, .slice ba batch.length bk, .slice va rounds.length vk, .slice da dec.length dk] 32) = W at *
  refine (hbo W (hG.below hB) (hrb W hB)).mono ?_
  rintro e w1 ⟨rfl, hb1⟩
  replace hB := hB.trans (hb1.mono hB.size)
  have Bz := Blk.new w1 76 #[.int .i64 0, .int .i64 0, .int .i64 0, .int .i64 0, .int .i64 0, .int .i64 0, .int .i64 0, .int .i64 0, .int .i64 0, .int .i64 0, .int .i64 0, .int .i64 0, .int .i64 0, .int .i64 0, .int .i64 0, .int .i64 0, .int .i64 0, .int .i64 0, .int .i64 0, .int .i64 0, .int .i64 0, .int .i64 0, .int .i64 0, .int .i64 0, .int .i64 0, .bool false, .slice none 0 0, .int .i64 0, .int .i64 0, .int .i64 0]
  have hB2 := below_row (hB.alloc hB.size (.cells #[.int .i64 0, .int .i64 0, .int .i64 0, .int .i64 0, .int .i64 0, .int .i64 0, .int .i64 0, .int .i64 0, .int .i64 0, .int .i64 0, .int .i64 0, .int .i64 0, .int .i64 0, .int .i64 0, .int .i64 0, .int .i64 0, .int .i64 0, .int .i64 0, .int .i64 0, .int .i64 0, .int .i64 0, .int .i64 0, .int .i64 0, .int .i64 0, .int .i64 0, .bool false, .slice none 0 0, .int .i64 0, .int .i64 0, .int .i64 0] 76)) (g := w1.heap.size) hB.size BD.toArray
  clear hbo hrb hb1
  go_wp2_with (refine st_row (by kernel_rfl) 76 _ _ rfl _ BD.toArray rfl rfl 76 _ Bz hszB hold hone ?_)
  go_ret
  exact ⟨rfl, hB2⟩

/-- What the first one that decided decided, or that none did. -/
def outV : List Int → Int
  | [] => 3
  | x :: r => if x = 3 then outV r else x
theorem outV_at (L : List Int) : ∀ k, (∀ j, j < k → L.getD j 0 = 3) → k < L.length → L.getD k 0 ≠ 3 → outV L = L.getD k 0 := by
  induction L with
  | nil => intro k _ h; simp at h
  | cons x r ih =>
    intro k h0 hk hne
    cases k with
    | zero => simp [List.getD] at hne ⊢; simp [outV, hne]
    | succ k =>
      have hx : x = 3 := by simpa [List.getD] using h0 0 (by omega)
      have := ih k (fun j hj => by simpa [List.getD] using h0 (j + 1) (by omega)) (by simpa using hk) (by simpa [List.getD] using hne)
      simp only [outV, hx, if_true]
      rw [this]
      simp [List.getD]
theorem outV_none (L : List Int) (h : ∀ j, j < L.length → L.getD j 0 = 3) : outV L = 3 := by
  induction L with
  | nil => rfl
  | cons x r ih =>
    have hx : x = 3 := by simpa [List.getD] using h 0 (by simp)
    simp only [outV, hx, if_true]
    exact ih (fun j hj => by simpa [List.getD] using h (j + 1) (by simpa using hj))
/-- OutcomeOf: code and value. -/
def ocC (x : InstE) : Int := if insF x = 0 then (if outV x.dec = 3 then 4 else 0) else insF x
def ocV (x : InstE) : Int := if insF x = 0 then (if outV x.dec = 3 then 0 else outV x.dec) else 0

end Go.Proofs.YtmlkfmjenkcflaaGreatDoor
