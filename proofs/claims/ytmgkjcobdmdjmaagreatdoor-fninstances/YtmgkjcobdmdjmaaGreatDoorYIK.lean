/- Texts joined, with what the law reaches alone. -/
import Derived.Test.YtmgkjcobdmdjmaaGreatDoorYIJ
namespace Go.Proofs.YtmgkjcobdmdjmaaGreatDoor
open Go.RowKit
open Go.BigFrame
set_option linter.unusedVariables false
set_option maxRecDepth 100000
set_option linter.unusedSimpArgs false
/-- The variable openRow is as the program's text lays it. -/
def Opn (w : World) : Prop := ∀ j, j < 3 → w.cell? ⟨0, j, none⟩ = some (.int .i64 3)

theorem Opn.below {w w' : World} (h : Opn w) (hb : Below w.heap.size w w') : Opn w' := fun j hj => cellB (h j hj) hb

structure RulO (w : World) : Prop where
 r : Rul w
 o : Opn w

theorem RulO.below {w w' : World} (h : RulO w) (hb : Below w.heap.size w w') : RulO w' := ⟨h.r.below hb, h.o.below hb⟩

theorem Opn.range {w : World} (h : Opn w) : w.rangeAt 0 0 [.int .i64 3, .int .i64 3, .int .i64 3] := fun j v hv => by
 rw [Nat.zero_add]
 match j, hv with
 | 0, hv => simp at hv; subst hv; exact h 0 (by omega)
 | 1, hv => simp at hv; subst hv; exact h 1 (by omega)
 | 2, hv => simp at hv; subst hv; exact h 2 (by omega)

/-- An open round; the round behind the last one comes to be. -/
def opn3 : RoundE := ⟨[3, 3, 3], [3, 3, 3]⟩

def ensR (rs : List RoundE) (r : Nat) : List RoundE := if r = rs.length then rs ++ [opn3] else rs

theorem ensR_lt (rs : List RoundE) (r : Nat) (hr : r ≤ rs.length) : r < (ensR rs r).length := by
 unfold ensR
 split
 ·simp; omega
 ·omega

theorem ensR_wel {rs : List RoundE} (h : Wel rs) (r : Nat) : Wel (ensR rs r) := by
 unfold ensR
 split
 ·intro x hx
  rcases List.mem_append.1 hx with hx | hx
  ·exact h x hx
  ·simp only [List.mem_singleton] at hx
   subst hx
   exact ⟨rfl, rfl⟩
 ·exact h

theorem ensR_le (rs : List RoundE) (r : Nat) (h4 : rs.length ≤ 4) (hr : r < 4) : (ensR rs r).length ≤ 4 := by
 unfold ensR
 split
 ·simp; omega
 ·exact h4

set_option maxHeartbeats 4000000 in
theorem report_any (b : Nat) (t : TypeId) (rs : List RoundE) (tail : List Value) (r n : Nat) (v : Int) (w : World) (hO : Opn w) (hB : Blk w b t (rndC rs ++ tail).toArray) (h : Wel rs) (h4 : rs.length ≤ 4) (hr : r ≤ rs.length) (hr4 : r < 4) (hn : n < 3) :
  Calls Tryz.prog 69 #[.pointer (some ⟨b, 0, none⟩), .int .i64 (r : Int), .int .i64 (n : Int), .int .i64 v] w fun e w' => e = .returned (.tuple #[]) ∧ Blk w' b t (rndC (rstR (ensR rs r) r n v) ++ tail).toArray ∧ Out [b] w w' := by
 have c0 : w.cell? ⟨b, 0, none⟩ = some (.int .i64 (rs.length : Int)) := hB.cell 0 _ rfl
 have hn3 : (n : Int) < 3 := by omega
 have hri : (r : Int) < 4 := by omega
 by_cases he : r = rs.length
 ·have ee : ensR rs r = rs ++ [opn3] := if_pos he
  have had : Calls Tryz.prog 87 #[.pointer (some ⟨b, 0, none⟩), .agg #[.int .i64 3, .int .i64 3, .int .i64 3, .int .i64 3, .int .i64 3, .int .i64 3]] w _ := addRound_any b t rs tail opn3 w hB h ⟨rfl, rfl⟩ (by omega)
  have hq : ((r : Int) == (rs.length : Int)) = true := by rw [he]; simp
  have hOr := hO.range
  have hw5 : Wel (rs ++ [opn3]) := by rw [← ee]; exact ensR_wel h r
  have hl5 : (rs ++ [opn3]).length = rs.length + 1 := by simp
  have hlr := rndC_length hw5 (by omega)
  have hrr : r < (rs ++ [opn3]).length := by omega
  have hrep := rnd_rep hw5 r hrr n hn
  have hset := rnd_setR hw5 r hrr n hn v
  rw [ee]
  have HSET : Hid ((rndC (rs ++ [opn3])).set (1 + r * 6 + n) (iv v) = rndC (rstR (rs ++ [opn3]) r n v)) := hset
  have HREP : Hid ((rndC (rs ++ [opn3]))[1 + r * 6 + n]? = some (iv (repA (rs ++ [opn3]) r n))) := hrep
  have HLR : Hid ((rndC (rs ++ [opn3])).length = 25) := hlr
  clear hset hrep hlr hl5 hw5 hrr he ee
  generalize rndC (rstR (rs ++ [opn3]) r n v) = ds at *
  generalize rndC (rs ++ [opn3]) = es at *
  go_enter Tryz.func69, Tryz.ntmps69
  go_wp2_with (first | (refine ld_g (by kernel_rfl) 89 _ rfl _ _ rfl [.int .i64 3, .int .i64 3, .int .i64 3] _ hOr Tryz.underlying89 rfl sz_row ?_))
  refine had.mono ?_
  rintro e w2 ⟨rfl, hB2, hU⟩
  have hi : 1 + r * 6 + n < (es ++ tail).length := by rw [List.length_append, HLR.out]; omega
  have hcc : w2.cell? ⟨b, 1 + r * 6 + n, none⟩ = some _ := hB2.cell (1 + r * 6 + n) _ (by rw [List.getElem?_toArray, List.getElem?_append_left (by rw [HLR.out]; omega)]; exact HREP.out)
  have hcf := hB2.frozen (1 + r * 6 + n)
  have hB5 := hB2.set (1 + r * 6 + n) (iv v)
  rw [List.setIfInBounds_toArray, List.set_append_left _ _ (by rw [HLR.out]; omega), HSET.out] at hB5
  have hU5 := hU.set (b := b) (j := 1 + r * 6 + n) (u := iv v) (by simp)
  have HF : Hid (Blk _ b t (ds ++ tail).toArray ∧ Out [b] w _) := And.intro hB5 hU5
  clear had c0 hq hOr hB hB2 hU hU5 hB5 HSET HREP HLR hi
  go_wp2
  go_end0
  exact ⟨rfl, HF.out⟩
 ·have ee : ensR rs r = rs := if_neg he
  have hq : ((r : Int) == (rs.length : Int)) = false := by simp; omega
  have hrr : r < rs.length := by omega
  have hlr := rndC_length h h4
  have hrep := rnd_rep h r hrr n hn
  have hset := rnd_setR h r hrr n hn v
  rw [ee]
  have hcc : w.cell? ⟨b, 1 + r * 6 + n, none⟩ = some _ := hB.cell (1 + r * 6 + n) _ (by rw [List.getElem?_toArray, List.getElem?_append_left (by rw [hlr]; omega)]; exact hrep)
  have hcf := hB.frozen (1 + r * 6 + n)
  have hB5 := hB.set (1 + r * 6 + n) (iv v)
  rw [List.setIfInBounds_toArray, List.set_append_left _ _ (by rw [hlr]; omega), hset] at hB5
  have hU5 := (Out.refl [b] w).set (b := b) (j := 1 + r * 6 + n) (u := iv v) (by simp)
  have HF : Hid (Blk _ b t (rndC (rstR rs r n v) ++ tail).toArray ∧ Out [b] w _) := And.intro hB5 hU5
  clear hset hrep hlr hB hU5 hB5 ee he
  go_enter Tryz.func69, Tryz.ntmps69
  go_wp2
  go_end0
  exact ⟨rfl, HF.out⟩

end Go.Proofs.YtmgkjcobdmdjmaaGreatDoor
namespace Go.Proofs.YtmgkjcobdmdjmaaGreatDoor
open Go.RowKit
open Go.BigFrame
set_option linter.unusedVariables false
set_option maxRecDepth 100000
set_option linter.unusedSimpArgs false
/-- FirstReport, plainly: its code, and its instance. -/
def frC (x : InstE) (node value : Int) : Int := if atC x node 0 = 0 then (if inB value 0 1 then (if repA x.rounds 0 node.toNat = 3 then (if value = 1 ∧ x.has = false then 10 else 0) else 6) else 3) else atC x node 0

def frI (x : InstE) (node value : Int) : InstE := if frC x node value = 0 then ⟨x.has, x.batch, rstR x.rounds 0 node.toNat value, x.dec⟩ else ine0

theorem fr_facts (x : InstE) (node value : Int) : (atC x node 0 ≠ 0 → frC x node value = atC x node 0 ∧ frI x node value = ine0) ∧
  (atC x node 0 = 0 → insF x = 0 ∧ ∃ n : Nat, node = (n : Int) ∧ n < 3 ∧ 0 < x.rounds.length ∧
   (inB value 0 1 = false → frC x node value = 3 ∧ frI x node value = ine0) ∧
   (inB value 0 1 = true → repA x.rounds 0 n ≠ 3 → frC x node value = 6 ∧ frI x node value = ine0) ∧
   (inB value 0 1 = true → repA x.rounds 0 n = 3 → value = 1 → x.has = false → frC x node value = 10 ∧ frI x node value = ine0) ∧
   (inB value 0 1 = true → repA x.rounds 0 n = 3 → ¬ (value = 1 ∧ x.has = false) → frC x node value = 0 ∧ frI x node value = ⟨x.has, x.batch, rstR x.rounds 0 n value, x.dec⟩)) := by
 have hne : ∀ c, frC x node value = c → c ≠ 0 → frI x node value = ine0 := fun c hc h0 => if_neg (by rw [hc]; exact h0)
 refine ⟨fun h0 => ?_, fun h0 => ?_⟩
 ·have e : frC x node value = atC x node 0 := if_neg h0
  exact ⟨e, hne _ e h0⟩
 ·obtain ⟨hi, n, r, rfl, hr0, hn, hr⟩ := at_zero h0
  refine ⟨hi, n, rfl, hn, by omega, fun h1 => ?_, fun h1 h2 => ?_, fun h1 h2 h3 h4 => ?_, fun h1 h2 h3 => ?_⟩
  ·have e : frC x n value = 3 := by unfold frC; rw [if_pos h0, h1]; rfl
   exact ⟨e, hne _ e (by decide)⟩
  ·have e : frC x n value = 6 := by unfold frC; rw [if_pos h0, h1, if_pos rfl, Int.toNat_natCast, if_neg h2]
   exact ⟨e, hne _ e (by decide)⟩
  ·have e : frC x n value = 10 := by unfold frC; rw [if_pos h0, h1, if_pos rfl, Int.toNat_natCast, if_pos h2, if_pos ⟨h3, h4⟩]
   exact ⟨e, hne _ e (by decide)⟩
  ·have e : frC x n value = 0 := by unfold frC; rw [if_pos h0, h1, if_pos rfl, Int.toNat_natCast, if_pos h2, if_neg h3]
   exact ⟨e, by unfold frI; rw [if_pos e, Int.toNat_natCast]⟩

set_option maxHeartbeats 4000000 in
theorem implFirstReport_any (p : InstQ) (node value : Int) (w : World) (hG : RulO w) (h : instK.rd w p) (hl : p.n ≤ 1048576) :
  Calls Tryz.prog 14 #[.agg #[.bool p.has, p.vb, p.vr, p.vd], .int .i64 node, .int .i64 value] w fun e w' => ∃ q : InstQ, e = .returned (.agg (resC (frC p.e node value) 0 false false 0 q)) ∧ q.e = frI p.e node value ∧ instK.own w' q ∧ (instK.foot q).Nodup ∧ (∀ k ∈ instK.foot q, w.heap.size ≤ k) ∧ Below w.heap.size w w' := by
 obtain ⟨hl30, hone⟩ := bdAt_ok node 0 h
 have hbo := fun w hG h => boardAt_any p node 0 w hG h hl
 have hrb := fun (w' : World) hb => instK.rd_below (w' := w') h hb
 have hTx : txnK.At w p.vb p.batch := h.1
 have hin := fun (h0 : insF p.e = 0) (rs : List RoundE) (dec : List Int) w (hT : txnK.At w p.vb p.batch) hw h4 h3 => instance_any p.has p.vb p.batch rs dec w hT (ins_low h0).1 (by unfold InstQ.n at hl; omega) hw h4 h3
 have HBD : Hid (atC p.e node 0 = 0 → bdAt p node 0 = brdC p.has p.vb p.e.rounds p.dec ∧ Wel p.e.rounds ∧ p.e.rounds.length ≤ 4 ∧ p.dec.length = 3) := bdAt_zero
 have HF := fr_facts p.e node value
 rw [show p.e.has = p.has from rfl, show p.e.batch = p.batch.map TxnQ.e from rfl, show p.e.dec = p.dec from rfl] at HF
 generalize frC p.e node value = D at *
 generalize frI p.e node value = E at *
 generalize insF p.e = IF at *
 generalize bdAt p node 0 = BD at *
 generalize atC p.e node 0 = C at *
 generalize p.e.rounds = rs at *
 replace HF : Hid _ := HF
 obtain ⟨has, vb, batch, vr, rounds, vd, dec⟩ := p
 obtain ⟨ba, bk, rfl⟩ : ∃ a c, vb = .slice a batch.length c := h.1.shape
 obtain ⟨va, vk, rfl⟩ : ∃ a c, vr = .slice a rounds.length c := h.2.1.shape
 obtain ⟨da, dk, rfl⟩ : ∃ a c, vd = .slice a dec.length c := h.2.2.shape
 dsimp only at hbo hrb HBD HF hin hTx
 have hB : Below w.heap.size w ((w.alloc (.cells #[.bool has, .slice ba batch.length bk, .slice va rounds.length vk, .slice da dec.length dk] 28)).alloc (.cells #[.int .i64 0, .int .i64 0, .bool false, .bool false, .int .i64 0, .bool false, .slice none 0 0, .slice none 0 0, .slice none 0 0] 34)) := by go_grown
 have Rb := Blk.new (w.alloc (.cells #[.bool has, .slice ba batch.length bk, .slice va rounds.length vk, .slice da dec.length dk] 28)) 34 #[.int .i64 0, .int .i64 0, .bool false, .bool false, .int .i64 0, .bool false, .slice none 0 0, .slice none 0 0, .slice none 0 0]
 simp only [World.size_alloc] at Rb
 have hszB : (Tryz.prog.info? 96).map (·.size) = some BD.toArray.size := by rw [List.size_toArray, hl30]; exact sz_board
 have hold : (#[.int .i64 0, .int .i64 0, .int .i64 0, .int .i64 0, .int .i64 0, .int .i64 0, .int .i64 0, .int .i64 0, .int .i64 0, .int .i64 0, .int .i64 0, .int .i64 0, .int .i64 0, .int .i64 0, .int .i64 0, .int .i64 0, .int .i64 0, .int .i64 0, .int .i64 0, .int .i64 0, .int .i64 0, .int .i64 0, .int .i64 0, .int .i64 0, .int .i64 0, .bool false, .slice none 0 0, .int .i64 0, .int .i64 0, .int .i64 0] : Array Value).size = BD.toArray.size := (show 30 = BD.length from hl30.symm)
 go_enter Tryz.func14, Tryz.ntmps14
 go_wp2_with fail
 generalize ((w.alloc (.cells #[.bool has, .slice ba batch.length bk, .slice va rounds.length vk, .slice da dec.length dk] 28)).alloc (.cells #[.int .i64 0, .int .i64 0, .bool false, .bool false, .int .i64 0, .bool false, .slice none 0 0, .slice none 0 0, .slice none 0 0] 34)) = W at *
 refine (hbo W (hG.r.below hB) (hrb W hB)).mono ?_
 rintro e w1 ⟨rfl, hb1⟩
 replace hB := hB.trans (hb1.mono hB.size)
 replace Rb := Rb.below hb1
 have Bz := Blk.new w1 96 #[.int .i64 0, .int .i64 0, .int .i64 0, .int .i64 0, .int .i64 0, .int .i64 0, .int .i64 0, .int .i64 0, .int .i64 0, .int .i64 0, .int .i64 0, .int .i64 0, .int .i64 0, .int .i64 0, .int .i64 0, .int .i64 0, .int .i64 0, .int .i64 0, .int .i64 0, .int .i64 0, .int .i64 0, .int .i64 0, .int .i64 0, .int .i64 0, .int .i64 0, .bool false, .slice none 0 0, .int .i64 0, .int .i64 0, .int .i64 0]
 have hB2 := below_row (hB.alloc hB.size (.cells #[.int .i64 0, .int .i64 0, .int .i64 0, .int .i64 0, .int .i64 0, .int .i64 0, .int .i64 0, .int .i64 0, .int .i64 0, .int .i64 0, .int .i64 0, .int .i64 0, .int .i64 0, .int .i64 0, .int .i64 0, .int .i64 0, .int .i64 0, .int .i64 0, .int .i64 0, .int .i64 0, .int .i64 0, .int .i64 0, .int .i64 0, .int .i64 0, .int .i64 0, .bool false, .slice none 0 0, .int .i64 0, .int .i64 0, .int .i64 0] 96)) (g := w1.heap.size) hB.size BD.toArray
 have Rb2 : Blk ((w1.alloc (.cells #[.int .i64 0, .int .i64 0, .int .i64 0, .int .i64 0, .int .i64 0, .int .i64 0, .int .i64 0, .int .i64 0, .int .i64 0, .int .i64 0, .int .i64 0, .int .i64 0, .int .i64 0, .int .i64 0, .int .i64 0, .int .i64 0, .int .i64 0, .int .i64 0, .int .i64 0, .int .i64 0, .int .i64 0, .int .i64 0, .int .i64 0, .int .i64 0, .int .i64 0, .bool false, .slice none 0 0, .int .i64 0, .int .i64 0, .int .i64 0] 96)).setRow w1.heap.size BD.toArray) (w.heap.size + 1) 34 #[.int .i64 0, .int .i64 0, .bool false, .bool false, .int .i64 0, .bool false, .slice none 0 0, .slice none 0 0, .slice none 0 0] := (setRow_other _ _ _ _ (by have := Rb.lt; omega)).trans (Rb.below ((Below.refl _ _).alloc (Nat.le_refl _) _))
 have B2 := Bz.row BD.toArray
 have hlt2 : w.heap.size + 1 < w1.heap.size := Rb.lt
 clear hbo hrb hb1 Rb
 by_cases h0 : C = 0
 case neg =>
  have E1 : Hid (D = C ∧ E = ine0) := HF.out.1 h0
  have h0' : (C != 0) = true := by simpa using h0
  clear HF HBD h0 B2 hin
  have Rr := Rb2.row #[.int .i64 C, .int .i64 0, .bool false, .bool false, .int .i64 0, .bool false, .slice none 0 0, .slice none 0 0, .slice none 0 0]
  have hBr := below_row hB2 (g := w.heap.size + 1) (by omega) #[.int .i64 C, .int .i64 0, .bool false, .bool false, .int .i64 0, .bool false, .slice none 0 0, .slice none 0 0, .slice none 0 0]
  have hsr : (Tryz.prog.info? 34).map (·.size) = some (#[.int .i64 C, .int .i64 0, .bool false, .bool false, .int .i64 0, .bool false, .slice none 0 0, .slice none 0 0, .slice none 0 0] : Array Value).size := sz_res
  go_wp2_with (first | (refine st_row (by kernel_rfl) 96 _ _ rfl _ BD.toArray rfl rfl 96 _ Bz hszB hold hone ?_) | (refine st_row (by kernel_rfl) 34 _ _ rfl _ #[.int .i64 C, .int .i64 0, .bool false, .bool false, .int .i64 0, .bool false, .slice none 0 0, .slice none 0 0, .slice none 0 0] rfl rfl 34 _ Rb2 hsr rfl (by simp [Value.oneCell']) ?_))
  have q0 := Rr.cell 0 _ rfl
  have q1 := Rr.cell 1 _ rfl
  have q2 := Rr.cell 2 _ rfl
  have q3 := Rr.cell 3 _ rfl
  have q4 := Rr.cell 4 _ rfl
  have q5 := Rr.cell 5 _ rfl
  have q6 := Rr.cell 6 _ rfl
  have q7 := Rr.cell 7 _ rfl
  have q8 := Rr.cell 8 _ rfl
  exact bodyPost_ret (v := .agg #[.int .i64 C, .int .i64 0, .bool false, .bool false, .int .i64 0, .bool false, .slice none 0 0, .slice none 0 0, .slice none 0 0]) (by simp [results, Tryz.results14, go_sem, q0, q1, q2, q3, q4, q5, q6, q7, q8]) rfl ⟨inst0, by rw [E1.out.1]; rfl, E1.out.2.symm, inst0_own _, inst0_nd, fun k hk => by rw [inst0_ft] at hk; simp at hk, hBr⟩

 case pos =>
  obtain ⟨hBD, hwel, h4, hd3⟩ := HBD.out h0
  obtain ⟨hi0, n, rfl, hn, hr, f3, f6, f10, f0⟩ := HF.out.2 h0
  have H0 : Hid (IF = 0) := hi0
  have HB9 : Hid (BD = brdC has (.slice ba batch.length bk) rs dec) := hBD
  have HD5 : Hid (dec.length = 3) := hd3
  have F3 : Hid _ := f3
  have F6 : Hid _ := f6
  have F10 : Hid _ := f10
  have F0 : Hid _ := f0
  subst h0
  clear HBD hBD hd3 hi0 f3 f6 f10 f0 HF
  have hsR : (Tryz.prog.info? 94).map (·.size) = some (rndC rs).length := by rw [rndC_length hwel h4]; exact sz_rounds
  cases hV : inB value 0 1 with
  | false =>
   have E1 : Hid (D = 3 ∧ E = ine0) := F3.out hV
   clear F3 F6 F10 F0 hin B2 HB9 hsR
   have Rr := Rb2.row #[.int .i64 3, .int .i64 0, .bool false, .bool false, .int .i64 0, .bool false, .slice none 0 0, .slice none 0 0, .slice none 0 0]
   have hBr := below_row hB2 (g := w.heap.size + 1) (by omega) #[.int .i64 3, .int .i64 0, .bool false, .bool false, .int .i64 0, .bool false, .slice none 0 0, .slice none 0 0, .slice none 0 0]
   have hsr : (Tryz.prog.info? 34).map (·.size) = some (#[.int .i64 3, .int .i64 0, .bool false, .bool false, .int .i64 0, .bool false, .slice none 0 0, .slice none 0 0, .slice none 0 0] : Array Value).size := sz_res
   go_wp2_with (first | (refine st_row (by kernel_rfl) 96 _ _ rfl _ BD.toArray rfl rfl 96 _ Bz hszB hold hone ?_) | (go_at_call 67; refine (within_any _ _ _ _).mono ?_; rintro e w' ⟨rfl, rfl⟩) | (refine st_row (by kernel_rfl) 34 _ _ rfl _ #[.int .i64 3, .int .i64 0, .bool false, .bool false, .int .i64 0, .bool false, .slice none 0 0, .slice none 0 0, .slice none 0 0] rfl rfl 34 _ Rb2 hsr rfl (by simp [Value.oneCell']) ?_))
   have q0 := Rr.cell 0 _ rfl
   have q1 := Rr.cell 1 _ rfl
   have q2 := Rr.cell 2 _ rfl
   have q3 := Rr.cell 3 _ rfl
   have q4 := Rr.cell 4 _ rfl
   have q5 := Rr.cell 5 _ rfl
   have q6 := Rr.cell 6 _ rfl
   have q7 := Rr.cell 7 _ rfl
   have q8 := Rr.cell 8 _ rfl
   exact bodyPost_ret (v := .agg #[.int .i64 3, .int .i64 0, .bool false, .bool false, .int .i64 0, .bool false, .slice none 0 0, .slice none 0 0, .slice none 0 0]) (by simp [results, Tryz.results14, go_sem, q0, q1, q2, q3, q4, q5, q6, q7, q8]) rfl ⟨inst0, by rw [E1.out.1]; rfl, E1.out.2.symm, inst0_own _, inst0_nd, fun k hk => by rw [inst0_ft] at hk; simp at hk, hBr⟩

  | true =>
   have RGR := rng B2 (rndC rs) (o := 0) (fun j v hv => by
    have hj := (List.getElem?_eq_some_iff.1 hv).1
    rw [rndC_length hwel h4] at hj
    rw [Nat.zero_add, List.getElem?_toArray, HB9.out, brd_rnd hwel h4 j hj]
    exact hv)
   have hhr : ∀ b, (repA rs 0 n != 3) = b → ∀ w, Calls Tryz.prog 68 #[.agg (rndC rs).toArray, .int .i64 0, .int .i64 (n : Int)] w fun e w' => e = .returned (.bool b) ∧ Below w.heap.size w w' := fun b hb w => by
    have := hasReport_any rs 0 n w hwel h4 hn
    rw [hb, decide_eq_true hr, Bool.true_and] at this
    exact this
   go_wp2_with (first | (refine st_row (by kernel_rfl) 96 _ _ rfl _ BD.toArray rfl rfl 96 _ Bz hszB hold hone ?_) | (refine ld_g (by kernel_rfl) 94 _ rfl _ _ rfl (rndC rs) _ RGR Tryz.underlying94 rfl hsR ?_) | (go_at_call 67; refine (within_any _ _ _ _).mono ?_; rintro e w' ⟨rfl, rfl⟩))
   generalize ((w1.alloc (.cells #[.int .i64 0, .int .i64 0, .int .i64 0, .int .i64 0, .int .i64 0, .int .i64 0, .int .i64 0, .int .i64 0, .int .i64 0, .int .i64 0, .int .i64 0, .int .i64 0, .int .i64 0, .int .i64 0, .int .i64 0, .int .i64 0, .int .i64 0, .int .i64 0, .int .i64 0, .int .i64 0, .int .i64 0, .int .i64 0, .int .i64 0, .int .i64 0, .int .i64 0, .bool false, .slice none 0 0, .int .i64 0, .int .i64 0, .int .i64 0] 96)).setRow w1.heap.size BD.toArray) = X at *
   clear RGR Bz
   by_cases hp4 : repA rs 0 n = 3
   case neg =>
    have E1 : Hid (D = 6 ∧ E = ine0) := F6.out hV hp4
    refine (hhr true (by simpa using hp4) X).mono ?_
    rintro e w3 ⟨rfl, hb3⟩
    replace Rb2 := Rb2.below hb3
    replace hB2 := hB2.trans (hb3.mono hB2.size)
    clear F3 F6 F10 F0 hp4 hin B2 HB9 hsR hhr hb3
    have Rr := Rb2.row #[.int .i64 6, .int .i64 0, .bool false, .bool false, .int .i64 0, .bool false, .slice none 0 0, .slice none 0 0, .slice none 0 0]
    have hBr := below_row hB2 (g := w.heap.size + 1) (by omega) #[.int .i64 6, .int .i64 0, .bool false, .bool false, .int .i64 0, .bool false, .slice none 0 0, .slice none 0 0, .slice none 0 0]
    have hsr : (Tryz.prog.info? 34).map (·.size) = some (#[.int .i64 6, .int .i64 0, .bool false, .bool false, .int .i64 0, .bool false, .slice none 0 0, .slice none 0 0, .slice none 0 0] : Array Value).size := sz_res
    go_wp2_with (first | (refine st_row (by kernel_rfl) 34 _ _ rfl _ #[.int .i64 6, .int .i64 0, .bool false, .bool false, .int .i64 0, .bool false, .slice none 0 0, .slice none 0 0, .slice none 0 0] rfl rfl 34 _ Rb2 hsr rfl (by simp [Value.oneCell']) ?_))
    have q0 := Rr.cell 0 _ rfl
    have q1 := Rr.cell 1 _ rfl
    have q2 := Rr.cell 2 _ rfl
    have q3 := Rr.cell 3 _ rfl
    have q4 := Rr.cell 4 _ rfl
    have q5 := Rr.cell 5 _ rfl
    have q6 := Rr.cell 6 _ rfl
    have q7 := Rr.cell 7 _ rfl
    have q8 := Rr.cell 8 _ rfl
    exact bodyPost_ret (v := .agg #[.int .i64 6, .int .i64 0, .bool false, .bool false, .int .i64 0, .bool false, .slice none 0 0, .slice none 0 0, .slice none 0 0]) (by simp [results, Tryz.results14, go_sem, q0, q1, q2, q3, q4, q5, q6, q7, q8]) rfl ⟨inst0, by rw [E1.out.1]; rfl, E1.out.2.symm, inst0_own _, inst0_nd, fun k hk => by rw [inst0_ft] at hk; simp at hk, hBr⟩

   case pos =>
    refine (hhr false (by rw [hp4]; rfl) X).mono ?_
    rintro e w3 ⟨rfl, hb3⟩
    replace Rb2 := Rb2.below hb3
    replace B2 := B2.below hb3
    replace hB2 := hB2.trans (hb3.mono hB2.size)
    have c25 : w3.cell? ⟨w1.heap.size, 25, none⟩ = some (.bool has) := B2.cell 25 _ (by rw [List.getElem?_toArray, HB9.out]; exact brd_has hwel h4)
    have F1 : Hid ((value = 1 → has = false → D = 10 ∧ E = ine0) ∧ (¬ (value = 1 ∧ has = false) → D = 0 ∧ E = ⟨has, batch.map TxnQ.e, rstR rs 0 n value, dec⟩)) := ⟨F10.out hV hp4, F0.out hV hp4⟩
    clear F3 F6 F10 F0 hp4 hhr hb3 hsR
    by_cases hbad : value = 1 ∧ has = false
    case pos =>
     obtain ⟨rfl, rfl⟩ := hbad
     have E1 : Hid (D = 10 ∧ E = ine0) := F1.out.1 rfl rfl
     clear F1 hin B2 HB9
     have Rr := Rb2.row #[.int .i64 10, .int .i64 0, .bool false, .bool false, .int .i64 0, .bool false, .slice none 0 0, .slice none 0 0, .slice none 0 0]
     have hBr := below_row hB2 (g := w.heap.size + 1) (by omega) #[.int .i64 10, .int .i64 0, .bool false, .bool false, .int .i64 0, .bool false, .slice none 0 0, .slice none 0 0, .slice none 0 0]
     have hsr : (Tryz.prog.info? 34).map (·.size) = some (#[.int .i64 10, .int .i64 0, .bool false, .bool false, .int .i64 0, .bool false, .slice none 0 0, .slice none 0 0, .slice none 0 0] : Array Value).size := sz_res
     go_wp2_with (first | (refine st_row (by kernel_rfl) 34 _ _ rfl _ #[.int .i64 10, .int .i64 0, .bool false, .bool false, .int .i64 0, .bool false, .slice none 0 0, .slice none 0 0, .slice none 0 0] rfl rfl 34 _ Rb2 hsr rfl (by simp [Value.oneCell']) ?_))
     have q0 := Rr.cell 0 _ rfl
     have q1 := Rr.cell 1 _ rfl
     have q2 := Rr.cell 2 _ rfl
     have q3 := Rr.cell 3 _ rfl
     have q4 := Rr.cell 4 _ rfl
     have q5 := Rr.cell 5 _ rfl
     have q6 := Rr.cell 6 _ rfl
     have q7 := Rr.cell 7 _ rfl
     have q8 := Rr.cell 8 _ rfl
     exact bodyPost_ret (v := .agg #[.int .i64 10, .int .i64 0, .bool false, .bool false, .int .i64 0, .bool false, .slice none 0 0, .slice none 0 0, .slice none 0 0]) (by simp [results, Tryz.results14, go_sem, q0, q1, q2, q3, q4, q5, q6, q7, q8]) rfl ⟨inst0, by rw [E1.out.1]; rfl, E1.out.2.symm, inst0_own _, inst0_nd, fun k hk => by rw [inst0_ft] at hk; simp at hk, hBr⟩

    case neg =>
     have E1 : Hid (D = 0 ∧ E = ⟨has, batch.map TxnQ.e, rstR rs 0 n value, dec⟩) := F1.out.2 hbad
     clear F1
     have hrp := report_any w1.heap.size 96 rs ([.bool has, .slice ba batch.length bk] ++ dec.map iv) 0 n value w3 (hG.o.below hB2) (by have := B2; rw [HB9.out] at this; exact this) hwel h4 (by omega) (by omega) hn
     have ee : ensR rs 0 = rs := if_neg (by omega)
     rw [ee] at hrp
     change Calls Tryz.prog _ #[_, .int .i64 0, _, _] _ fun e w' => _ ∧ Blk w' _ _ (brdC has (.slice ba batch.length bk) (rstR rs 0 n value) dec).toArray ∧ _ at hrp
     have hwel5 := wel_rstR hwel 0 n hr value
     have h45 : (rstR rs 0 n value).length ≤ 4 := by rw [rstR_length]; exact h4
     have hcall : ∀ (Q : Exit → World → Prop), True := fun _ => trivial
     clear ee B2 HB9 hcall
     by_cases hv1 : value = 1
     ·have hh : has = true := by cases has with | true => rfl | false => exact absurd ⟨hv1, rfl⟩ hbad
      subst hv1 hh
      clear hbad
      go_wp2_with fail
      clear c25
      refine hrp.mono ?_
      rintro e X5 ⟨rfl, B5, hU5⟩
      have R3 : Blk X5 (w.heap.size + 1) 34 _ := (hU5.block _ Rb2.lt (by simp only [List.mem_singleton]; omega)).trans Rb2
      have hBg := Out.keep hB2 hU5 hB2.size (fun k hk => by simp only [List.mem_singleton] at hk; omega)
      clear Rb2 hB2 hU5 hrp
      have X4 := rng B5 (brdC true (.slice ba batch.length bk) (rstR rs 0 n 1) dec) (o := 0) (fun j v hv => by rw [Nat.zero_add, List.getElem?_toArray]; exact hv)
      have hs30 : (Tryz.prog.info? 96).map (·.size) = some (brdC true (.slice ba batch.length bk) (rstR rs 0 n 1) dec).length := by rw [brdC_length hwel5 h45 HD5.out]; exact sz_board
      clear B5
      go_wp2_with (first | (refine ld_g (by kernel_rfl) 96 _ rfl _ _ rfl (brdC true (.slice ba batch.length bk) (rstR rs 0 n 1) dec) _ X4 Tryz.underlying96 rfl hs30 ?_))
      clear X4 hs30
      refine (hin H0.out (rstR rs 0 n 1) dec X5 (hTx.below hBg) hwel5 h45 HD5.out).mono ?_
      rintro e w7 ⟨q, rfl, eq, oq, nq, gq, hb7⟩
      have R5 := R3.below hb7
      have hR5 := R3.lt
      have L5 : ∀ k ∈ instK.foot q, w.heap.size + 2 ≤ k := fun k hk => by have := gq k hk; omega
      replace hBg := hBg.trans (hb7.mono hBg.size)
      clear hin gq hb7 R3
      have hous : ∀ cs, instK.own (w7.setRow (w.heap.size + 1) cs) q := fun cs => instK.own_out oq (out_row w7 (w.heap.size + 1) cs) (fun k hk => by have := L5 k hk; simp only [List.mem_singleton]; omega)
      have HQ : Hid (q.e = E ∧ (instK.foot q).Nodup ∧ (∀ k ∈ instK.foot q, w.heap.size ≤ k) ∧ ∀ cs, instK.own (w7.setRow (w.heap.size + 1) cs) q) := ⟨by rw [eq, E1.out.2], nq, fun k hk => by have := L5 k hk; omega, hous⟩
      have HD0 : Hid (D = 0) := E1.out.1
      clear E1 eq nq hous L5
      obtain ⟨qh, qb, qbs, qr, qrs, qd, qds⟩ := q
      obtain ⟨s1, t1, rfl⟩ : ∃ a c, qb = .slice a qbs.length c := oq.1.shape
      obtain ⟨s2, t2, rfl⟩ : ∃ a c, qr = .slice a qrs.length c := oq.2.1.shape
      obtain ⟨s3, t3, rfl⟩ : ∃ a c, qd = .slice a qds.length c := oq.2.2.shape
      have Rr := R5.row #[.int .i64 0, .int .i64 0, .bool false, .bool false, .int .i64 0, .bool qh, .slice s1 qbs.length t1, .slice s2 qrs.length t2, .slice s3 qds.length t3]
      have hBr := below_row hBg (g := w.heap.size + 1) (by omega) #[.int .i64 0, .int .i64 0, .bool false, .bool false, .int .i64 0, .bool qh, .slice s1 qbs.length t1, .slice s2 qrs.length t2, .slice s3 qds.length t3]
      have hsr : (Tryz.prog.info? 34).map (·.size) = some (#[.int .i64 0, .int .i64 0, .bool false, .bool false, .int .i64 0, .bool qh, .slice s1 qbs.length t1, .slice s2 qrs.length t2, .slice s3 qds.length t3] : Array Value).size := sz_res
      clear oq
      go_wp2_with (first | (refine st_row (by kernel_rfl) 34 _ _ rfl _ #[.int .i64 0, .int .i64 0, .bool false, .bool false, .int .i64 0, .bool qh, .slice s1 qbs.length t1, .slice s2 qrs.length t2, .slice s3 qds.length t3] rfl rfl 34 _ R5 hsr rfl (by simp [Value.oneCell']) ?_))
      have q0 := Rr.cell 0 _ rfl
      have q1 := Rr.cell 1 _ rfl
      have q2 := Rr.cell 2 _ rfl
      have q3 := Rr.cell 3 _ rfl
      have q4 := Rr.cell 4 _ rfl
      have q5 := Rr.cell 5 _ rfl
      have q6 := Rr.cell 6 _ rfl
      have q7 := Rr.cell 7 _ rfl
      have q8 := Rr.cell 8 _ rfl
      exact bodyPost_ret (v := .agg #[.int .i64 0, .int .i64 0, .bool false, .bool false, .int .i64 0, .bool qh, .slice s1 qbs.length t1, .slice s2 qrs.length t2, .slice s3 qds.length t3]) (by simp [results, Tryz.results14, go_sem, q0, q1, q2, q3, q4, q5, q6, q7, q8]) rfl ⟨⟨qh, .slice s1 qbs.length t1, qbs, .slice s2 qrs.length t2, qrs, .slice s3 qds.length t3, qds⟩, by rw [HD0.out], HQ.out.1, HQ.out.2.2.2 _, HQ.out.2.1, HQ.out.2.2.1, hBr⟩

     ·have hv1' : (value == 1) = false := by simpa using hv1
      clear hbad hv1
      go_wp2_with fail
      clear c25 hv1'
      refine hrp.mono ?_
      rintro e X5 ⟨rfl, B5, hU5⟩
      have R3 : Blk X5 (w.heap.size + 1) 34 _ := (hU5.block _ Rb2.lt (by simp only [List.mem_singleton]; omega)).trans Rb2
      have hBg := Out.keep hB2 hU5 hB2.size (fun k hk => by simp only [List.mem_singleton] at hk; omega)
      clear Rb2 hB2 hU5 hrp
      have X4 := rng B5 (brdC has (.slice ba batch.length bk) (rstR rs 0 n value) dec) (o := 0) (fun j v hv => by rw [Nat.zero_add, List.getElem?_toArray]; exact hv)
      have hs30 : (Tryz.prog.info? 96).map (·.size) = some (brdC has (.slice ba batch.length bk) (rstR rs 0 n value) dec).length := by rw [brdC_length hwel5 h45 HD5.out]; exact sz_board
      clear B5
      go_wp2_with (first | (refine ld_g (by kernel_rfl) 96 _ rfl _ _ rfl (brdC has (.slice ba batch.length bk) (rstR rs 0 n value) dec) _ X4 Tryz.underlying96 rfl hs30 ?_))
      clear X4 hs30
      refine (hin H0.out (rstR rs 0 n value) dec X5 (hTx.below hBg) hwel5 h45 HD5.out).mono ?_
      rintro e w7 ⟨q, rfl, eq, oq, nq, gq, hb7⟩
      have R5 := R3.below hb7
      have hR5 := R3.lt
      have L5 : ∀ k ∈ instK.foot q, w.heap.size + 2 ≤ k := fun k hk => by have := gq k hk; omega
      replace hBg := hBg.trans (hb7.mono hBg.size)
      clear hin gq hb7 R3
      have hous : ∀ cs, instK.own (w7.setRow (w.heap.size + 1) cs) q := fun cs => instK.own_out oq (out_row w7 (w.heap.size + 1) cs) (fun k hk => by have := L5 k hk; simp only [List.mem_singleton]; omega)
      have HQ : Hid (q.e = E ∧ (instK.foot q).Nodup ∧ (∀ k ∈ instK.foot q, w.heap.size ≤ k) ∧ ∀ cs, instK.own (w7.setRow (w.heap.size + 1) cs) q) := ⟨by rw [eq, E1.out.2], nq, fun k hk => by have := L5 k hk; omega, hous⟩
      have HD0 : Hid (D = 0) := E1.out.1
      clear E1 eq nq hous L5
      obtain ⟨qh, qb, qbs, qr, qrs, qd, qds⟩ := q
      obtain ⟨s1, t1, rfl⟩ : ∃ a c, qb = .slice a qbs.length c := oq.1.shape
      obtain ⟨s2, t2, rfl⟩ : ∃ a c, qr = .slice a qrs.length c := oq.2.1.shape
      obtain ⟨s3, t3, rfl⟩ : ∃ a c, qd = .slice a qds.length c := oq.2.2.shape
      have Rr := R5.row #[.int .i64 0, .int .i64 0, .bool false, .bool false, .int .i64 0, .bool qh, .slice s1 qbs.length t1, .slice s2 qrs.length t2, .slice s3 qds.length t3]
      have hBr := below_row hBg (g := w.heap.size + 1) (by omega) #[.int .i64 0, .int .i64 0, .bool false, .bool false, .int .i64 0, .bool qh, .slice s1 qbs.length t1, .slice s2 qrs.length t2, .slice s3 qds.length t3]
      have hsr : (Tryz.prog.info? 34).map (·.size) = some (#[.int .i64 0, .int .i64 0, .bool false, .bool false, .int .i64 0, .bool qh, .slice s1 qbs.length t1, .slice s2 qrs.length t2, .slice s3 qds.length t3] : Array Value).size := sz_res
      clear oq
      go_wp2_with (first | (refine st_row (by kernel_rfl) 34 _ _ rfl _ #[.int .i64 0, .int .i64 0, .bool false, .bool false, .int .i64 0, .bool qh, .slice s1 qbs.length t1, .slice s2 qrs.length t2, .slice s3 qds.length t3] rfl rfl 34 _ R5 hsr rfl (by simp [Value.oneCell']) ?_))
      have q0 := Rr.cell 0 _ rfl
      have q1 := Rr.cell 1 _ rfl
      have q2 := Rr.cell 2 _ rfl
      have q3 := Rr.cell 3 _ rfl
      have q4 := Rr.cell 4 _ rfl
      have q5 := Rr.cell 5 _ rfl
      have q6 := Rr.cell 6 _ rfl
      have q7 := Rr.cell 7 _ rfl
      have q8 := Rr.cell 8 _ rfl
      exact bodyPost_ret (v := .agg #[.int .i64 0, .int .i64 0, .bool false, .bool false, .int .i64 0, .bool qh, .slice s1 qbs.length t1, .slice s2 qrs.length t2, .slice s3 qds.length t3]) (by simp [results, Tryz.results14, go_sem, q0, q1, q2, q3, q4, q5, q6, q7, q8]) rfl ⟨⟨qh, .slice s1 qbs.length t1, qbs, .slice s2 qrs.length t2, qrs, .slice s3 qds.length t3, qds⟩, by rw [HD0.out], HQ.out.1, HQ.out.2.2.2 _, HQ.out.2.1, HQ.out.2.2.1, hBr⟩

end Go.Proofs.YtmgkjcobdmdjmaaGreatDoor
namespace Go.Proofs.YtmgkjcobdmdjmaaGreatDoor
open Go.RowKit
open Go.BigFrame
set_option linter.unusedVariables false
set_option maxRecDepth 100000
set_option linter.unusedSimpArgs false
set_option maxHeartbeats 4000000 in
theorem l6First_any (b o : Nat) (p : InstQ) (node value : Int) (w : World) (hP : InstP w b o p) (hbw : b < w.heap.size) (hl : p.n ≤ 1048576) (h0 : insF p.e = 0) :
  Calls Tryz.prog 81 #[.pointer (some ⟨b, o, none⟩), .int .i64 node, .int .i64 value] w fun e w' => ∃ q : InstQ, e = .returned (.agg (resC (frC p.e node value) 0 false false 0 q)) ∧ q.e = frI p.e node value ∧ instK.own w' q ∧ (instK.foot q).Nodup ∧ (∀ k ∈ instK.foot q, w.heap.size ≤ k) ∧ Below w.heap.size w w' := by
 obtain ⟨hne, hro, hd0⟩ := ins_low h0
 obtain ⟨hwel, ⟨h1, h4⟩, hd3, hF, _⟩ := ins_ok h0
 have hco := fun w h => l6Copy_any p w h hl hne hro hd0
 have hrl : p.e.rounds.length = p.rounds.length := List.length_map _
 have hIR := inst_round hP 0 (by omega) hF
 have hLE := fun (q : InstQ) (hq : q.e = p.e) (r : Nat) (hr : r < p.e.rounds.length) => copy_len hq hwel r hr
 have HF := fr_facts p.e node value
 have HA : Hid (inB node 0 2 = false → atC p.e node 0 = 3) := fun hA => by
  unfold atC
  rw [if_pos h0, hA]
  rfl
 have HA2 : Hid (inB node 0 2 = true → atC p.e node 0 = 0) := fun hA => by
  unfold atC
  have : inB 0 0 ((p.e.rounds.length : Int) - 1) = true := by unfold inB; rw [decide_eq_true_eq]; omega
  rw [if_pos h0, hA, this]
  rfl
 have HPE : Hid (∀ (q : InstQ), q.e = p.e → ∀ r n v hq, (q.setR r n v hq).e = ⟨p.e.has, p.e.batch, rstR p.e.rounds r n v, p.e.dec⟩) := fun q hq r n v hh => by rw [setR_e, hq]
 have HH : Hid (p.e.has = p.has) := (rfl : _ = _)
 clear hne hro hd0 hF h0
 generalize frC p.e node value = D at *
 generalize frI p.e node value = E at *
 generalize atC p.e node 0 = C at *
 replace HF : Hid _ := HF
 have hrd := hP.rd
 have hrb := fun (w' : World) hb => instK.rd_below (w' := w') hrd hb
 have HRL : Hid (p.e.rounds.length = p.rounds.length) := hrl
 clear hrl
 generalize hpe : p.e = pe at *
 clear hpe
 obtain ⟨has, vb, batch, vr, rounds, vd, dec⟩ := p
 obtain ⟨ba, bk, rfl⟩ : ∃ a c, vb = .slice a batch.length c := hrd.1.shape
 obtain ⟨va, vk, rfl⟩ : ∃ a c, vr = .slice a rounds.length c := hrd.2.1.shape
 obtain ⟨da, dk, rfl⟩ : ∃ a c, vd = .slice a dec.length c := hrd.2.2.shape
 dsimp only at hco hrb hIR HRL HH
 have hB : Below w.heap.size w (w.alloc (.cells #[.int .i64 0, .int .i64 0, .bool false, .bool false, .int .i64 0, .bool false, .slice none 0 0, .slice none 0 0, .slice none 0 0] 34)) := by go_grown
 have Rb := Blk.new w 34 #[.int .i64 0, .int .i64 0, .bool false, .bool false, .int .i64 0, .bool false, .slice none 0 0, .slice none 0 0, .slice none 0 0]
 cases hN : inB node 0 2 with
 | false =>
  have hC : C = 3 := HA.out hN
  have E1 : Hid (D = 3 ∧ E = ine0) := by
   obtain ⟨h1, h2⟩ := HF.out.1 (by rw [hC]; decide)
   exact ⟨h1.trans hC, h2⟩
  clear HF hIR hLE hco hC HA HA2
  go_enter Tryz.func81, Tryz.ntmps81
  go_wp2_with (first | (go_at_call 145; refine (l6Node_any _ _).mono ?_; rintro e w' ⟨rfl, rfl⟩) | (go_at_call 103; refine (l1In_any _ _ _ _).mono ?_; rintro e w' ⟨rfl, rfl⟩))
  refine (l6Bad_any 3 _).mono ?_
  rintro e w8 ⟨rfl, hb8⟩
  replace hB := hB.trans (hb8.mono hB.size)
  replace Rb := Rb.below hb8
  clear hb8
  have Rr := Rb.row #[.int .i64 3, .int .i64 0, .bool false, .bool false, .int .i64 0, .bool false, .slice none 0 0, .slice none 0 0, .slice none 0 0]
  have hBr := below_row hB (g := w.heap.size) (by omega) #[.int .i64 3, .int .i64 0, .bool false, .bool false, .int .i64 0, .bool false, .slice none 0 0, .slice none 0 0, .slice none 0 0]
  have hsr : (Tryz.prog.info? 34).map (·.size) = some (#[.int .i64 3, .int .i64 0, .bool false, .bool false, .int .i64 0, .bool false, .slice none 0 0, .slice none 0 0, .slice none 0 0] : Array Value).size := sz_res
  go_wp2_with (first | (refine st_row (by kernel_rfl) 34 _ _ rfl _ #[.int .i64 3, .int .i64 0, .bool false, .bool false, .int .i64 0, .bool false, .slice none 0 0, .slice none 0 0, .slice none 0 0] rfl rfl 34 _ Rb hsr rfl (by simp [Value.oneCell']) ?_))
  have q0 := Rr.cell 0 _ rfl
  have q1 := Rr.cell 1 _ rfl
  have q2 := Rr.cell 2 _ rfl
  have q3 := Rr.cell 3 _ rfl
  have q4 := Rr.cell 4 _ rfl
  have q5 := Rr.cell 5 _ rfl
  have q6 := Rr.cell 6 _ rfl
  have q7 := Rr.cell 7 _ rfl
  have q8 := Rr.cell 8 _ rfl
  exact bodyPost_ret (v := .agg #[.int .i64 3, .int .i64 0, .bool false, .bool false, .int .i64 0, .bool false, .slice none 0 0, .slice none 0 0, .slice none 0 0]) (by simp [results, Tryz.results81, go_sem, q0, q1, q2, q3, q4, q5, q6, q7, q8]) rfl ⟨inst0, by rw [E1.out.1]; rfl, E1.out.2.symm, inst0_own _, inst0_nd, fun k hk => by rw [inst0_ft] at hk; simp at hk, hBr⟩

 | true =>
  obtain ⟨hi0, n, rfl, hn, hr, f3, f6, f10, f0⟩ := HF.out.2 (HA2.out hN)
  rw [HH.out] at f10 f0
  have F3 : Hid _ := f3
  have F6 : Hid _ := f6
  have F10 : Hid _ := f10
  have F0 : Hid _ := f0
  clear hi0 f3 f6 f10 f0 HF HA HA2
  cases hV : inB value 0 1 with
  | false =>
   have E1 : Hid (D = 3 ∧ E = ine0) := F3.out hV
   clear F3 F6 F10 F0 hLE hco hIR
   go_enter Tryz.func81, Tryz.ntmps81
   go_wp2_with (first | (go_at_call 145; refine (l6Node_any _ _).mono ?_; rintro e w' ⟨rfl, rfl⟩) | (go_at_call 103; refine (l1In_any _ _ _ _).mono ?_; rintro e w' ⟨rfl, rfl⟩))
   refine (l6Bad_any 3 _).mono ?_
   rintro e w8 ⟨rfl, hb8⟩
   replace hB := hB.trans (hb8.mono hB.size)
   replace Rb := Rb.below hb8
   clear hb8
   have Rr := Rb.row #[.int .i64 3, .int .i64 0, .bool false, .bool false, .int .i64 0, .bool false, .slice none 0 0, .slice none 0 0, .slice none 0 0]
   have hBr := below_row hB (g := w.heap.size) (by omega) #[.int .i64 3, .int .i64 0, .bool false, .bool false, .int .i64 0, .bool false, .slice none 0 0, .slice none 0 0, .slice none 0 0]
   have hsr : (Tryz.prog.info? 34).map (·.size) = some (#[.int .i64 3, .int .i64 0, .bool false, .bool false, .int .i64 0, .bool false, .slice none 0 0, .slice none 0 0, .slice none 0 0] : Array Value).size := sz_res
   go_wp2_with (first | (refine st_row (by kernel_rfl) 34 _ _ rfl _ #[.int .i64 3, .int .i64 0, .bool false, .bool false, .int .i64 0, .bool false, .slice none 0 0, .slice none 0 0, .slice none 0 0] rfl rfl 34 _ Rb hsr rfl (by simp [Value.oneCell']) ?_))
   have q0 := Rr.cell 0 _ rfl
   have q1 := Rr.cell 1 _ rfl
   have q2 := Rr.cell 2 _ rfl
   have q3 := Rr.cell 3 _ rfl
   have q4 := Rr.cell 4 _ rfl
   have q5 := Rr.cell 5 _ rfl
   have q6 := Rr.cell 6 _ rfl
   have q7 := Rr.cell 7 _ rfl
   have q8 := Rr.cell 8 _ rfl
   exact bodyPost_ret (v := .agg #[.int .i64 3, .int .i64 0, .bool false, .bool false, .int .i64 0, .bool false, .slice none 0 0, .slice none 0 0, .slice none 0 0]) (by simp [results, Tryz.results81, go_sem, q0, q1, q2, q3, q4, q5, q6, q7, q8]) rfl ⟨inst0, by rw [E1.out.1]; rfl, E1.out.2.symm, inst0_own _, inst0_nd, fun k hk => by rw [inst0_ft] at hk; simp at hk, hBr⟩

  | true =>
   obtain ⟨rb, ro, vk', xb, xo, xc, yb, yo, yc, hvr, k0, _, kx, _, _, _⟩ := hIR
   simp only [Value.slice.injEq, true_and] at hvr
   obtain ⟨rfl, rfl⟩ := hvr
   replace kx := kx n hn
   rw [Nat.zero_mul, Nat.add_zero] at k0
   replace k0 := cellB k0 hB
   replace kx := cellB kx hB
   have hPW := hP.below hB
   obtain ⟨c0, c1, c2, c3⟩ := hPW.box
   dsimp only at c0 c1 c2 c3
   have hr4 : (0 : Int) < rounds.length := by have := HRL.out; omega
   have hn3 : (n : Int) < 3 := by omega
   generalize hre : repA pe.rounds 0 n = RE at *
   clear hre
   by_cases hp4 : RE = 3
   case neg =>
    have E1 : Hid (D = 6 ∧ E = ine0) := F6.out hV hp4
    have hq4 : (RE != 3) = true := by simpa using hp4
    clear F3 F6 F10 F0 hp4 hLE hco
    go_enter Tryz.func81, Tryz.ntmps81
    go_wp2_with (first | (go_at_call 145; refine (l6Node_any _ _).mono ?_; rintro e w' ⟨rfl, rfl⟩) | (go_at_call 103; refine (l1In_any _ _ _ _).mono ?_; rintro e w' ⟨rfl, rfl⟩))
    refine (l6Bad_any 6 _).mono ?_
    rintro e w8 ⟨rfl, hb8⟩
    replace hB := hB.trans (hb8.mono hB.size)
    replace Rb := Rb.below hb8
    clear hb8
    have Rr := Rb.row #[.int .i64 6, .int .i64 0, .bool false, .bool false, .int .i64 0, .bool false, .slice none 0 0, .slice none 0 0, .slice none 0 0]
    have hBr := below_row hB (g := w.heap.size) (by omega) #[.int .i64 6, .int .i64 0, .bool false, .bool false, .int .i64 0, .bool false, .slice none 0 0, .slice none 0 0, .slice none 0 0]
    have hsr : (Tryz.prog.info? 34).map (·.size) = some (#[.int .i64 6, .int .i64 0, .bool false, .bool false, .int .i64 0, .bool false, .slice none 0 0, .slice none 0 0, .slice none 0 0] : Array Value).size := sz_res
    go_wp2_with (first | (refine st_row (by kernel_rfl) 34 _ _ rfl _ #[.int .i64 6, .int .i64 0, .bool false, .bool false, .int .i64 0, .bool false, .slice none 0 0, .slice none 0 0, .slice none 0 0] rfl rfl 34 _ Rb hsr rfl (by simp [Value.oneCell']) ?_))
    have q0 := Rr.cell 0 _ rfl
    have q1 := Rr.cell 1 _ rfl
    have q2 := Rr.cell 2 _ rfl
    have q3 := Rr.cell 3 _ rfl
    have q4 := Rr.cell 4 _ rfl
    have q5 := Rr.cell 5 _ rfl
    have q6 := Rr.cell 6 _ rfl
    have q7 := Rr.cell 7 _ rfl
    have q8 := Rr.cell 8 _ rfl
    exact bodyPost_ret (v := .agg #[.int .i64 6, .int .i64 0, .bool false, .bool false, .int .i64 0, .bool false, .slice none 0 0, .slice none 0 0, .slice none 0 0]) (by simp [results, Tryz.results81, go_sem, q0, q1, q2, q3, q4, q5, q6, q7, q8]) rfl ⟨inst0, by rw [E1.out.1]; rfl, E1.out.2.symm, inst0_own _, inst0_nd, fun k hk => by rw [inst0_ft] at hk; simp at hk, hBr⟩

   case pos =>
    have F1 : Hid ((value = 1 → has = false → D = 10 ∧ E = ine0) ∧ (¬ (value = 1 ∧ has = false) → D = 0 ∧ E = ⟨has, pe.batch, rstR pe.rounds 0 n value, pe.dec⟩)) := ⟨F10.out hV hp4, F0.out hV hp4⟩
    rw [← HH.out] at F1
    have hq4 : (RE != 3) = false := by rw [hp4]; rfl
    clear F3 F6 F10 F0 hp4
    by_cases hbad : value = 1 ∧ has = false
    case pos =>
     have E1 : Hid (D = 10 ∧ E = ine0) := F1.out.1 hbad.1 (by rw [HH.out]; exact hbad.2)
     obtain ⟨rfl, rfl⟩ := hbad
     clear F1 hLE hco
     go_enter Tryz.func81, Tryz.ntmps81
     go_wp2_with (first | (go_at_call 145; refine (l6Node_any _ _).mono ?_; rintro e w' ⟨rfl, rfl⟩) | (go_at_call 103; refine (l1In_any _ _ _ _).mono ?_; rintro e w' ⟨rfl, rfl⟩))
     refine (l6Bad_any 10 _).mono ?_
     rintro e w8 ⟨rfl, hb8⟩
     replace hB := hB.trans (hb8.mono hB.size)
     replace Rb := Rb.below hb8
     clear hb8
     have Rr := Rb.row #[.int .i64 10, .int .i64 0, .bool false, .bool false, .int .i64 0, .bool false, .slice none 0 0, .slice none 0 0, .slice none 0 0]
     have hBr := below_row hB (g := w.heap.size) (by omega) #[.int .i64 10, .int .i64 0, .bool false, .bool false, .int .i64 0, .bool false, .slice none 0 0, .slice none 0 0, .slice none 0 0]
     have hsr : (Tryz.prog.info? 34).map (·.size) = some (#[.int .i64 10, .int .i64 0, .bool false, .bool false, .int .i64 0, .bool false, .slice none 0 0, .slice none 0 0, .slice none 0 0] : Array Value).size := sz_res
     go_wp2_with (first | (refine st_row (by kernel_rfl) 34 _ _ rfl _ #[.int .i64 10, .int .i64 0, .bool false, .bool false, .int .i64 0, .bool false, .slice none 0 0, .slice none 0 0, .slice none 0 0] rfl rfl 34 _ Rb hsr rfl (by simp [Value.oneCell']) ?_))
     have q0 := Rr.cell 0 _ rfl
     have q1 := Rr.cell 1 _ rfl
     have q2 := Rr.cell 2 _ rfl
     have q3 := Rr.cell 3 _ rfl
     have q4 := Rr.cell 4 _ rfl
     have q5 := Rr.cell 5 _ rfl
     have q6 := Rr.cell 6 _ rfl
     have q7 := Rr.cell 7 _ rfl
     have q8 := Rr.cell 8 _ rfl
     exact bodyPost_ret (v := .agg #[.int .i64 10, .int .i64 0, .bool false, .bool false, .int .i64 0, .bool false, .slice none 0 0, .slice none 0 0, .slice none 0 0]) (by simp [results, Tryz.results81, go_sem, q0, q1, q2, q3, q4, q5, q6, q7, q8]) rfl ⟨inst0, by rw [E1.out.1]; rfl, E1.out.2.symm, inst0_own _, inst0_nd, fun k hk => by rw [inst0_ft] at hk; simp at hk, hBr⟩

    case neg =>
     have E1 : Hid (D = 0 ∧ E = ⟨pe.has, pe.batch, rstR pe.rounds 0 n value, pe.dec⟩) := F1.out.2 (by rw [HH.out]; exact hbad)
     clear F1
     by_cases hv1 : value = 1
     ·have hh : has = true := by cases has with | true => rfl | false => exact absurd ⟨hv1, rfl⟩ hbad
      subst hh
      have hv1' : (value == 1) = true := by rw [hv1]; rfl
      clear hbad hv1
      go_enter Tryz.func81, Tryz.ntmps81
      have hPW2 := hP.below hB
      obtain ⟨d0, d1, d2, d3⟩ := hPW2.box
      dsimp only at d0 d1 d2 d3
      go_wp2_with (first | (go_at_call 145; refine (l6Node_any _ _).mono ?_; rintro e w' ⟨rfl, rfl⟩) | (go_at_call 103; refine (l1In_any _ _ _ _).mono ?_; rintro e w' ⟨rfl, rfl⟩))
      clear c0 c1 c2 c3 d0 d1 d2 d3 kx k0
      refine (hco _ (hrb _ hB)).mono ?_
      rintro e w3 ⟨q, rfl, eq, oq, nq, gq, hb3⟩
      have hW := Rb.lt
      replace Rb := Rb.below hb3
      replace hB := hB.trans (hb3.mono hB.size)
      obtain ⟨hrq, hpq, _⟩ := hLE q eq 0 hr
      have HQE := HPE.out q eq 0 n value hrq
      have M := instK.own_lt oq
      obtain ⟨qh, qb, qbs, qr, qrs, qd, qds⟩ := q
      obtain ⟨s1, t1, rfl⟩ : ∃ a c, qb = .slice a qbs.length c := oq.1.shape
      obtain ⟨s2, t2, rfl⟩ : ∃ a c, qr = .slice a qrs.length c := oq.2.1.shape
      obtain ⟨s3, t3, rfl⟩ : ∃ a c, qd = .slice a qds.length c := oq.2.2.shape
      obtain ⟨gr, rfl⟩ := oq.2.1.blkOf (by exact Nat.lt_of_le_of_lt (Nat.zero_le _) hrq)
      replace hrq : 0 < qrs.length := hrq
      have hrq3 : (0 : Int) < qrs.length := by omega
      obtain ⟨g5, cap5, hv5, hg5, kc, kf, own5, foot5⟩ := own_setR oq nq 0 n hrq (by show n < (qrs[0]).rep.length; have : (qrs[0]).rep.length = 3 := hpq; omega) value
      have hpl : (qrs[0]).rep.length = 3 := hpq
      rw [show (InstQ.rounds (⟨qh, .slice s1 qbs.length t1, qbs, .slice (some ⟨gr, 0, none⟩) qrs.length t2, qrs, .slice s3 qds.length t3, qds⟩ : InstQ))[0] = qrs[0] from rfl, hpl] at hv5
      have hcr := oq.2.1.cell 0 hrq 0 (.slice (some ⟨g5, 0, none⟩) 3 cap5) (by show ([(qrs[0]).vr, (qrs[0]).vp] : List Value)[0]? = _; rw [← hv5]; rfl)
      have hcr2 : w3.cell? ⟨gr, 0, none⟩ = some (.slice (some ⟨g5, 0, none⟩) 3 cap5) := hcr.1
      have hg5l : w.heap.size + 1 ≤ g5 ∧ g5 < w3.heap.size := ⟨by have := gq g5 hg5; omega, M g5 hg5⟩
      have hbA : Below (w3.setCell ⟨g5, n, none⟩ (iv value)).heap.size (w3.setCell ⟨g5, n, none⟩ (iv value)) ((w3.setCell ⟨g5, n, none⟩ (iv value)).alloc (.cells #[.bool qh, .slice s1 qbs.length t1, .slice (some ⟨gr, 0, none⟩) qrs.length t2, .slice s3 qds.length t3] 28)) := by go_grown
      have R3 := (Rb.other (b' := g5) (by omega) n (iv value)).below hbA
      have hBg : Below w.heap.size w ((w3.setCell ⟨g5, n, none⟩ (iv value)).alloc (.cells #[.bool qh, .slice s1 qbs.length t1, .slice (some ⟨gr, 0, none⟩) qrs.length t2, .slice s3 qds.length t3] 28)) := by
       have h1 : Below w.heap.size w (w3.setCell ⟨g5, n, none⟩ (iv value)) := hB.setCell (p := ⟨g5, n, none⟩) (by show w.heap.size ≤ g5; omega) _
       exact h1.trans (hbA.mono h1.size)
      replace own5 := instK.own_out (F := []) own5 (Out.of_below hbA) (fun _ _ => by simp)
      have L5 : ∀ k ∈ instK.foot (InstQ.setR (⟨qh, .slice s1 qbs.length t1, qbs, .slice (some ⟨gr, 0, none⟩) qrs.length t2, qrs, .slice s3 qds.length t3, qds⟩ : InstQ) 0 n value hrq), w.heap.size < k := fun k hk => by rw [foot5] at hk; have := gq k hk; omega
      have N5 : (instK.foot (InstQ.setR (⟨qh, .slice s1 qbs.length t1, qbs, .slice (some ⟨gr, 0, none⟩) qrs.length t2, qrs, .slice s3 qds.length t3, qds⟩ : InstQ) 0 n value hrq)).Nodup := by rw [foot5]; exact nq
      have hous : ∀ cs, instK.own (((w3.setCell ⟨g5, n, none⟩ (iv value)).alloc (.cells #[.bool qh, .slice s1 qbs.length t1, .slice (some ⟨gr, 0, none⟩) qrs.length t2, .slice s3 qds.length t3] 28)).setRow w.heap.size cs) (InstQ.setR (⟨qh, .slice s1 qbs.length t1, qbs, .slice (some ⟨gr, 0, none⟩) qrs.length t2, qrs, .slice s3 qds.length t3, qds⟩ : InstQ) 0 n value hrq) := fun cs => instK.own_out own5 (out_row _ w.heap.size cs) (fun k hk => by have := L5 k hk; simp only [List.mem_singleton]; omega)
      have HQ : Hid ((InstQ.setR (⟨qh, .slice s1 qbs.length t1, qbs, .slice (some ⟨gr, 0, none⟩) qrs.length t2, qrs, .slice s3 qds.length t3, qds⟩ : InstQ) 0 n value hrq).e = E ∧ (instK.foot (InstQ.setR (⟨qh, .slice s1 qbs.length t1, qbs, .slice (some ⟨gr, 0, none⟩) qrs.length t2, qrs, .slice s3 qds.length t3, qds⟩ : InstQ) 0 n value hrq)).Nodup ∧ (∀ k ∈ instK.foot (InstQ.setR (⟨qh, .slice s1 qbs.length t1, qbs, .slice (some ⟨gr, 0, none⟩) qrs.length t2, qrs, .slice s3 qds.length t3, qds⟩ : InstQ) 0 n value hrq), w.heap.size ≤ k) ∧ ∀ cs, instK.own (((w3.setCell ⟨g5, n, none⟩ (iv value)).alloc (.cells #[.bool qh, .slice s1 qbs.length t1, .slice (some ⟨gr, 0, none⟩) qrs.length t2, .slice s3 qds.length t3] 28)).setRow w.heap.size cs) (InstQ.setR (⟨qh, .slice s1 qbs.length t1, qbs, .slice (some ⟨gr, 0, none⟩) qrs.length t2, qrs, .slice s3 qds.length t3, qds⟩ : InstQ) 0 n value hrq)) := ⟨by rw [E1.out.2]; exact HQE, N5, fun k hk => by have := L5 k hk; omega, hous⟩
      have HD0 : Hid (D = 0) := E1.out.1
      obtain ⟨old, kc2⟩ : ∃ z, w3.cell? ⟨g5, n, none⟩ = some (iv z) := ⟨_, kc⟩
      have hAl : Below w3.heap.size w3 (w3.alloc (.cells #[.bool qh, .slice s1 qbs.length t1, .slice (some ⟨gr, 0, none⟩) qrs.length t2, .slice s3 qds.length t3] 28)) := by go_grown
      have hcr3 := cellB hcr2 hAl
      have hgrl : gr < w3.heap.size := World.block_lt_of_cell? w3 ⟨gr, 0, none⟩ hcr2
      clear kc hAl
      clear Rb hB own5 foot5 L5 N5 hous HQE E1 oq nq gq eq hb3 hco M hcr hbA
      have Rr := R3.row #[.int .i64 0, .int .i64 0, .bool false, .bool false, .int .i64 0, .bool qh, .slice s1 qbs.length t1, .slice (some ⟨gr, 0, none⟩) qrs.length t2, .slice s3 qds.length t3]
      have hBr := below_row hBg (g := w.heap.size) (Nat.le_refl _) #[.int .i64 0, .int .i64 0, .bool false, .bool false, .int .i64 0, .bool qh, .slice s1 qbs.length t1, .slice (some ⟨gr, 0, none⟩) qrs.length t2, .slice s3 qds.length t3]
      have hsr : (Tryz.prog.info? 34).map (·.size) = some (#[.int .i64 0, .int .i64 0, .bool false, .bool false, .int .i64 0, .bool qh, .slice s1 qbs.length t1, .slice (some ⟨gr, 0, none⟩) qrs.length t2, .slice s3 qds.length t3] : Array Value).size := sz_res
      go_wp2_with (first | (refine st_row (by kernel_rfl) 34 _ _ rfl _ #[.int .i64 0, .int .i64 0, .bool false, .bool false, .int .i64 0, .bool qh, .slice s1 qbs.length t1, .slice (some ⟨gr, 0, none⟩) qrs.length t2, .slice s3 qds.length t3] rfl rfl 34 _ R3 hsr rfl (by simp [Value.oneCell']) ?_))
      have q0 := Rr.cell 0 _ rfl
      have q1 := Rr.cell 1 _ rfl
      have q2 := Rr.cell 2 _ rfl
      have q3 := Rr.cell 3 _ rfl
      have q4 := Rr.cell 4 _ rfl
      have q5 := Rr.cell 5 _ rfl
      have q6 := Rr.cell 6 _ rfl
      have q7 := Rr.cell 7 _ rfl
      have q8 := Rr.cell 8 _ rfl
      exact bodyPost_ret (v := .agg #[.int .i64 0, .int .i64 0, .bool false, .bool false, .int .i64 0, .bool qh, .slice s1 qbs.length t1, .slice (some ⟨gr, 0, none⟩) qrs.length t2, .slice s3 qds.length t3]) (by simp [results, Tryz.results81, go_sem, q0, q1, q2, q3, q4, q5, q6, q7, q8]) rfl ⟨InstQ.setR (⟨qh, .slice s1 qbs.length t1, qbs, .slice (some ⟨gr, 0, none⟩) qrs.length t2, qrs, .slice s3 qds.length t3, qds⟩ : InstQ) 0 n value hrq, by rw [HD0.out]; rfl, HQ.out.1, HQ.out.2.2.2 _, HQ.out.2.1, HQ.out.2.2.1, hBr⟩

     ·have hv1' : (value == 1) = false := by simpa using hv1
      clear hbad hv1
      go_enter Tryz.func81, Tryz.ntmps81
      have hPW2 := hP.below hB
      obtain ⟨d0, d1, d2, d3⟩ := hPW2.box
      dsimp only at d0 d1 d2 d3
      go_wp2_with (first | (go_at_call 145; refine (l6Node_any _ _).mono ?_; rintro e w' ⟨rfl, rfl⟩) | (go_at_call 103; refine (l1In_any _ _ _ _).mono ?_; rintro e w' ⟨rfl, rfl⟩))
      clear c0 c1 c2 c3 d0 d1 d2 d3 kx k0
      refine (hco _ (hrb _ hB)).mono ?_
      rintro e w3 ⟨q, rfl, eq, oq, nq, gq, hb3⟩
      have hW := Rb.lt
      replace Rb := Rb.below hb3
      replace hB := hB.trans (hb3.mono hB.size)
      obtain ⟨hrq, hpq, _⟩ := hLE q eq 0 hr
      have HQE := HPE.out q eq 0 n value hrq
      have M := instK.own_lt oq
      obtain ⟨qh, qb, qbs, qr, qrs, qd, qds⟩ := q
      obtain ⟨s1, t1, rfl⟩ : ∃ a c, qb = .slice a qbs.length c := oq.1.shape
      obtain ⟨s2, t2, rfl⟩ : ∃ a c, qr = .slice a qrs.length c := oq.2.1.shape
      obtain ⟨s3, t3, rfl⟩ : ∃ a c, qd = .slice a qds.length c := oq.2.2.shape
      obtain ⟨gr, rfl⟩ := oq.2.1.blkOf (by exact Nat.lt_of_le_of_lt (Nat.zero_le _) hrq)
      replace hrq : 0 < qrs.length := hrq
      have hrq3 : (0 : Int) < qrs.length := by omega
      obtain ⟨g5, cap5, hv5, hg5, kc, kf, own5, foot5⟩ := own_setR oq nq 0 n hrq (by show n < (qrs[0]).rep.length; have : (qrs[0]).rep.length = 3 := hpq; omega) value
      have hpl : (qrs[0]).rep.length = 3 := hpq
      rw [show (InstQ.rounds (⟨qh, .slice s1 qbs.length t1, qbs, .slice (some ⟨gr, 0, none⟩) qrs.length t2, qrs, .slice s3 qds.length t3, qds⟩ : InstQ))[0] = qrs[0] from rfl, hpl] at hv5
      have hcr := oq.2.1.cell 0 hrq 0 (.slice (some ⟨g5, 0, none⟩) 3 cap5) (by show ([(qrs[0]).vr, (qrs[0]).vp] : List Value)[0]? = _; rw [← hv5]; rfl)
      have hcr2 : w3.cell? ⟨gr, 0, none⟩ = some (.slice (some ⟨g5, 0, none⟩) 3 cap5) := hcr.1
      have hg5l : w.heap.size + 1 ≤ g5 ∧ g5 < w3.heap.size := ⟨by have := gq g5 hg5; omega, M g5 hg5⟩
      have hbA : Below (w3.setCell ⟨g5, n, none⟩ (iv value)).heap.size (w3.setCell ⟨g5, n, none⟩ (iv value)) ((w3.setCell ⟨g5, n, none⟩ (iv value)).alloc (.cells #[.bool qh, .slice s1 qbs.length t1, .slice (some ⟨gr, 0, none⟩) qrs.length t2, .slice s3 qds.length t3] 28)) := by go_grown
      have R3 := (Rb.other (b' := g5) (by omega) n (iv value)).below hbA
      have hBg : Below w.heap.size w ((w3.setCell ⟨g5, n, none⟩ (iv value)).alloc (.cells #[.bool qh, .slice s1 qbs.length t1, .slice (some ⟨gr, 0, none⟩) qrs.length t2, .slice s3 qds.length t3] 28)) := by
       have h1 : Below w.heap.size w (w3.setCell ⟨g5, n, none⟩ (iv value)) := hB.setCell (p := ⟨g5, n, none⟩) (by show w.heap.size ≤ g5; omega) _
       exact h1.trans (hbA.mono h1.size)
      replace own5 := instK.own_out (F := []) own5 (Out.of_below hbA) (fun _ _ => by simp)
      have L5 : ∀ k ∈ instK.foot (InstQ.setR (⟨qh, .slice s1 qbs.length t1, qbs, .slice (some ⟨gr, 0, none⟩) qrs.length t2, qrs, .slice s3 qds.length t3, qds⟩ : InstQ) 0 n value hrq), w.heap.size < k := fun k hk => by rw [foot5] at hk; have := gq k hk; omega
      have N5 : (instK.foot (InstQ.setR (⟨qh, .slice s1 qbs.length t1, qbs, .slice (some ⟨gr, 0, none⟩) qrs.length t2, qrs, .slice s3 qds.length t3, qds⟩ : InstQ) 0 n value hrq)).Nodup := by rw [foot5]; exact nq
      have hous : ∀ cs, instK.own (((w3.setCell ⟨g5, n, none⟩ (iv value)).alloc (.cells #[.bool qh, .slice s1 qbs.length t1, .slice (some ⟨gr, 0, none⟩) qrs.length t2, .slice s3 qds.length t3] 28)).setRow w.heap.size cs) (InstQ.setR (⟨qh, .slice s1 qbs.length t1, qbs, .slice (some ⟨gr, 0, none⟩) qrs.length t2, qrs, .slice s3 qds.length t3, qds⟩ : InstQ) 0 n value hrq) := fun cs => instK.own_out own5 (out_row _ w.heap.size cs) (fun k hk => by have := L5 k hk; simp only [List.mem_singleton]; omega)
      have HQ : Hid ((InstQ.setR (⟨qh, .slice s1 qbs.length t1, qbs, .slice (some ⟨gr, 0, none⟩) qrs.length t2, qrs, .slice s3 qds.length t3, qds⟩ : InstQ) 0 n value hrq).e = E ∧ (instK.foot (InstQ.setR (⟨qh, .slice s1 qbs.length t1, qbs, .slice (some ⟨gr, 0, none⟩) qrs.length t2, qrs, .slice s3 qds.length t3, qds⟩ : InstQ) 0 n value hrq)).Nodup ∧ (∀ k ∈ instK.foot (InstQ.setR (⟨qh, .slice s1 qbs.length t1, qbs, .slice (some ⟨gr, 0, none⟩) qrs.length t2, qrs, .slice s3 qds.length t3, qds⟩ : InstQ) 0 n value hrq), w.heap.size ≤ k) ∧ ∀ cs, instK.own (((w3.setCell ⟨g5, n, none⟩ (iv value)).alloc (.cells #[.bool qh, .slice s1 qbs.length t1, .slice (some ⟨gr, 0, none⟩) qrs.length t2, .slice s3 qds.length t3] 28)).setRow w.heap.size cs) (InstQ.setR (⟨qh, .slice s1 qbs.length t1, qbs, .slice (some ⟨gr, 0, none⟩) qrs.length t2, qrs, .slice s3 qds.length t3, qds⟩ : InstQ) 0 n value hrq)) := ⟨by rw [E1.out.2]; exact HQE, N5, fun k hk => by have := L5 k hk; omega, hous⟩
      have HD0 : Hid (D = 0) := E1.out.1
      obtain ⟨old, kc2⟩ : ∃ z, w3.cell? ⟨g5, n, none⟩ = some (iv z) := ⟨_, kc⟩
      have hAl : Below w3.heap.size w3 (w3.alloc (.cells #[.bool qh, .slice s1 qbs.length t1, .slice (some ⟨gr, 0, none⟩) qrs.length t2, .slice s3 qds.length t3] 28)) := by go_grown
      have hcr3 := cellB hcr2 hAl
      have hgrl : gr < w3.heap.size := World.block_lt_of_cell? w3 ⟨gr, 0, none⟩ hcr2
      clear kc hAl
      clear Rb hB own5 foot5 L5 N5 hous HQE E1 oq nq gq eq hb3 hco M hcr hbA
      have Rr := R3.row #[.int .i64 0, .int .i64 0, .bool false, .bool false, .int .i64 0, .bool qh, .slice s1 qbs.length t1, .slice (some ⟨gr, 0, none⟩) qrs.length t2, .slice s3 qds.length t3]
      have hBr := below_row hBg (g := w.heap.size) (Nat.le_refl _) #[.int .i64 0, .int .i64 0, .bool false, .bool false, .int .i64 0, .bool qh, .slice s1 qbs.length t1, .slice (some ⟨gr, 0, none⟩) qrs.length t2, .slice s3 qds.length t3]
      have hsr : (Tryz.prog.info? 34).map (·.size) = some (#[.int .i64 0, .int .i64 0, .bool false, .bool false, .int .i64 0, .bool qh, .slice s1 qbs.length t1, .slice (some ⟨gr, 0, none⟩) qrs.length t2, .slice s3 qds.length t3] : Array Value).size := sz_res
      go_wp2_with (first | (refine st_row (by kernel_rfl) 34 _ _ rfl _ #[.int .i64 0, .int .i64 0, .bool false, .bool false, .int .i64 0, .bool qh, .slice s1 qbs.length t1, .slice (some ⟨gr, 0, none⟩) qrs.length t2, .slice s3 qds.length t3] rfl rfl 34 _ R3 hsr rfl (by simp [Value.oneCell']) ?_))
      have q0 := Rr.cell 0 _ rfl
      have q1 := Rr.cell 1 _ rfl
      have q2 := Rr.cell 2 _ rfl
      have q3 := Rr.cell 3 _ rfl
      have q4 := Rr.cell 4 _ rfl
      have q5 := Rr.cell 5 _ rfl
      have q6 := Rr.cell 6 _ rfl
      have q7 := Rr.cell 7 _ rfl
      have q8 := Rr.cell 8 _ rfl
      exact bodyPost_ret (v := .agg #[.int .i64 0, .int .i64 0, .bool false, .bool false, .int .i64 0, .bool qh, .slice s1 qbs.length t1, .slice (some ⟨gr, 0, none⟩) qrs.length t2, .slice s3 qds.length t3]) (by simp [results, Tryz.results81, go_sem, q0, q1, q2, q3, q4, q5, q6, q7, q8]) rfl ⟨InstQ.setR (⟨qh, .slice s1 qbs.length t1, qbs, .slice (some ⟨gr, 0, none⟩) qrs.length t2, qrs, .slice s3 qds.length t3, qds⟩ : InstQ) 0 n value hrq, by rw [HD0.out]; rfl, HQ.out.1, HQ.out.2.2.2 _, HQ.out.2.1, HQ.out.2.2.1, hBr⟩

set_option maxHeartbeats 4000000 in
theorem specFirstReport_any (p : InstQ) (node value : Int) (w : World) (h : instK.rd w p) (hl : p.n ≤ 1048576) :
  Calls Tryz.prog 22 #[.agg #[.bool p.has, p.vb, p.vr, p.vd], .int .i64 node, .int .i64 value] w fun e w' => ∃ q : InstQ, e = .returned (.agg (resC (frC p.e node value) 0 false false 0 q)) ∧ q.e = frI p.e node value ∧ instK.own w' q ∧ (instK.foot q).Nodup ∧ (∀ k ∈ instK.foot q, w.heap.size ≤ k) ∧ Below w.heap.size w w' := by
 have hB : Below w.heap.size w ((w.alloc (.cells #[.bool p.has, p.vb, p.vr, p.vd] 28)).alloc (.cells #[.int .i64 0, .int .i64 0, .bool false, .bool false, .int .i64 0, .bool false, .slice none 0 0, .slice none 0 0, .slice none 0 0] 34)) := by go_grown
 have Rb := Blk.new (w.alloc (.cells #[.bool p.has, p.vb, p.vr, p.vd] 28)) 34 #[.int .i64 0, .int .i64 0, .bool false, .bool false, .int .i64 0, .bool false, .slice none 0 0, .slice none 0 0, .slice none 0 0]
 rw [World.size_alloc] at Rb
 have hws : w.heap.size + 2 ≤ ((w.alloc (.cells #[.bool p.has, p.vb, p.vr, p.vd] 28)).alloc (.cells #[.int .i64 0, .int .i64 0, .bool false, .bool false, .int .i64 0, .bool false, .slice none 0 0, .slice none 0 0, .slice none 0 0] 34)).heap.size := by simp
 have hP : InstP ((w.alloc (.cells #[.bool p.has, p.vb, p.vr, p.vd] 28)).alloc (.cells #[.int .i64 0, .int .i64 0, .bool false, .bool false, .int .i64 0, .bool false, .slice none 0 0, .slice none 0 0, .slice none 0 0] 34)) w.heap.size 0 p := ⟨(box4_new w _ _ _ _ 28).below (by go_grown), instK.rd_below h hB⟩
 have hf1 := l6Fault_any w.heap.size 0 p _ hP hl
 have hst := fun w' hP hb h0 => l6First_any w.heap.size 0 p node value w' hP hb hl h0
 have HC : Hid (insF p.e ≠ 0 → frC p.e node value = insF p.e ∧ frI p.e node value = ine0) := fun h0 => (by have e : atC p.e node 0 = insF p.e := if_neg h0; have := (fr_facts p.e node value).1 (by rw [e]; exact h0); rw [e] at this; exact this)
 generalize frC p.e node value = D at *
 generalize frI p.e node value = E at *
 generalize insF p.e = C at *
 go_enter Tryz.func22, Tryz.ntmps22
 go_wp2_with fail
 generalize (w.alloc (.cells #[.bool p.has, p.vb, p.vr, p.vd] 28)).alloc (.cells #[.int .i64 0, .int .i64 0, .bool false, .bool false, .int .i64 0, .bool false, .slice none 0 0, .slice none 0 0, .slice none 0 0] 34) = W at *
 refine hf1.mono ?_
 rintro e w1 ⟨rfl, hb1⟩
 replace hB := hB.trans (hb1.mono hB.size)
 replace Rb := Rb.below hb1
 have hP1 := hP.below hb1
 have hws1 : w.heap.size + 2 ≤ w1.heap.size := by have := hb1.size; omega
 clear hf1 hb1 hP
 by_cases h0 : C = 0
 case neg =>
  have E1 : Hid (D = C ∧ E = ine0) := HC.out h0
  have h0' : (C != 0) = true := by simpa using h0
  clear HC h0 hst
  go_wp2_with fail
  refine (l6Bad_any C _).mono ?_
  rintro e w8 ⟨rfl, hb8⟩
  replace hB := hB.trans (hb8.mono hB.size)
  replace Rb := Rb.below hb8
  clear hb8
  have Rr := Rb.row #[.int .i64 C, .int .i64 0, .bool false, .bool false, .int .i64 0, .bool false, .slice none 0 0, .slice none 0 0, .slice none 0 0]
  have hBr := below_row hB (g := w.heap.size + 1) (by omega) #[.int .i64 C, .int .i64 0, .bool false, .bool false, .int .i64 0, .bool false, .slice none 0 0, .slice none 0 0, .slice none 0 0]
  have hsr : (Tryz.prog.info? 34).map (·.size) = some (#[.int .i64 C, .int .i64 0, .bool false, .bool false, .int .i64 0, .bool false, .slice none 0 0, .slice none 0 0, .slice none 0 0] : Array Value).size := sz_res
  go_wp2_with (first | (refine st_row (by kernel_rfl) 34 _ _ rfl _ #[.int .i64 C, .int .i64 0, .bool false, .bool false, .int .i64 0, .bool false, .slice none 0 0, .slice none 0 0, .slice none 0 0] rfl rfl 34 _ Rb hsr rfl (by simp [Value.oneCell']) ?_))
  have q0 := Rr.cell 0 _ rfl
  have q1 := Rr.cell 1 _ rfl
  have q2 := Rr.cell 2 _ rfl
  have q3 := Rr.cell 3 _ rfl
  have q4 := Rr.cell 4 _ rfl
  have q5 := Rr.cell 5 _ rfl
  have q6 := Rr.cell 6 _ rfl
  have q7 := Rr.cell 7 _ rfl
  have q8 := Rr.cell 8 _ rfl
  exact bodyPost_ret (v := .agg #[.int .i64 C, .int .i64 0, .bool false, .bool false, .int .i64 0, .bool false, .slice none 0 0, .slice none 0 0, .slice none 0 0]) (by simp [results, Tryz.results22, go_sem, q0, q1, q2, q3, q4, q5, q6, q7, q8]) rfl ⟨inst0, by rw [E1.out.1]; rfl, E1.out.2.symm, inst0_own _, inst0_nd, fun k hk => by rw [inst0_ft] at hk; simp at hk, hBr⟩

 case pos =>
  subst h0
  clear HC
  go_wp2_with fail
  refine (hst w1 hP1 (by omega) (by trivial)).mono ?_
  rintro e w2 ⟨q, rfl, eq, oq, nq, gq, hb2⟩
  replace Rb := Rb.below hb2
  replace hB := hB.trans (hb2.mono hB.size)
  have HQ : Hid (q.e = E ∧ (instK.foot q).Nodup ∧ (∀ k ∈ instK.foot q, w.heap.size ≤ k) ∧ ∀ cs, instK.own (w2.setRow (w.heap.size + 1) cs) q) := ⟨eq, nq, fun k hk => by have := gq k hk; omega, fun cs => instK.own_out oq (out_row w2 (w.heap.size + 1) cs) (fun k hk => by have := gq k hk; simp only [List.mem_singleton]; omega)⟩
  clear hst hP1 hb2 eq nq gq
  obtain ⟨qh, qb, qbs, qr, qrs, qd, qds⟩ := q
  obtain ⟨s1, t1, rfl⟩ : ∃ a c, qb = .slice a qbs.length c := oq.1.shape
  obtain ⟨s2, t2, rfl⟩ : ∃ a c, qr = .slice a qrs.length c := oq.2.1.shape
  obtain ⟨s3, t3, rfl⟩ : ∃ a c, qd = .slice a qds.length c := oq.2.2.shape
  have Rr := Rb.row #[.int .i64 D, .int .i64 0, .bool false, .bool false, .int .i64 0, .bool qh, .slice s1 qbs.length t1, .slice s2 qrs.length t2, .slice s3 qds.length t3]
  have hBr := below_row hB (g := w.heap.size + 1) (by omega) #[.int .i64 D, .int .i64 0, .bool false, .bool false, .int .i64 0, .bool qh, .slice s1 qbs.length t1, .slice s2 qrs.length t2, .slice s3 qds.length t3]
  have hsr : (Tryz.prog.info? 34).map (·.size) = some (#[.int .i64 D, .int .i64 0, .bool false, .bool false, .int .i64 0, .bool qh, .slice s1 qbs.length t1, .slice s2 qrs.length t2, .slice s3 qds.length t3] : Array Value).size := sz_res
  clear oq
  go_wp2_with (first | (refine st_row (by kernel_rfl) 34 _ _ rfl _ #[.int .i64 D, .int .i64 0, .bool false, .bool false, .int .i64 0, .bool qh, .slice s1 qbs.length t1, .slice s2 qrs.length t2, .slice s3 qds.length t3] rfl rfl 34 _ Rb hsr rfl (by simp [Value.oneCell']) ?_))
  have q0 := Rr.cell 0 _ rfl
  have q1 := Rr.cell 1 _ rfl
  have q2 := Rr.cell 2 _ rfl
  have q3 := Rr.cell 3 _ rfl
  have q4 := Rr.cell 4 _ rfl
  have q5 := Rr.cell 5 _ rfl
  have q6 := Rr.cell 6 _ rfl
  have q7 := Rr.cell 7 _ rfl
  have q8 := Rr.cell 8 _ rfl
  exact bodyPost_ret (v := .agg #[.int .i64 D, .int .i64 0, .bool false, .bool false, .int .i64 0, .bool qh, .slice s1 qbs.length t1, .slice s2 qrs.length t2, .slice s3 qds.length t3]) (by simp [results, Tryz.results22, go_sem, q0, q1, q2, q3, q4, q5, q6, q7, q8]) rfl ⟨⟨qh, .slice s1 qbs.length t1, qbs, .slice s2 qrs.length t2, qrs, .slice s3 qds.length t3, qds⟩, rfl, HQ.out.1, HQ.out.2.2.2 _, HQ.out.2.1, HQ.out.2.2.1, hBr⟩

end Go.Proofs.YtmgkjcobdmdjmaaGreatDoor
namespace Go.Proofs.YtmgkjcobdmdjmaaGreatDoor
open Go.RowKit
open Go.BigFrame
set_option linter.unusedVariables false
set_option maxRecDepth 100000
set_option linter.unusedSimpArgs false
set_option maxHeartbeats 1000000 in
theorem l6Open_any (w : World) :
  Calls Tryz.prog 178 #[] w fun e w' => ∃ a c, e = .returned (.slice a 3 c) ∧ intK.Own w' (.slice a 3 c) [3, 3, 3] ∧ (∀ k ∈ intK.fp (.slice a 3 c) [3, 3, 3], w.heap.size ≤ k) ∧ Below w.heap.size w w' := by
 have hB : Below w.heap.size w (w.alloc (.cells #[.int .i64 3, .int .i64 3, .int .i64 3] 2)) := by go_grown
 have ho := World.ownsRow_lit (e := 2) (size := 1) w #[.int .i64 3, .int .i64 3, .int .i64 3] 3 (Nat.le_refl _) (by decide) rfl
 obtain ⟨O, G⟩ := list_own (zs := [3, 3, 3]) (n := 3) rfl ho
 have HO : Hid (_ ∧ _) := And.intro O G
 clear ho O G
 go_enter Tryz.func178, Tryz.ntmps178
 go_wp2
 go_ret
 exact ⟨_, _, rfl, HO.out.1, HO.out.2, hB⟩

/-- A report in the next round: its code, and the rounds behind it. -/
def rpC (rs : List RoundE) (nx n : Nat) : Int := if nx < 4 ∧ nx < rs.length ∧ repA rs nx n ≠ 3 then 6 else 0

def rpI (rs : List RoundE) (nx n : Nat) (v : Int) : List RoundE := if nx < 4 ∧ ¬ (nx < rs.length ∧ repA rs nx n ≠ 3) then rstR (ensR rs nx) nx n v else rs

theorem repA_at (ks : List RoundQ) (r n : Nat) (hr : r < ks.length) (hn : n < (ks[r]).rep.length) : repA (ks.map RoundQ.e) r n = (ks[r]).rep[n] := by
 unfold repA
 rw [rnd_at ks r hr]
 show (ks[r]).rep.getD n 0 = _
 simp [List.getD, hn]

set_option maxHeartbeats 4000000 in
theorem l6Report_any (g : Nat) (q : InstQ) (n nx : Nat) (v : Int) (w : World) (hG : Blk w g 28 #[.bool q.has, q.vb, q.vr, q.vd]) (oq : instK.own w q) (nq : (instK.foot q).Nodup) (hg : g ∉ instK.foot q) (hwel : Wel q.e.rounds) (h4 : q.rounds.length ≤ 4) (h0 : 0 < q.rounds.length) (hnx : nx ≤ q.rounds.length) (hn : n < 3) :
  Calls Tryz.prog 149 #[.pointer (some ⟨g, 0, none⟩), .int .i64 (n : Int), .int .i64 (nx : Int), .int .i64 v] w fun e w' => ∃ q' : InstQ, e = .returned (.int .i64 (rpC q.e.rounds nx n)) ∧ q'.e = ⟨q.e.has, q.e.batch, rpI q.e.rounds nx n v, q.e.dec⟩ ∧ Blk w' g 28 #[.bool q'.has, q'.vb, q'.vr, q'.vd] ∧ instK.own w' q' ∧ (instK.foot q').Nodup ∧ (∀ k ∈ instK.foot q', k ∈ instK.foot q ∨ w.heap.size ≤ k) ∧ Out (g :: instK.foot q) w w' := by
 have hrl : q.e.rounds.length = q.rounds.length := List.length_map _
 have hgl := hG.lt
 by_cases hx4 : nx < 4
 case neg =>
  have e1 : rpC q.e.rounds nx n = 0 := if_neg (fun h => hx4 h.1)
  have e2 : rpI q.e.rounds nx n v = q.e.rounds := if_neg (fun h => hx4 h.1)
  rw [e1, e2]
  have hx4' : (4 : Int) ≤ nx := by omega
  go_enter Tryz.func149, Tryz.ntmps149
  go_wp2
  go_ret
  exact ⟨q, rfl, rfl, hG, oq, nq, fun k hk => Or.inl hk, Out.refl _ _⟩
 case pos =>
  have hx4' : (nx : Int) < 4 := by omega
  by_cases hlt : nx < q.rounds.length
  case pos =>
   obtain ⟨hl1, _⟩ := wel_at hwel nx (by omega)
   have hat : q.e.rounds.getD nx rnd0 = RoundQ.e q.rounds[nx] := rnd_at q.rounds nx hlt
   rw [hat] at hl1
   replace hl1 : (q.rounds[nx]).rep.length = 3 := hl1
   have hre : repA q.e.rounds nx n = (q.rounds[nx]).rep[n] := repA_at q.rounds nx n hlt (by omega)
   obtain ⟨g5, cap5, hv5, hg5, kc, kf, own5, foot5⟩ := own_setR oq nq nx n hlt (by omega) v
   rw [hl1] at hv5
   rw [← hre] at kc
   have hne : g ≠ g5 := fun e => hg (e ▸ hg5)
   have hG5 := hG.other (b' := g5) hne n (iv v)
   have hU5 : Out (g :: instK.foot q) w (w.setCell ⟨g5, n, none⟩ (iv v)) := (Out.refl _ w).set (List.mem_cons_of_mem _ hg5)
   have he5 := setR_e q nx n v hlt
   have HC : Hid ((repA q.e.rounds nx n ≠ 3 → rpC q.e.rounds nx n = 6 ∧ rpI q.e.rounds nx n v = q.e.rounds) ∧ (repA q.e.rounds nx n = 3 → rpC q.e.rounds nx n = 0 ∧ rpI q.e.rounds nx n v = rstR q.e.rounds nx n v)) := by
    refine ⟨fun h3 => ⟨if_pos ⟨hx4, by omega, h3⟩, if_neg (fun h => h.2 ⟨by omega, h3⟩)⟩, fun h3 => ⟨if_neg (fun h => h.2.2 h3), ?_⟩⟩
    unfold rpI
    rw [if_pos ⟨hx4, fun h => h.2 h3⟩]
    unfold ensR
    rw [if_neg (by omega)]
   have HR : Hid (∀ w', w' = w.setCell ⟨g5, n, none⟩ (iv v) → Blk w' g 28 #[.bool q.has, q.vb, q.vr, q.vd] ∧ instK.own w' (q.setR nx n v hlt) ∧ Out (g :: instK.foot q) w w') := fun w' hw' => by subst hw'; exact ⟨hG5, own5, hU5⟩
   have HQ : Hid (instK.own w q ∧ (q.setR nx n v hlt).e = ⟨q.e.has, q.e.batch, rstR q.e.rounds nx n v, q.e.dec⟩ ∧ (instK.foot (q.setR nx n v hlt)).Nodup ∧ ∀ k ∈ instK.foot (q.setR nx n v hlt), k ∈ instK.foot q) := ⟨oq, he5, by rw [foot5]; exact nq, fun k hk => by rw [foot5] at hk; exact hk⟩
   obtain ⟨va, vk, hvr⟩ : ∃ a c, q.vr = .slice a q.rounds.length c := oq.2.1.shape
   have oR := oq.2.1
   rw [hvr] at oR
   obtain ⟨gr, rfl⟩ := oR.blkOf h0
   have hcr := (oR.cell nx hlt 0 (.slice (some ⟨g5, 0, none⟩) 3 cap5) (by show ([(q.rounds[nx]).vr, (q.rounds[nx]).vp] : List Value)[0]? = _; rw [← hv5]; rfl)).1
   have hcr2 : w.cell? ⟨gr, nx * 2, none⟩ = some (.slice (some ⟨g5, 0, none⟩) 3 cap5) := hcr
   have z2 : w.cell? ⟨g, 2, none⟩ = some (.slice (some ⟨gr, 0, none⟩) q.rounds.length vk) := by rw [← hvr]; exact hG.cell 2 _ rfl
   have hnri : (nx : Int) < q.rounds.length := by omega
   have hneq : ((nx : Int) == (q.rounds.length : Int)) = false := by simp; omega
   have hn3 : (n : Int) < 3 := by omega
   clear hcr oR hvr foot5 own5 hU5 hG5 he5 hre hv5 hat
   generalize repA q.e.rounds nx n = RE at *
   by_cases hr3 : RE = 3
   case neg =>
    have hr3' : (RE != 3) = true := by simpa using hr3
    obtain ⟨e1, e2⟩ := HC.out.1 hr3
    rw [e1, e2]
    clear HC e1 e2 hr3
    go_enter Tryz.func149, Tryz.ntmps149
    go_wp2
    go_ret
    exact ⟨q, rfl, rfl, hG, HQ.out.1, nq, fun k hk => Or.inl hk, Out.refl _ _⟩
   case pos =>
    have hr3' : (RE != 3) = false := by rw [hr3]; rfl
    obtain ⟨e1, e2⟩ := HC.out.2 hr3
    rw [e1, e2]
    clear HC e1 e2 hr3
    go_enter Tryz.func149, Tryz.ntmps149
    go_wp2
    go_ret
    obtain ⟨k1, k2, k3⟩ := HR.out _ rfl
    exact ⟨q.setR nx n v hlt, rfl, HQ.out.2.1, k1, k2, HQ.out.2.2.1, fun k hk => Or.inl (HQ.out.2.2.2 k hk), k3⟩
  case neg =>
   have hnl : nx = q.rounds.length := by omega
   have e1 : rpC q.e.rounds nx n = 0 := if_neg (fun h => by omega)
   have e2 : rpI q.e.rounds nx n v = rstR (ensR q.e.rounds nx) nx n v := if_pos ⟨hx4, fun h => by omega⟩
   have e3 : ensR q.e.rounds nx = q.e.rounds ++ [opn3] := if_pos (by omega)
   rw [e1, e2, e3]
   have HPE : Hid (∀ (ks : List RoundQ) (vr : Value) (hk : nx < ks.length), ks.map RoundQ.e = q.e.rounds ++ [opn3] → (InstQ.setR ⟨q.has, q.vb, q.batch, vr, ks, q.vd, q.dec⟩ nx n v hk).e = ⟨q.e.has, q.e.batch, rstR (q.e.rounds ++ [opn3]) nx n v, q.e.dec⟩) := fun ks vr hk he => by
    rw [setR_e]
    show InstE.mk q.has (q.batch.map TxnQ.e) (rstR (ks.map RoundQ.e) nx n v) q.dec = _
    rw [he]
    rfl
   have HQE : Hid (q.rounds.map RoundQ.e = q.e.rounds) := (rfl : _ = _)
   have hneq : ((nx : Int) == (q.rounds.length : Int)) = true := by rw [hnl]; simp
   clear e1 e2 e3 hx4 hlt
   obtain ⟨i0, hi, hz0, hz1, hz2⟩ := info_parts infoRound
   generalize q.e = pe at *
   obtain ⟨has, vb, batch, vr, qs, vd, dec⟩ := q
   obtain ⟨ba, bk, rfl⟩ : ∃ a c, vb = .slice a batch.length c := oq.1.shape
   obtain ⟨sa, sc, rfl⟩ : ∃ a c, vr = .slice a qs.length c := oq.2.1.shape
   obtain ⟨da, dk, rfl⟩ : ∃ a c, vd = .slice a dec.length c := oq.2.2.shape
   dsimp only at hG HPE HQE hneq h4 h0 hnl hrl
   have HNL : Hid (nx = qs.length) := hnl
   clear hnl hrl hnx
   obtain ⟨hn1, hn23, hd1⟩ := List.nodup_append.1 nq
   obtain ⟨hn2, hn3', hd2⟩ := List.nodup_append.1 hn23
   obtain ⟨o1, hO, o3⟩ := oq
   dsimp only at o1 hO o3
   have hgT : g ∉ txnK.fp (.slice ba batch.length bk) batch := fun h => hg (List.mem_append_left _ h)
   have hgR : g ∉ roundK.fp (.slice sa qs.length sc) qs := fun h => hg (List.mem_append_right _ (List.mem_append_left _ h))
   have hgD : g ∉ intK.fp (.slice da dec.length dk) dec := fun h => hg (List.mem_append_right _ (List.mem_append_right _ h))
   have hFg : g ∉ blk (.slice sa qs.length sc) := fun hx => hgR (by simp only [Kind.fp, List.mem_append]; exact Or.inl hx)
   have HF : Hid (∀ x ∈ roundK.fp (.slice sa qs.length sc) qs, x < w.heap.size) := hO.lt
   have z2 : w.cell? ⟨g, 2, none⟩ = some (.slice sa qs.length sc) := hG.cell 2 _ rfl
   have m0 := lato_cell (F := blk (.slice sa qs.length sc)) z2 hFg
   have hnn : Nonempty (LatO (blk (.slice sa qs.length sc)) w) := ⟨⟨w, Out.refl _ _⟩⟩
   have hW : Below w.heap.size w w.drew := (Below.refl _ _).drew
   have hnw : ∀ w', Below w.heap.size w w' → ∃ u : LatO (blk (.slice sa qs.length sc)) w, w' = u.val := fun w' hw' => ⟨⟨w', Out.of_below hw'⟩, rfl⟩
   have hn3 : (n : Int) < 3 := by omega
   go_enter Tryz.func149, Tryz.ntmps149
   go_wp2_with fail
   clear z2
   refine beginX (S := fun w' => ∃ u : LatO (blk (.slice sa qs.length sc)) w, w' = u.val) (R := fun _ _ => False) 12 (by kernel_rfl) (fun _ _ _ _ h => h.elim) ?_
   refine segX [(0, 5)] 8 (by kernel_rfl) (by kernel_rfl) (by kernel_rfl) (by kernel_rfl) (by kernel_rfl) (hnw _ hW) ?_
   simp only [pickR, List.toList_toArray, List.flatMap_cons, List.flatMap_nil, List.drop_succ_cons, List.drop_zero, List.take_succ_cons, List.take_zero, List.cons_append, List.nil_append, List.append_nil]
   repeat go_big_quiet_step (fail)
   refine wpQuiet_nil ?_
   refine callX 5 (some 23) 178 #[] 7 (by kernel_rfl) (by kernel_rfl) (by kernel_rfl) (by kernel_rfl) (by kernel_rfl) rfl ?_
   refine (l6Open_any _).mono ?_
   rintro e w8 ⟨x1, y1, rfl, oa, ga, hb8⟩
   have LA : ∀ x ∈ intK.fp (.slice x1 3 y1) [3, 3, 3], w.heap.size ≤ x := fun x hx => by have := ga x hx; have := hW.size; omega
   have MA := oa.lt
   replace hW := hW.trans (hb8.mono hW.size)
   clear hb8 ga
   refine Or.inl ⟨_, rfl, hnw _ hW, ?_⟩
   simp only [Act.put, List.getElem_toArray, List.getElem_cons_succ, List.getElem_cons_zero, List.setIfInBounds_toArray, List.set_cons_zero, List.set_cons_succ]
   refine callX 6 (some 24) 178 #[] 6 (by kernel_rfl) (by kernel_rfl) (by kernel_rfl) (by kernel_rfl) (by kernel_rfl) rfl ?_
   refine (l6Open_any _).mono ?_
   rintro e w9 ⟨x2, y2, rfl, ob, gb, hb9⟩
   have LB : ∀ x ∈ intK.fp (.slice x2 3 y2) [3, 3, 3], w.heap.size ≤ x := fun x hx => by have := gb x hx; have := hW.size; omega
   have hdis : ∀ x ∈ intK.fp (.slice x1 3 y1) [3, 3, 3], ∀ y ∈ intK.fp (.slice x2 3 y2) [3, 3, 3], x ≠ y := fun x hx y hy e => by have := MA x hx; have := gb y hy; omega
   replace oa := oa.below hb9
   replace hW := hW.trans (hb9.mono hW.size)
   clear hb9 gb MA
   refine Or.inl ⟨_, rfl, hnw _ hW, ?_⟩
   simp only [Act.put, List.getElem_toArray, List.getElem_cons_succ, List.getElem_cons_zero, List.setIfInBounds_toArray, List.set_cons_zero, List.set_cons_succ]
   refine oneX 7 _ 5 (by kernel_rfl) rfl (by kernel_rfl) ?_
   go_wp2
   refine ThenX.to ⟨Or.inr (hnw _ hW), ?_⟩
   refine oneX 8 _ 4 (by kernel_rfl) rfl (by kernel_rfl) ?_
   have hbA : Below w9.heap.size w9 (w9.alloc (.cells #[.slice x1 3 y1, .slice x2 3 y2] 125)) := by go_grown
   replace hW := hW.trans (hbA.mono hW.size)
   replace oa := oa.below hbA
   replace ob := ob.below hbA
   have hsrc : ∀ j u, [Value.slice x1 3 y1, .slice x2 3 y2][j]? = some u → (w9.alloc (.cells #[.slice x1 3 y1, .slice x2 3 y2] 125)).cell? ((⟨w9.heap.size, 0, none⟩ : Addr).add j) = some u := by
    intro j u hj; match j, hj with | 0, hj => simp at hj; subst hj; simp [Addr.add] | 1, hj => simp at hj; subst hj; simp [Addr.add]
   go_wp2
   refine ThenX.to ⟨Or.inr (hnw _ hW), ?_⟩
   generalize w9.alloc (.cells #[.slice x1 3 y1, .slice x2 3 y2] 125) = Z at *
   clear hbA
   have hO3 := hO.below hW
   have hrow0 := hO3.1
   have hsZ := hW.size
   refine oneX 9 _ 3 (by kernel_rfl) rfl (by kernel_rfl) ?_
   refine wpList_append_own_at _ rfl _ _ 25 rfl 0 125 i0 (.agg #[.slice none 0 0, .slice none 0 0]) 2 48 Tryz.underlying25 hi hz0 hz1 hz2 rfl (by decide) _ qs.length (roundK.row qs) rfl hrow0 ⟨w9.heap.size, 0, none⟩ 1 1 [.slice x1 3 y1, .slice x2 3 y2] rfl rfl hsrc ?c2 ?c3 ?c4 ?c5 ?_
   case c2 => intro u hu; simp at hu; rcases hu with rfl | rfl <;> rfl
   case c3 => unfold maxLen; omega
   case c4 => omega
   case c5 => omega
   intro v' w5 hown hgrow hnil hat
   clear hnil hrow0 hsrc
   obtain ⟨hO5, hn5, hlo5, hou⟩ := hO3.snoc (p := (⟨.slice x1 3 y1, [3, 3, 3], .slice x2 3 y2, [3, 3, 3]⟩ : RoundQ)) (B := 0) hn2 (fun _ _ => Nat.zero_le _) ⟨oa, ob⟩ (List.nodup_append.2 ⟨intK_nodup _ _, intK_nodup _ _, hdis⟩) (fun x hx hx' => by
    have := HF.out x hx'
    rcases List.mem_append.1 hx with hx | hx
    ·have := LA x hx; omega
    ·have := LB x hx; omega) (fun x hx => Nat.zero_le _) (Nat.zero_le _) hown hgrow hat
   have hft : ∀ k ∈ roundK.fp v' (qs ++ [(⟨.slice x1 3 y1, [3, 3, 3], .slice x2 3 y2, [3, 3, 3]⟩ : RoundQ)]), k ∈ roundK.fp (.slice sa qs.length sc) qs ∨ w.heap.size ≤ k := by
    intro k hk
    unfold Kind.fp at hk ⊢
    rw [List.flatMap_append] at hk
    rcases List.mem_append.1 hk with hk | hk
    ·rcases hat with hat | hat
     ·left
      apply List.mem_append_left
      unfold blk at hk ⊢
      rw [hat] at hk
      exact hk
     ·right
      unfold blk at hk
      rw [hat] at hk
      simp only [Option.toList, List.mem_singleton] at hk
      omega
    ·rcases List.mem_append.1 hk with hk | hk
     ·left
      exact List.mem_append_right _ hk
     ·right
      have hk' : k ∈ roundK.foot (⟨.slice x1 3 y1, [3, 3, 3], .slice x2 3 y2, [3, 3, 3]⟩ : RoundQ) := by simpa using hk
      rcases List.mem_append.1 hk' with hk' | hk'
      ·exact LA k hk'
      ·exact LB k hk'
   obtain ⟨na, nc, rfl⟩ := hO5.shape
   have hO9 : Out (blk (.slice sa qs.length sc)) w w5 := (Out.of_below hW).trans hou
   have Bg5 : Blk w5 g 28 #[.bool has, .slice ba batch.length bk, .slice sa qs.length sc, .slice da dec.length dk] := (hO9.block g hgl hFg).trans hG
   have hks : (qs ++ [(⟨.slice x1 3 y1, [3, 3, 3], .slice x2 3 y2, [3, 3, 3]⟩ : RoundQ)]).map RoundQ.e = pe.rounds ++ [opn3] := by rw [List.map_append, HQE.out]; rfl
   have hkl : (qs ++ [(⟨.slice x1 3 y1, [3, 3, 3], .slice x2 3 y2, [3, 3, 3]⟩ : RoundQ)]).length = qs.length + 1 := by simp
   have hkn : nx < (qs ++ [(⟨.slice x1 3 y1, [3, 3, 3], .slice x2 3 y2, [3, 3, 3]⟩ : RoundQ)]).length := by have := HNL.out; omega
   have hke : ((qs ++ [(⟨.slice x1 3 y1, [3, 3, 3], .slice x2 3 y2, [3, 3, 3]⟩ : RoundQ)])[nx]'hkn) = (⟨.slice x1 3 y1, [3, 3, 3], .slice x2 3 y2, [3, 3, 3]⟩ : RoundQ) := by
    simp only [HNL.out]
    simp
   have hgN : g ∉ roundK.fp (.slice na (qs ++ [(⟨.slice x1 3 y1, [3, 3, 3], .slice x2 3 y2, [3, 3, 3]⟩ : RoundQ)]).length nc) (qs ++ [(⟨.slice x1 3 y1, [3, 3, 3], .slice x2 3 y2, [3, 3, 3]⟩ : RoundQ)]) := fun hx => by
    rcases hft g hx with hx | hx
    ·exact hgR hx
    ·omega
   have hoB : ∀ x ∈ blk (.slice sa qs.length sc), x ∈ roundK.fp (.slice sa qs.length sc) qs := fun x hx => by simp only [Kind.fp, List.mem_append]; exact Or.inl hx
   have p1 := o1.out hO9 (fun x hx hx' => hd1 x hx x (List.mem_append_left _ (hoB x hx')) rfl)
   have p3 := o3.out hO9 (fun x hx hx' => hd2 x (hoB x hx') x hx rfl)
   have T1 := o1.lt
   have T3 := o3.lt
   have hU9 : Out (g :: instK.foot (⟨has, .slice ba batch.length bk, batch, .slice sa qs.length sc, qs, .slice da dec.length dk, dec⟩ : InstQ)) w w5 := hO9.mono (fun x hx => List.mem_cons_of_mem _ (List.mem_append_right _ (List.mem_append_left _ (hoB x hx))))
   generalize hKS : qs ++ [(⟨.slice x1 3 y1, [3, 3, 3], .slice x2 3 y2, [3, 3, 3]⟩ : RoundQ)] = ks at *
   have hkr : (ks[nx]).rep = [3, 3, 3] := by rw [hke]
   clear hKS hkl hke hou oa ob LA LB hdis hown hgrow hat hO3 m0 HF
   go_wp2
   refine ThenX.to ⟨Or.inr ⟨⟨_, hO9⟩, rfl⟩, ?_⟩
   simp only [Act.put, List.getElem_toArray, List.getElem_cons_succ, List.getElem_cons_zero, List.setIfInBounds_toArray, List.set_cons_zero, List.set_cons_succ]
   refine oneX 10 _ 2 (by kernel_rfl) rfl (by kernel_rfl) ?_
   go_wp2
   refine ThenX.to ⟨Or.inr ⟨⟨_, hO9⟩, rfl⟩, ?_⟩
   refine oneX 11 _ 1 (by kernel_rfl) rfl (by kernel_rfl) ?_
   go_wp2
   refine ThenX.to ⟨Or.inr ⟨⟨_, hO9⟩, rfl⟩, ?_⟩
   refine oneX 12 _ 0 (by kernel_rfl) rfl (by kernel_rfl) ?_
   have t3 := Bg5.cell 2 _ rfl
   have t4 := Bg5.frozen 2
   have Bg6 : Blk (w5.setCell ⟨g, 2, none⟩ (.slice na ks.length nc)) g 28 #[.bool has, .slice ba batch.length bk, .slice na ks.length nc, .slice da dec.length dk] := Bg5.set 2 (.slice na ks.length nc)
   have U6 := Out.setCell w5 g 2 (.slice na ks.length nc)
   have r1 := p1.out U6 (fun x hx hx' => by simp only [List.mem_singleton] at hx'; subst hx'; exact hgT hx)
   have r2 := hO5.out U6 (fun x hx hx' => by simp only [List.mem_singleton] at hx'; subst hx'; exact hgN hx)
   have r3 := p3.out U6 (fun x hx hx' => by simp only [List.mem_singleton] at hx'; subst hx'; exact hgD hx)
   have hU6 := hU9.set (b := g) (j := 2) (u := .slice na ks.length nc) (List.mem_cons_self ..)
   have ok : instK.own (w5.setCell ⟨g, 2, none⟩ (.slice na ks.length nc)) (⟨has, .slice ba batch.length bk, batch, .slice na ks.length nc, ks, .slice da dec.length dk, dec⟩ : InstQ) := ⟨r1, r2, r3⟩
   have nk : (instK.foot (⟨has, .slice ba batch.length bk, batch, .slice na ks.length nc, ks, .slice da dec.length dk, dec⟩ : InstQ)).Nodup := by
    refine List.nodup_append.2 ⟨hn1, List.nodup_append.2 ⟨hn5, hn3', fun x hx y hy e => ?_⟩, fun x hx y hy e => ?_⟩
    ·subst e
     rcases hft x hx with hx | hx
     ·exact hd2 x hx x hy rfl
     ·have := T3 x hy; omega
    ·subst e
     rcases List.mem_append.1 hy with hy | hy
     ·rcases hft x hy with hy | hy
      ·exact hd1 x hx x (List.mem_append_left _ hy) rfl
      ·have := T1 x hx; omega
     ·exact hd1 x hx x (List.mem_append_right _ hy) rfl
   have hgk : g ∉ instK.foot (⟨has, .slice ba batch.length bk, batch, .slice na ks.length nc, ks, .slice da dec.length dk, dec⟩ : InstQ) := fun hx => by
    rcases List.mem_append.1 hx with hx | hx
    ·exact hgT hx
    ·rcases List.mem_append.1 hx with hx | hx
     ·exact hgN hx
     ·exact hgD hx
   have hfk : ∀ x ∈ instK.foot (⟨has, .slice ba batch.length bk, batch, .slice na ks.length nc, ks, .slice da dec.length dk, dec⟩ : InstQ), x ∈ instK.foot (⟨has, .slice ba batch.length bk, batch, .slice sa qs.length sc, qs, .slice da dec.length dk, dec⟩ : InstQ) ∨ w.heap.size ≤ x := fun x hx => by
    rcases List.mem_append.1 hx with hx | hx
    ·exact Or.inl (List.mem_append_left _ hx)
    ·rcases List.mem_append.1 hx with hx | hx
     ·rcases hft x hx with hx | hx
      ·exact Or.inl (List.mem_append_right _ (List.mem_append_left _ hx))
      ·exact Or.inr hx
     ·exact Or.inl (List.mem_append_right _ (List.mem_append_right _ hx))
   clear Bg5 U6 r1 r3 p1 p3 hO5 hn5 hlo5 hft hU9 hn1 hn23 hn2 hn3' hd1 hd2 hgT hgR hgD hgN T1 T3 hoB hG o1 hO o3 nq
   go_wp2
   refine ThenX.to ⟨Or.inl (by kernel_rfl), ?_⟩
   refine endX (by kernel_rfl) ?_
   clear t3 t4 hO9 hnn hnw hFg hW
   generalize w5.setCell ⟨g, 2, none⟩ (.slice na ks.length nc) = w6 at *
   obtain ⟨gr, rfl⟩ := r2.blkOf (by omega)
   have hcz := r2.cell nx hkn 0 ((ks[nx]).vr) rfl
   clear r2
   have hrl3 : (ks[nx]).rep.length = 3 := by rw [hkr]; rfl
   obtain ⟨g5, cap5, hv5, hg5, kc, kf, own5, foot5⟩ := own_setR ok nk nx n hkn (by show n < (ks[nx]).rep.length; omega) v
   have hv5' : (ks[nx]).vr = .slice (some ⟨g5, 0, none⟩) 3 cap5 := by rw [← hrl3]; exact hv5
   rw [hv5'] at hcz
   have hcr2 : w6.cell? ⟨gr, nx * 2, none⟩ = some (.slice (some ⟨g5, 0, none⟩) 3 cap5) := hcz.1
   have kc2 : w6.cell? ⟨g5, n, none⟩ = some (.int .i64 3) := by
    have e : (ks[nx]).rep[n]'(by omega) = 3 := by
     simp only [hkr]
     match n, hn with
     | 0, _ => rfl
     | 1, _ => rfl
     | 2, _ => rfl
    have kc' : w6.cell? ⟨g5, n, none⟩ = some (iv ((ks[nx]).rep[n]'(by omega))) := kc
    rw [e] at kc'
    exact kc'
   have hne : g ≠ g5 := fun e => hgk (e ▸ hg5)
   have hG7 := Bg6.other (b' := g5) hne n (iv v)
   have hU7 : Out (g :: instK.foot (⟨has, .slice ba batch.length bk, batch, .slice sa qs.length sc, qs, .slice da dec.length dk, dec⟩ : InstQ)) w (w6.setCell ⟨g5, n, none⟩ (iv v)) := by
    have := Out.setCell w6 g5 n (iv v)
    refine ⟨this.os.trans hU6.os, this.tape.trans hU6.tape, this.output.trans hU6.output, Nat.le_trans hU6.size this.size, fun x hx hn => ?_⟩
    refine (this.block x (Nat.lt_of_lt_of_le hx hU6.size) (fun hx' => ?_)).trans (hU6.block x hx hn)
    simp only [List.mem_singleton] at hx'
    subst hx'
    rcases hfk x hg5 with h | h
    ·exact hn (List.mem_cons_of_mem _ h)
    ·omega
   have he7 := HPE.out ks (.slice (some ⟨gr, 0, none⟩) ks.length nc) hkn hks
   have z2 : w6.cell? ⟨g, 2, none⟩ = some (.slice (some ⟨gr, 0, none⟩) ks.length nc) := Bg6.cell 2 _ rfl
   have hnri : (nx : Int) < ks.length := by omega
   have HZ : Hid (∀ w', w' = w6.setCell ⟨g5, n, none⟩ (iv v) → ∃ q' : InstQ, q'.e = ⟨pe.has, pe.batch, rstR (pe.rounds ++ [opn3]) nx n v, pe.dec⟩ ∧ Blk w' g 28 #[.bool q'.has, q'.vb, q'.vr, q'.vd] ∧ instK.own w' q' ∧ (instK.foot q').Nodup ∧ (∀ k ∈ instK.foot q', k ∈ instK.foot (⟨has, .slice ba batch.length bk, batch, .slice sa qs.length sc, qs, .slice da dec.length dk, dec⟩ : InstQ) ∨ w.heap.size ≤ k) ∧ Out (g :: instK.foot (⟨has, .slice ba batch.length bk, batch, .slice sa qs.length sc, qs, .slice da dec.length dk, dec⟩ : InstQ)) w w') := fun w' hw' => by
    subst hw'
    exact ⟨_, he7, hG7, own5, by rw [foot5]; exact nk, fun k hk => hfk k (by rw [foot5] at hk; exact hk), hU7⟩
   clear he7 hG7 own5 hU7 foot5 hfk hU6 ok nk hcz kc HPE hks hv5 hv5' Bg6 hkr hgk
   go_wp2
   go_ret
   obtain ⟨q', k1, k2, k3, k4, k5, k6⟩ := HZ.out _ rfl
   exact ⟨q', rfl, k1, k2, k3, k4, k5, k6⟩

end Go.Proofs.YtmgkjcobdmdjmaaGreatDoor
