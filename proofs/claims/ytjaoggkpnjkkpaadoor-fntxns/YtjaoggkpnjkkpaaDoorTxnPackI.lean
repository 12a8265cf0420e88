/- The program's PackTxn: the code and the bytes that the plain functions tell. No condition. -/
import Derived.Test.YtjaoggkpnjkkpaaDoorTxnPack
namespace Go.Proofs.YtjaoggkpnjkkpaaDoor
open Go.RowKit
open Go.BigFrame
set_option linter.unusedVariables false
set_option linter.unusedSimpArgs false

/-- A box of two cells that may be written. -/
structure Box2 (w : World) (b : Nat) (x y : Value) : Prop where
  lt : b < w.heap.size
  c0 : w.cell? ⟨b, 0, none⟩ = some x
  c1 : w.cell? ⟨b, 1, none⟩ = some y
  f0 : w.frozen? ⟨b, 0, none⟩ = false
  f1 : w.frozen? ⟨b, 1, none⟩ = false

theorem Box2.below {w w' : World} {b : Nat} {x y : Value} (h : Box2 w b x y) (hb : Below w.heap.size w w') : Box2 w' b x y :=
  ⟨Nat.lt_of_lt_of_le h.lt hb.size, by rw [hb.cell (p := ⟨b, 0, none⟩) h.lt]; exact h.c0, by rw [hb.cell (p := ⟨b, 1, none⟩) h.lt]; exact h.c1, by rw [hb.frozen (p := ⟨b, 0, none⟩) h.lt]; exact h.f0, by rw [hb.frozen (p := ⟨b, 1, none⟩) h.lt]; exact h.f1⟩

set_option maxHeartbeats 2000000 in
theorem implPackTxn_any (i s q : Int) (a : Option Addr) (cap : Nat) (zs : List ActD) (w : World) (h : ActRow w a zs) (hl : zs.length ≤ 1048576) :
    Calls Tryd.prog 8 #[.agg #[.int .i64 i, .int .i64 s, .int .i64 q, .slice a zs.length cap]] w fun e w' => ∃ b c, e = .returned (.agg #[.int .i64 (pkC i s q zs), .slice b (pkR i s q zs).length c]) ∧
      w'.ownsRow w.heap.size 5 1 (.slice b (pkR i s q zs).length c) (pkR i s q zs).length ((pkR i s q zs).map (Value.int .u8)) ∧ Below w.heap.size w w' := by
  have hB0 := (box4_new w (.int .i64 i) (.int .i64 s) (.int .i64 q) (.slice a zs.length cap) 27).below (w' := (w.alloc (.cells #[.int .i64 i, .int .i64 s, .int .i64 q, .slice a zs.length cap] 27)).alloc (.cells #[.int .i64 0, .slice none 0 0] 33)) (by go_grown)
  have hR0 : Box2 ((w.alloc (.cells #[.int .i64 i, .int .i64 s, .int .i64 q, .slice a zs.length cap] 27)).alloc (.cells #[.int .i64 0, .slice none 0 0] 33)) (w.heap.size + 1) (.int .i64 0) (.slice none 0 0) := ⟨by simp, by simp, by simp, by simp, by simp⟩
  have hb0 : Below w.heap.size w ((w.alloc (.cells #[.int .i64 i, .int .i64 s, .int .i64 q, .slice a zs.length cap] 27)).alloc (.cells #[.int .i64 0, .slice none 0 0] 33)) := by go_grown
  have hsz0 : w.heap.size + 2 ≤ ((w.alloc (.cells #[.int .i64 i, .int .i64 s, .int .i64 q, .slice a zs.length cap] 27)).alloc (.cells #[.int .i64 0, .slice none 0 0] 33)).heap.size := by simp
  have hf := fun w h => txnFault_any i s q a cap zs w h hl
  by_cases h0 : txnF i s q zs = 0
  · obtain ⟨_, _, _, h4, _⟩ := txnF_zero h0
    have hpp := fun a c w h => implPack_any a c (numsL i s q zs zs.length) w h (by rw [numsL_length _ _ _ _ _ (Nat.le_refl _)]; omega)
    have e1 : pkC i s q zs = 0 := h0
    have e2 : pkR i s q zs = packR (numsL i s q zs zs.length) := if_pos h0
    rw [(pk_ok h0).1] at hpp
    rw [e1, e2]
    rw [h0] at hf
    clear e1 e2 h0
    generalize packR (numsL i s q zs zs.length) = L at hpp
    go_enter Tryd.func8, Tryd.ntmps8
    go_wp2_with fail
    generalize (w.alloc (.cells #[.int .i64 i, .int .i64 s, .int .i64 q, .slice a zs.length cap] 27)).alloc (.cells #[.int .i64 0, .slice none 0 0] 33) = W at hB0 hR0 hb0 hsz0
    refine (hf _ (h.below hb0)).mono ?_
    rintro e w1 ⟨rfl, hb⟩
    replace hB0 := hB0.below hb
    replace hR0 := hR0.below hb
    replace hsz0 := Nat.le_trans hsz0 hb.size
    replace hb0 := hb0.trans (hb.mono hb0.size)
    clear hb hf
    obtain ⟨p0, p1, p2, p3⟩ := hB0.zero
    obtain ⟨i0, hi, hz0, hz1, hz2⟩ := info_parts infoI64
    have p4 := (hB0.below (w' := w1.alloc (.cells #[.int .i64 i, .int .i64 s, .int .i64 q] 2)) (by go_grown)).zero.2.2.2
    go_wp2
    clear p0 p1 p2 p3 p4 hB0
    go_loopw [4, 23] (fun v j wr => ∃ k : Nat, k ≤ zs.length ∧ j = .int .i64 k ∧ wr.ownsRow w1.heap.size 2 1 v (numsL i s q zs k).length ((numsL i s q zs k).map (Value.int .i64)) ∧ Below w1.heap.size w1 wr) (fun _ j _ => zs.length - (intOf j).toNat)
    case atStart => exact ⟨0, Nat.zero_le _, rfl, World.ownsRow_lit w1 #[_, _, _] 3 (Nat.le_refl _) (by decide) rfl, by go_grown⟩
    case round =>
      obtain ⟨k, hk, rfl, ho, hb⟩ := hrel
      have hsz := hb.size
      obtain ⟨a1, c1, rfl⟩ := own_shape ho
      by_cases hlt : k < zs.length
      · have hkl : (numsL i s q zs k).length ≤ 100 := by rw [numsL_length i s q zs k hk]; omega
        have hsu : Hid (numsL i s q zs (k + 1) = numsL i s q zs k ++ actNums (zs.getD k actNo)) := numsL_succ i s q zs k hlt
        obtain ⟨b', off, rfl, hbs', hd0, hd1, hd2⟩ := ((h.below hb0).below hb).at k hlt
        generalize zs.getD k actNo = z at hd0 hd1 hd2 hsu
        obtain ⟨z0, z1, z2⟩ := z
        have hW2 : Below w1.heap.size wr ((wr.alloc (.cells #[.int .i64 z0, .int .i64 z1, .int .i64 z2] 54)).alloc (.cells #[.int .i64 z0, .int .i64 z1, .int .i64 z2] 2)) := ((Below.refl _ _).alloc hsz _).alloc (by simp; omega) _
        have ho2 : ((wr.alloc (.cells #[.int .i64 z0, .int .i64 z1, .int .i64 z2] 54)).alloc (.cells #[.int .i64 z0, .int .i64 z1, .int .i64 z2] 2)).ownsRow w1.heap.size 2 1 (.slice a1 (numsL i s q zs k).length c1) (numsL i s q zs k).length ((numsL i s q zs k).map (Value.int .i64)) := (ho.alloc _).alloc _
        go_wp2_with (at_builtin; refine wpList_append_own _ rfl _ _ 39 rfl w1.heap.size 2 i0 (.int .i64 0) 1 8 Tryd.underlying39 hi hz0 hz1 hz2 rfl (by decide) _ (numsL i s q zs k).length ((numsL i s q zs k).map (Value.int .i64)) rfl ho2 ⟨wr.heap.size + 1, 0, none⟩ 3 3 [.int .i64 z0, .int .i64 z1, .int .i64 z2] rfl rfl ?c1 ?c2 ?c3 ?c4 ?c5 ?_)
        case c2 => first | exact ⟨rfl, rfl, rfl⟩ | (intro u hu; simp at hu; rcases hu with rfl | rfl | rfl <;> rfl)
        case c3 => unfold maxLen; omega
        case c4 => omega
        case c5 => first | omega | (simp; omega)
        intro v' w2 hown hgrow _
        obtain ⟨a2, c2, rfl⟩ := own_shape hown
        have hW3 : Below w1.heap.size wr w2 := hW2.grown hgrow (by simp; omega) (fun j hj => (ho.lt j hj).1)
        clear hW2 hgrow ho2 ho
        have R : Hid (w2.ownsRow w1.heap.size 2 1 (.slice a2 ((numsL i s q zs k).length + 3) c2) ((numsL i s q zs k).length + 3) ((numsL i s q zs k ++ [z0, z1, z2]).map (Value.int .i64)) ∧ Below w1.heap.size w1 w2) := ⟨by simpa using hown, hb.trans hW3⟩
        clear hown hW3
        go_wp2
        go_roundw
        case rel =>
          refine ⟨k + 1, by omega, by go_num, ?_, R.out.2⟩
          rw [hsu.out]
          simpa [actNums] using R.out.1
        case measure => simp [intOf]; omega
      · have hkl : k = zs.length := by omega
        subst hkl
        go_wp2_with fail
        refine (hpp _ _ _ (Row.own ho)).mono ?_
        rintro e w2 ⟨b2, c2, rfl, ho2, hb2⟩
        obtain ⟨hlt0, q0, q1, g0, g1⟩ := (hR0.below hb).below hb2
        clear hpp ho
        go_wp2
        refine bodyPost_ret (v := .agg #[.int .i64 0, .slice b2 L.length c2]) (by simp [results, Tryd.results8, go_sem, q0, q1]) rfl ⟨_, _, rfl, ?_, ?_⟩
        · refine own_base (base := wr.heap.size) ?_ (by omega)
          repeat' (refine ownsRow_setCell_below ?_ (by dsimp only; omega) _)
          exact ho2
        · repeat' (refine Below.setCell ?_ (by dsimp only; omega) _)
          exact below_from (below_from hb0 hb) hb2
  · have e1 : pkC i s q zs = txnF i s q zs := rfl
    have e2 : pkR i s q zs = [] := if_neg h0
    rw [e1, e2]
    have hne : (txnF i s q zs != 0) = true := by simpa using h0
    clear e1 e2 h0 hB0
    generalize txnF i s q zs = r at hf hne
    go_enter Tryd.func8, Tryd.ntmps8
    go_wp2_with fail
    generalize (w.alloc (.cells #[.int .i64 i, .int .i64 s, .int .i64 q, .slice a zs.length cap] 27)).alloc (.cells #[.int .i64 0, .slice none 0 0] 33) = W at hR0 hb0 hsz0
    refine (hf _ (h.below hb0)).mono ?_
    rintro e w1 ⟨rfl, hb⟩
    obtain ⟨hlt0, q0, q1, g0, g1⟩ := hR0.below hb
    clear hR0 hf
    go_wp2
    refine bodyPost_ret (v := .agg #[.int .i64 r, .slice none 0 0]) (by simp [results, Tryd.results8, go_sem, q0, q1]) rfl ⟨_, _, rfl, World.ownsRow_nil _ _ _ _, ?_⟩
    repeat' (refine Below.setCell ?_ (by dsimp only; omega) _)
    exact below_from hb0 hb

end Go.Proofs.YtjaoggkpnjkkpaaDoor
