/- The law FnUndone, walked: at every list of bytes it answers true, and it writes into nothing that was there. No condition. -/
import Derived.Test.YtjaoggkpnjkkpaaDraw4b
import Derived.Test.YtjaoggkpnjkkpaaLawBig
import Derived.Test.YtjaoggkpnjkkpaaS4r
import Derived.Test.YtjaoggkpnjkkpaaS4f
import Derived.Test.YtjaoggkpnjkkpaaItemSame
import Derived.Test.YtjaoggkpnjkkpaaUndoSame
namespace Go.Proofs.Ytjaoggkpnjkkpaa
open Go.RowKit Go.Maps
open Go.BigFrame
set_option linter.unusedVariables false
set_option linter.unusedSimpArgs false

theorem fieldIT0 (c v : Int) (a : Option Addr) (l k : Nat) (w : World) : (Instr.field 37 (.agg #[.int .i64 c, .int .i64 v, .slice a l k]) 0).run Try.prog w = .ok (.int .i64 c) w := by kernel_rfl
theorem fieldIT1 (c v : Int) (a : Option Addr) (l k : Nat) (w : World) : (Instr.field 37 (.agg #[.int .i64 c, .int .i64 v, .slice a l k]) 1).run Try.prog w = .ok (.int .i64 v) w := by kernel_rfl
theorem fieldIT2 (c v : Int) (a : Option Addr) (l k : Nat) (w : World) : (Instr.field 37 (.agg #[.int .i64 c, .int .i64 v, .slice a l k]) 2).run Try.prog w = .ok (.slice a l k) w := by kernel_rfl
theorem fieldUR0 (c v : Int) (a a' : Option Addr) (l k l' k' : Nat) (w : World) : (Instr.field 32 (.agg #[.int .i64 c, .int .i64 v, .slice a l k, .slice a' l' k']) 0).run Try.prog w = .ok (.int .i64 c) w := by kernel_rfl
theorem fieldUR2 (c v : Int) (a a' : Option Addr) (l k l' k' : Nat) (w : World) : (Instr.field 32 (.agg #[.int .i64 c, .int .i64 v, .slice a l k, .slice a' l' k']) 2).run Try.prog w = .ok (.slice a l k) w := by kernel_rfl

theorem sameIs_refl' (xs : List ItemD) : sameIs xs xs = true := sameIs_refl xs

theorem du_back {xs : List ItemD} {i s q : Int} {zs : List ActD} (h : exC xs i s q zs = 0) :
    undoF (duU xs i s q zs) = 0 ∧ tbC (exR xs i s q zs) (duU xs i s q zs) = 0 ∧ tbI (exR xs i s q zs) (duU xs i s q zs) = xs := by
  obtain ⟨h1, h2, h3⟩ := ex_zero h
  obtain ⟨h8, g⟩ := good_of_F h1
  obtain ⟨⟨_, h4⟩, ha⟩ := acts_of_F h2
  obtain ⟨u1, u2⟩ := unR_parts h8 g ha h3
  obtain ⟨r1, r2⟩ := run_good h8 g ha h3
  have e1 : exR xs i s q zs = (runA xs zs).2 := by simp [exR, h]
  have e2 : duU xs i s q zs = unR xs zs := by simp [duU, h]
  have hu : undoF (unR xs zs) = 0 := undoF_of (by omega) u2
  have hb := bkA_unR h8 g ha h3
  rw [e1, e2]
  have hF : itemsF (runA xs zs).2 = 0 := F_of_good r1 r2
  rcases tb_ways (runA xs zs).2 (unR xs zs) with ⟨k, _⟩ | ⟨_, k, _⟩ | ⟨_, _, k, _⟩ | ⟨_, _, _, k1, k2⟩
  · exact absurd hF k
  · exact absurd hu k
  · rw [hb] at k; omega
  · exact ⟨hu, k1, by rw [k2, hb]⟩

theorem exR_of {xs : List ItemD} {i s q : Int} {zs : List ActD} (h : exC xs i s q zs = 0) : exR xs i s q zs = (runA xs zs).2 := by simp [exR, h]

theorem du_two {xs : List ItemD} {i s q : Int} {zs : List ActD} (h : exC xs i s q zs = 0) (h' : exC (exR xs i s q zs) i s q zs = 0) :
    undoF (duU (exR xs i s q zs) i s q zs) = 0 ∧ taC (exR (exR xs i s q zs) i s q zs) [duU xs i s q zs, duU (exR xs i s q zs) i s q zs] = 0 ∧ taI (exR (exR xs i s q zs) i s q zs) [duU xs i s q zs, duU (exR xs i s q zs) i s q zs] = xs := by
  obtain ⟨a1, a2, a3⟩ := du_back h
  obtain ⟨b1, b2, b3⟩ := du_back h'
  have hF : itemsF (exR (exR xs i s q zs) i s q zs) = 0 := by
    obtain ⟨h1, h2, h3⟩ := ex_zero h'
    obtain ⟨h8, g⟩ := good_of_F h1
    obtain ⟨_, ha⟩ := acts_of_F h2
    obtain ⟨r1, r2⟩ := run_good h8 g ha h3
    rw [exR_of h']
    exact F_of_good r1 r2
  have hr : taR (exR (exR xs i s q zs) i s q zs) [duU xs i s q zs, duU (exR xs i s q zs) i s q zs] = (0, xs) := by
    simp only [taR, if_true, b2, b3, a2, a3]
  rcases ta_ways (exR (exR xs i s q zs) i s q zs) [duU xs i s q zs, duU (exR xs i s q zs) i s q zs] with ⟨k, _⟩ | ⟨_, k, _⟩ | ⟨_, _, k1, k2⟩
  · simp at k
  · exact absurd hF k
  · refine ⟨b1, by rw [k1, hr], by rw [k2, hr]⟩

theorem uss_pair {w : World} {g n : Nat} {a1 a2 : Option Addr} {c1 c2 : Nat} {u1 u2 : List UndoD} (B : Blk w g 30 #[.slice a1 u1.length c1, .slice a2 u2.length c2]) (h1 : UndoRow w a1 u1) (h2 : UndoRow w a2 u2) : UssAt w (.slice (some ⟨g, 0, none⟩) 2 n) [u1, u2] := by
  refine ⟨_, n, [⟨u1, a1, c1⟩, ⟨u2, a2, c2⟩], rfl, rfl, Or.inr ⟨g, 0, rfl, B.lt, ?_⟩, ?_⟩
  · intro i x hx
    match i, hx with
    | 0, hx => simp [usCells, USP.sl] at hx; subst hx; exact B.cell 0 _ rfl
    | 1, hx => simp [usCells, USP.sl] at hx; subst hx; exact B.cell 1 _ rfl
  · intro p hp
    simp only [List.mem_cons, List.not_mem_nil, or_false] at hp
    rcases hp with rfl | rfl
    · exact h1
    · exact h2

set_option maxRecDepth 100000 in
set_option maxHeartbeats 6000000 in
theorem undoneFn (a : Option Addr) (cap : Nat) (bs : List Int) (w : World) (h : Row .u8 w a bs) (hu : ∀ i, 0 ≤ bs.getD i 0 ∧ bs.getD i 0 ≤ 255) (hm : bs.length ≤ 9223372036854775807) :
    Calls Try.prog 3 #[.slice a bs.length cap] w fun e w' => e = .returned (.bool true) ∧ Below w.heap.size w w' := by
  by_cases hle : bs.length ≤ 1048576
  · have hd : decide (1048576 < (bs.length : Int)) = false := decide_eq_false (by omega)
    go_enter Try.func3, Try.ntmps3
    go_wp2_with fail
    refine (lwBig_any a bs.length cap w hm).mono ?_
    rintro e w1 ⟨rfl, hw⟩
    subst hw
    rw [hd]
    have hb : Below w1.heap.size w1 w1 := Below.refl _ _
    go_wp2_with fail
    refine (drawDoUndo_any a cap bs _ h hu hle).mono ?_
    rintro e w2 ⟨b0, k0, xs, i, s, q, ta, tc, zs, rfl, hxl, hN0, hzl, hx, ht, hb2⟩
    replace hb := hb.trans (hb2.mono hb.size)
    clear hb2
    have hbA : Below w2.heap.size w2 (w2.alloc (.cells #[.int .i64 i, .int .i64 s, .int .i64 q, .slice ta zs.length tc] 27)) := by go_grown
    have Bt := Blk.new w2 27 #[.int .i64 i, .int .i64 s, .int .i64 q, .slice ta zs.length tc]
    replace hx := hx.below hbA
    replace ht := Lies.below ht hbA
    replace hb := hb.trans (hbA.mono hb.size)
    have hEx := fun w h ht => implExecTxn_any b0 k0 xs i s q ta tc zs w h ht (by omega) (by omega)
    have him := fun w h ht => implDoUndo_any b0 k0 xs i s q ta tc zs w h ht (by omega) (by omega)
    have hsp := fun w h ht => specDoUndo_any b0 k0 xs i s q ta tc zs w h hN0 ht (by omega) (by omega)
    have hel : (exR xs i s q zs).length ≤ 8 := exR_le xs i s q zs
    have hul : (duU xs i s q zs).length ≤ 1048576 := duU_le xs i s q zs
    have HD : Hid (exC xs i s q zs = 0 → _) := fun h => du_back h
    have HE : Hid (exC xs i s q zs = 0 → exC (exR xs i s q zs) i s q zs = 0 → _) := fun h h' => du_two h h'
    generalize exC xs i s q zs = d at hEx him hsp HD HE
    generalize exV xs i s q zs = y at hEx him hsp
    generalize exR xs i s q zs = es at hEx him hsp hel HD HE
    generalize duU xs i s q zs = us at him hsp hul HD HE
    have t0 := Bt.cell 0 _ rfl
    have t1 := Bt.cell 1 _ rfl
    have t2 := Bt.cell 2 _ rfl
    have t3 := Bt.cell 3 _ rfl
    go_wp2_with fail
    clear t0 t1 t2 t3
    generalize w2.alloc (.cells #[.int .i64 i, .int .i64 s, .int .i64 q, .slice ta zs.length tc] 27) = W2 at hbA hb hx ht Bt
    clear hbA
    refine (him _ hx ht).mono ?_
    rintro e w3 ⟨du, dv, di, dj, rfl, oU, hb3⟩
    have hU := oU.row.r1
    have he := oU.row.r2
    clear oU him
    replace hx := hx.below hb3
    replace ht := Lies.below ht hb3
    replace Bt := Bt.below hb3
    replace hb := hb.trans (hb3.mono hb.size)
    clear hb3
    have hbA : Below w3.heap.size w3 (w3.alloc (.cells #[.int .i64 d, .int .i64 y, .slice du us.length dv, .slice di es.length dj] 32)) := by go_grown
    have Bd := Blk.new w3 32 #[.int .i64 d, .int .i64 y, .slice du us.length dv, .slice di es.length dj]
    replace hx := hx.below hbA
    replace ht := Lies.below ht hbA
    replace Bt := Bt.below hbA
    replace hU := hU.below hbA
    replace he := he.below hbA
    replace hb := hb.trans (hbA.mono hb.size)
    go_wp2_with fail
    generalize w3.alloc (.cells #[.int .i64 d, .int .i64 y, .slice du us.length dv, .slice di es.length dj] 32) = W3 at hbA hb hx ht Bt hU he Bd
    clear hbA
    refine (drawTakeBack_any a cap bs _ (h.below hb) hu hle).mono ?_
    rintro e w4 ⟨b1, k1, xs1, ua1, uc1, us1, rfl, hxl1, hN1, hul1, hx1, hu1, hb4⟩
    replace hx := hx.below hb4
    replace ht := Lies.below ht hb4
    replace Bt := Bt.below hb4
    replace hU := hU.below hb4
    replace he := he.below hb4
    replace Bd := Bd.below hb4
    replace hb := hb.trans (hb4.mono hb.size)
    clear hb4
    have hiT := fun w h hu => implTakeBack_any b1 k1 xs1 ua1 uc1 us1 w h hu (by omega) (by omega)
    have hsT := fun w h hu => specTakeBack_any b1 k1 xs1 ua1 uc1 us1 w h hN1 hu (by omega) (by omega)
    have hyl1 := tbI_le xs1 us1
    generalize tbC xs1 us1 = c1 at hiT hsT
    generalize tbI xs1 us1 = ys1 at hiT hsT hyl1
    go_wp2_with fail
    refine (hiT _ hx1 hu1).mono ?_
    rintro e w5 ⟨ra1, rc1, rfl, o5, hb5⟩
    have hy1 : ItemRow w5 ra1 ys1 := Lies.own o5
    clear o5 hiT
    replace hx := hx.below hb5
    replace ht := Lies.below ht hb5
    replace Bt := Bt.below hb5
    replace hU := hU.below hb5
    replace he := he.below hb5
    replace Bd := Bd.below hb5
    replace hx1 := hx1.below hb5
    replace hu1 := hu1.below hb5
    replace hb := hb.trans (hb5.mono hb.size)
    clear hb5
    have hbA : Below w5.heap.size w5 (w5.alloc (.cells #[.int .i64 c1, .int .i64 0, .slice ra1 ys1.length rc1] 37)) := by go_grown
    have Bb := Blk.new w5 37 #[.int .i64 c1, .int .i64 0, .slice ra1 ys1.length rc1]
    replace hx := hx.below hbA
    replace ht := Lies.below ht hbA
    replace Bt := Bt.below hbA
    replace hU := hU.below hbA
    replace he := he.below hbA
    replace Bd := Bd.below hbA
    replace hx1 := hx1.below hbA
    replace hu1 := hu1.below hbA
    replace hy1 := hy1.below hbA
    replace hb := hb.trans (hbA.mono hb.size)
    go_wp2_with fail
    generalize w5.alloc (.cells #[.int .i64 c1, .int .i64 0, .slice ra1 ys1.length rc1] 37) = W5 at hbA hb hx ht Bt hU he Bd hx1 hu1 hy1 Bb
    clear hbA
    refine (drawTakeAll_any a cap bs _ (h.below hb) hu hle).mono ?_
    rintro e w6 ⟨b2, k2, xs2, v2, uss2, rfl, hxl2, hN2, hul2, hx2, hu2, hb6⟩
    replace hx := hx.below hb6
    replace ht := Lies.below ht hb6
    replace Bt := Bt.below hb6
    replace hU := hU.below hb6
    replace he := he.below hb6
    replace Bd := Bd.below hb6
    replace hx1 := hx1.below hb6
    replace hu1 := hu1.below hb6
    replace hy1 := hy1.below hb6
    replace Bb := Bb.below hb6
    replace hb := hb.trans (hb6.mono hb.size)
    clear hb6
    have hiA := fun w h hu => implTakeAll_any b2 k2 xs2 v2 uss2 w h hN2 hu (by omega) hul2
    have hsA := fun w h hu => specTakeAll_any b2 k2 xs2 v2 uss2 w h hN2 hu (by omega) hul2
    have hyl2 := taI_le xs2 uss2
    generalize taC xs2 uss2 = c2 at hiA hsA
    generalize taI xs2 uss2 = ys2 at hiA hsA hyl2
    go_wp2_with fail
    refine (hiA _ hx2 hu2).mono ?_
    rintro e w7 ⟨ra2, rc2, rfl, o7, hb7⟩
    have hy2 : ItemRow w7 ra2 ys2 := Lies.own o7
    clear o7 hiA
    replace hx := hx.below hb7
    replace ht := Lies.below ht hb7
    replace Bt := Bt.below hb7
    replace hU := hU.below hb7
    replace he := he.below hb7
    replace Bd := Bd.below hb7
    replace hx1 := hx1.below hb7
    replace hu1 := hu1.below hb7
    replace hy1 := hy1.below hb7
    replace Bb := Bb.below hb7
    replace hx2 := hx2.below hb7
    replace hu2 := hu2.below hb7
    replace hb := hb.trans (hb7.mono hb.size)
    clear hb7
    have hbA : Below w7.heap.size w7 (w7.alloc (.cells #[.int .i64 c2, .int .i64 0, .slice ra2 ys2.length rc2] 37)) := by go_grown
    have Ba := Blk.new w7 37 #[.int .i64 c2, .int .i64 0, .slice ra2 ys2.length rc2]
    replace hx := hx.below hbA
    replace ht := Lies.below ht hbA
    replace Bt := Bt.below hbA
    replace hU := hU.below hbA
    replace he := he.below hbA
    replace Bd := Bd.below hbA
    replace hx1 := hx1.below hbA
    replace hu1 := hu1.below hbA
    replace hy1 := hy1.below hbA
    replace Bb := Bb.below hbA
    replace hx2 := hx2.below hbA
    replace hu2 := hu2.below hbA
    replace hy2 := hy2.below hbA
    replace hb := hb.trans (hbA.mono hb.size)
    have hqF := fun w h => implUndoFault_any ua1 uc1 us1 w h (by omega)
    have hqG := fun w h => specUndoFault_any ua1 uc1 us1 w h (by omega)
    generalize undoF us1 = uf at hqF hqG
    have hqS := fun a1 a2 c1 c2 xs w h h' => implSameItems_any a1 a2 c1 c2 xs xs w h h'
    have n1 : (c1 != c1) = false := by simp
    have n2 : (c2 != c2) = false := by simp
    have n3 : (uf != uf) = false := by simp
    have hf2 := fieldIT0
    have hf3 := fieldIT1
    have hf4 := fieldIT2
    have hf5 := fieldUR0
    have hf6 := fieldUR2
    go_wp2_with fail
    generalize w7.alloc (.cells #[.int .i64 c2, .int .i64 0, .slice ra2 ys2.length rc2] 37) = W at hbA hb hx ht Bt hU he Bd hx1 hu1 hy1 Bb hx2 hu2 hy2 Ba
    clear hbA
    have hW : Below W.heap.size W W.drew := (Below.refl _ _).drew
    have hnn : Nonempty (Lat W) := ⟨⟨W, Below.refl _ _⟩⟩
    have x0 := Bb.lat 0 _ rfl
    have x2 := Bb.lat 2 _ rfl
    have z0 := Ba.lat 0 _ rfl
    have z2 := Ba.lat 2 _ rfl
    refine text_begin (S := fun w' => ∃ u : Lat W, w' = u.val) (by kernel_rfl) ?_
    refine seg_range [(0, 4)] 39 (by kernel_rfl) (by kernel_rfl) (by kernel_rfl) (by kernel_rfl) (by kernel_rfl) ⟨⟨_, hW⟩, rfl⟩ ?_
    simp only [pickR, List.toList_toArray, List.flatMap_cons, List.flatMap_nil, List.drop_succ_cons, List.drop_zero, List.take_succ_cons, List.take_zero, List.cons_append, List.nil_append, List.append_nil]
    repeat go_big_quiet_step (fail)
    refine wpQuiet_nil ?_
    refine call_at 4 (some 45) 15 #[.slice b1 xs1.length k1, .slice ua1 us1.length uc1] 38 (by kernel_rfl) (by kernel_rfl) (by kernel_rfl) (by kernel_rfl) (by kernel_rfl) ?_
    refine (hsT _ (hx1.below hW) (hu1.below hW)).mono ?_
    rintro e w9 ⟨rb, rc, rfl, o9, hb9⟩
    replace hW := hW.trans (hb9.mono hW.size)
    clear o9
    clear hb9
    refine ⟨_, rfl, ⟨⟨_, hW⟩, rfl⟩, ?_⟩
    simp only [Act.put, List.setIfInBounds_toArray, List.set_cons_zero, List.set_cons_succ]
    refine seg_range [(5, 7)] 31 (by kernel_rfl) (by kernel_rfl) (by kernel_rfl) (by kernel_rfl) (by kernel_rfl) ⟨⟨_, hW⟩, rfl⟩ ?_
    simp only [pickR, List.toList_toArray, List.flatMap_cons, List.flatMap_nil, List.drop_succ_cons, List.drop_zero, List.take_succ_cons, List.take_zero, List.cons_append, List.nil_append, List.append_nil]
    repeat go_big_quiet_step (fail)
    refine wpQuiet_nil ?_
    refine call_at 12 (some 53) 15 #[.slice b1 xs1.length k1, .slice ua1 us1.length uc1] 30 (by kernel_rfl) (by kernel_rfl) (by kernel_rfl) (by kernel_rfl) (by kernel_rfl) ?_
    refine (hsT _ (hx1.below hW) (hu1.below hW)).mono ?_
    rintro e w9 ⟨rb, rc, rfl, o9, hb9⟩
    replace hW := hW.trans (hb9.mono hW.size)
    have hrb : ItemRow w9 rb ys1 := Lies.own o9
    clear o9
    clear hb9
    refine ⟨_, rfl, ⟨⟨_, hW⟩, rfl⟩, ?_⟩
    simp only [Act.put, List.setIfInBounds_toArray, List.set_cons_zero, List.set_cons_succ]
    refine seg_range [(13, 1)] 29 (by kernel_rfl) (by kernel_rfl) (by kernel_rfl) (by kernel_rfl) (by kernel_rfl) ⟨⟨_, hW⟩, rfl⟩ ?_
    simp only [pickR, List.toList_toArray, List.flatMap_cons, List.flatMap_nil, List.drop_succ_cons, List.drop_zero, List.take_succ_cons, List.take_zero, List.cons_append, List.nil_append, List.append_nil]
    repeat go_big_quiet_step (fail)
    refine wpQuiet_nil ?_
    refine call_at 14 (some 55) 16 #[.slice ra1 ys1.length rc1, .slice rb ys1.length rc] 28 (by kernel_rfl) (by kernel_rfl) (by kernel_rfl) (by kernel_rfl) (by kernel_rfl) ?_
    refine (hqS ra1 rb rc1 rc ys1 _ (hy1.below hW) hrb (by omega) (by omega)).mono ?_
    rintro e w9 ⟨hs9, hb9⟩
    replace hW := hW.trans (hb9.mono hW.size)
    rw [sameIs_refl] at hs9
    subst hs9
    clear hb9
    refine ⟨_, rfl, ⟨⟨_, hW⟩, rfl⟩, ?_⟩
    simp only [Act.put, List.setIfInBounds_toArray, List.set_cons_zero, List.set_cons_succ]
    refine seg_range [(15, 7)] 21 (by kernel_rfl) (by kernel_rfl) (by kernel_rfl) (by kernel_rfl) (by kernel_rfl) ⟨⟨_, hW⟩, rfl⟩ ?_
    simp only [pickR, List.toList_toArray, List.flatMap_cons, List.flatMap_nil, List.drop_succ_cons, List.drop_zero, List.take_succ_cons, List.take_zero, List.cons_append, List.nil_append, List.append_nil]
    repeat go_big_quiet_step (fail)
    refine wpQuiet_nil ?_
    refine call_at 22 (some 63) 17 #[.slice b2 xs2.length k2, v2] 20 (by kernel_rfl) (by kernel_rfl) (by kernel_rfl) (by kernel_rfl) (by kernel_rfl) ?_
    refine (hsA _ (hx2.below hW) (hu2.below hW)).mono ?_
    rintro e w9 ⟨rb, rc, rfl, o9, hb9⟩
    replace hW := hW.trans (hb9.mono hW.size)
    clear o9
    clear hb9
    refine ⟨_, rfl, ⟨⟨_, hW⟩, rfl⟩, ?_⟩
    simp only [Act.put, List.setIfInBounds_toArray, List.set_cons_zero, List.set_cons_succ]
    refine seg_range [(23, 8)] 12 (by kernel_rfl) (by kernel_rfl) (by kernel_rfl) (by kernel_rfl) (by kernel_rfl) ⟨⟨_, hW⟩, rfl⟩ ?_
    simp only [pickR, List.toList_toArray, List.flatMap_cons, List.flatMap_nil, List.drop_succ_cons, List.drop_zero, List.take_succ_cons, List.take_zero, List.cons_append, List.nil_append, List.append_nil]
    repeat go_big_quiet_step (fail)
    refine wpQuiet_nil ?_
    refine call_at 31 (some 72) 17 #[.slice b2 xs2.length k2, v2] 11 (by kernel_rfl) (by kernel_rfl) (by kernel_rfl) (by kernel_rfl) (by kernel_rfl) ?_
    refine (hsA _ (hx2.below hW) (hu2.below hW)).mono ?_
    rintro e w9 ⟨rb, rc, rfl, o9, hb9⟩
    replace hW := hW.trans (hb9.mono hW.size)
    have hrb : ItemRow w9 rb ys2 := Lies.own o9
    clear o9
    clear hb9
    refine ⟨_, rfl, ⟨⟨_, hW⟩, rfl⟩, ?_⟩
    simp only [Act.put, List.setIfInBounds_toArray, List.set_cons_zero, List.set_cons_succ]
    refine seg_range [(32, 1)] 10 (by kernel_rfl) (by kernel_rfl) (by kernel_rfl) (by kernel_rfl) (by kernel_rfl) ⟨⟨_, hW⟩, rfl⟩ ?_
    simp only [pickR, List.toList_toArray, List.flatMap_cons, List.flatMap_nil, List.drop_succ_cons, List.drop_zero, List.take_succ_cons, List.take_zero, List.cons_append, List.nil_append, List.append_nil]
    repeat go_big_quiet_step (fail)
    refine wpQuiet_nil ?_
    refine call_at 33 (some 74) 16 #[.slice ra2 ys2.length rc2, .slice rb ys2.length rc] 9 (by kernel_rfl) (by kernel_rfl) (by kernel_rfl) (by kernel_rfl) (by kernel_rfl) ?_
    refine (hqS ra2 rb rc2 rc ys2 _ (hy2.below hW) hrb (by omega) (by omega)).mono ?_
    rintro e w9 ⟨hs9, hb9⟩
    replace hW := hW.trans (hb9.mono hW.size)
    rw [sameIs_refl] at hs9
    subst hs9
    clear hb9
    refine ⟨_, rfl, ⟨⟨_, hW⟩, rfl⟩, ?_⟩
    simp only [Act.put, List.setIfInBounds_toArray, List.set_cons_zero, List.set_cons_succ]
    refine seg_range [(34, 4), (39, 1)] 4 (by kernel_rfl) (by kernel_rfl) (by kernel_rfl) (by kernel_rfl) (by kernel_rfl) ⟨⟨_, hW⟩, rfl⟩ ?_
    simp only [pickR, List.toList_toArray, List.flatMap_cons, List.flatMap_nil, List.drop_succ_cons, List.drop_zero, List.take_succ_cons, List.take_zero, List.cons_append, List.nil_append, List.append_nil]
    repeat go_big_quiet_step (fail)
    refine wpQuiet_nil ?_
    refine call_at 38 (some 79) 18 #[.slice ua1 us1.length uc1] 3 (by kernel_rfl) (by kernel_rfl) (by kernel_rfl) (by kernel_rfl) (by kernel_rfl) ?_
    refine (hqF _ (hu1.below hW)).mono ?_
    rintro e w9 ⟨rfl, hb9⟩
    replace hW := hW.trans (hb9.mono hW.size)
    clear hb9
    refine ⟨_, rfl, ⟨⟨_, hW⟩, rfl⟩, ?_⟩
    simp only [Act.put, List.setIfInBounds_toArray, List.set_cons_zero, List.set_cons_succ]
    refine call_at 40 (some 81) 19 #[.slice ua1 us1.length uc1] 2 (by kernel_rfl) (by kernel_rfl) (by kernel_rfl) (by kernel_rfl) (by kernel_rfl) ?_
    refine (hqG _ (hu1.below hW)).mono ?_
    rintro e w9 ⟨rfl, hb9⟩
    replace hW := hW.trans (hb9.mono hW.size)
    clear hb9
    refine ⟨_, rfl, ⟨⟨_, hW⟩, rfl⟩, ?_⟩
    simp only [Act.put, List.setIfInBounds_toArray, List.set_cons_zero, List.set_cons_succ]
    refine seg_range [(41, 2)] 0 (by kernel_rfl) (by kernel_rfl) (by kernel_rfl) (by kernel_rfl) (by kernel_rfl) ⟨⟨_, hW⟩, rfl⟩ ?_
    simp only [pickR, List.toList_toArray, List.flatMap_cons, List.flatMap_nil, List.drop_succ_cons, List.drop_zero, List.take_succ_cons, List.take_zero, List.cons_append, List.nil_append, List.append_nil]
    repeat go_big_quiet_step (fail)
    refine wpQuiet_nil ?_
    refine text_end (by kernel_rfl) ?_
    clear x0 x2 z0 z2 hnn n1 n2 n3 hqF hqG hsT hsA
    replace hx := hx.below hW
    replace ht := Lies.below ht hW
    replace Bt := Bt.below hW
    replace hU := hU.below hW
    replace he := he.below hW
    replace Bd := Bd.below hW
    replace hb := hb.trans (hW.mono hb.size)
    clear hW hx1 hu1 hx2 hu2 hy1 hy2 Bb Ba
    obtain ⟨V, hVe⟩ : ∃ V, V = w9 := ⟨_, rfl⟩
    subst hVe
    by_cases hd0 : d = 0
    · have hdn : (d != 0) = false := by simp [hd0]
      obtain ⟨g1, g2, g3⟩ := HD.out hd0
      have hu4 : us.length ≤ 4 := (undoF_parts g1).1
      have hqU := fun w h => implUndoFault_any du dv us w h (by omega)
      rw [g1] at hqU
      have HE1 : Hid (exC es i s q zs = 0 → _) := HE.out hd0
      subst hd0
      clear HD HE g1
      have hiB := fun w h hu => implTakeBack_any di dj es du dv us w h hu (by omega) (by omega)
      rw [g2, g3] at hiB
      clear g2 g3
      have y0 := Bd.cell 0 _ rfl
      have y2 := Bd.cell 2 _ rfl
      have y3 := Bd.cell 3 _ rfl
      go_wp2_with fail
      clear y0 y2 y3 hdn
      refine (hiB _ he hU).mono ?_
      rintro e w8 ⟨ra, rc, rfl, o8, hb8⟩
      have hbk : ItemRow w8 ra xs := Lies.own o8
      clear o8 hiB
      replace hx := hx.below hb8
      replace ht := Lies.below ht hb8
      replace Bt := Bt.below hb8
      replace hU := hU.below hb8
      replace he := he.below hb8
      replace Bd := Bd.below hb8
      replace hb := hb.trans (hb8.mono hb.size)
      clear hb8
      have hbA : Below w8.heap.size w8 (w8.alloc (.cells #[.int .i64 0, .int .i64 0, .slice ra xs.length rc] 37)) := by go_grown
      have Bk := Blk.new w8 37 #[.int .i64 0, .int .i64 0, .slice ra xs.length rc]
      replace hx := hx.below hbA
      replace ht := Lies.below ht hbA
      replace Bt := Bt.below hbA
      replace hU := hU.below hbA
      replace he := he.below hbA
      replace Bd := Bd.below hbA
      replace hbk := hbk.below hbA
      replace hb := hb.trans (hbA.mono hb.size)
      have hi2 := fun w h ht => implDoUndo_any di dj es i s q ta tc zs w h ht (by omega) (by omega)
      have hel2 : (exR es i s q zs).length ≤ 8 := exR_le es i s q zs
      generalize exC es i s q zs = d2 at hi2 HE1
      generalize exV es i s q zs = y2 at hi2
      generalize exR es i s q zs = es2 at hi2 hel2 HE1
      generalize duU es i s q zs = us2 at hi2 HE1
      have y3 := Bd.cell 3 _ rfl
      have t0 := Bt.cell 0 _ rfl
      have t1 := Bt.cell 1 _ rfl
      have t2 := Bt.cell 2 _ rfl
      have t3 := Bt.cell 3 _ rfl
      go_wp2_with fail
      clear y3
      clear t0 t1 t2 t3
      generalize w8.alloc (.cells #[.int .i64 0, .int .i64 0, .slice ra xs.length rc] 37) = W8 at hbA hb hx ht Bt hU he Bd hbk Bk
      clear hbA
      refine (hi2 _ he ht).mono ?_
      rintro e w9 ⟨du2, dv2, di2, dj2, rfl, oU, hb9⟩
      have hU2 := oU.row.r1
      have he2 := oU.row.r2
      have hN2' := nice_own oU.o2.1
      clear oU hi2
      replace hx := hx.below hb9
      replace ht := Lies.below ht hb9
      replace Bt := Bt.below hb9
      replace hU := hU.below hb9
      replace he := he.below hb9
      replace Bd := Bd.below hb9
      replace hbk := hbk.below hb9
      replace Bk := Bk.below hb9
      replace hb := hb.trans (hb9.mono hb.size)
      clear hb9
      have hbA : Below w9.heap.size w9 (w9.alloc (.cells #[.int .i64 d2, .int .i64 y2, .slice du2 us2.length dv2, .slice di2 es2.length dj2] 32)) := by go_grown
      have Be := Blk.new w9 32 #[.int .i64 d2, .int .i64 y2, .slice du2 us2.length dv2, .slice di2 es2.length dj2]
      replace hx := hx.below hbA
      replace ht := Lies.below ht hbA
      replace Bt := Bt.below hbA
      replace hU := hU.below hbA
      replace he := he.below hbA
      replace Bd := Bd.below hbA
      replace hbk := hbk.below hbA
      replace Bk := Bk.below hbA
      replace hU2 := hU2.below hbA
      replace he2 := he2.below hbA
      replace hb := hb.trans (hbA.mono hb.size)
      by_cases hd2 : d2 = 0
      · have hde : (d2 == 0) = true := by simp [hd2]
        obtain ⟨g1, g2, g3⟩ := HE1.out hd2
        have hu5 : us2.length ≤ 4 := (undoF_parts g1).1
        subst hd2
        clear HE1 g1
        have v0 := Be.cell 0 _ rfl
        have v2 := Be.cell 2 _ rfl
        have v3 := Be.cell 3 _ rfl
        have y2' := Bd.cell 2 _ rfl
        have hiA := fun g n w h hu => implTakeAll_any di2 dj2 es2 (.slice (some ⟨g, 0, none⟩) 2 n) [us, us2] w h hN2' hu (by omega) (by simp [sumU]; omega)
        rw [g2, g3] at hiA
        clear g2 g3
        have hbP : Below (w9.alloc (.cells #[.int .i64 0, .int .i64 y2, .slice du2 us2.length dv2, .slice di2 es2.length dj2] 32)).heap.size (w9.alloc (.cells #[.int .i64 0, .int .i64 y2, .slice du2 us2.length dv2, .slice di2 es2.length dj2] 32)) ((w9.alloc (.cells #[.int .i64 0, .int .i64 y2, .slice du2 us2.length dv2, .slice di2 es2.length dj2] 32)).alloc (.cells #[.slice du us.length dv, .slice du2 us2.length dv2] 30)) := by go_grown
        have BP := Blk.new (w9.alloc (.cells #[.int .i64 0, .int .i64 y2, .slice du2 us2.length dv2, .slice di2 es2.length dj2] 32)) 30 #[.slice du us.length dv, .slice du2 us2.length dv2]
        rw [World.size_alloc] at BP
        replace hx := hx.below hbP
        replace ht := Lies.below ht hbP
        replace Bt := Bt.below hbP
        replace hU := hU.below hbP
        replace he := he.below hbP
        replace Bd := Bd.below hbP
        replace hbk := hbk.below hbP
        replace Bk := Bk.below hbP
        replace hU2 := hU2.below hbP
        replace he2 := he2.below hbP
        replace Be := Be.below hbP
        replace hb := hb.trans (hbP.mono hb.size)
        go_wp2_with fail
        clear v0 v2 v3 y2'
        generalize (w9.alloc (.cells #[.int .i64 0, .int .i64 y2, .slice du2 us2.length dv2, .slice di2 es2.length dj2] 32)).alloc (.cells #[.slice du us.length dv, .slice du2 us2.length dv2] 30) = WP at hbP hb BP hx ht Bt hU he Bd hbk Bk hU2 he2 Be
        clear hbP hbA
        refine (hiA _ _ _ he2 (uss_pair BP hU hU2)).mono ?_
        rintro e w10 ⟨rx, ry, rfl, o10, hb10⟩
        have h2 : ItemRow w10 rx xs := Lies.own o10
        clear o10 hiA BP
        replace hx := hx.below hb10
        replace ht := Lies.below ht hb10
        replace Bt := Bt.below hb10
        replace hU := hU.below hb10
        replace he := he.below hb10
        replace Bd := Bd.below hb10
        replace hbk := hbk.below hb10
        replace Bk := Bk.below hb10
        replace hU2 := hU2.below hb10
        replace he2 := he2.below hb10
        replace Be := Be.below hb10
        replace hb := hb.trans (hb10.mono hb.size)
        clear hb10
        have hbA : Below w10.heap.size w10 (w10.alloc (.cells #[.int .i64 0, .int .i64 0, .slice rx xs.length ry] 37)) := by go_grown
        have B2 := Blk.new w10 37 #[.int .i64 0, .int .i64 0, .slice rx xs.length ry]
        replace hx := hx.below hbA
        replace ht := Lies.below ht hbA
        replace Bt := Bt.below hbA
        replace hU := hU.below hbA
        replace he := he.below hbA
        replace Bd := Bd.below hbA
        replace hbk := hbk.below hbA
        replace Bk := Bk.below hbA
        replace hU2 := hU2.below hbA
        replace he2 := he2.below hbA
        replace Be := Be.below hbA
        replace h2 := h2.below hbA
        replace hb := hb.trans (hbA.mono hb.size)
        have s0 := B2.cell 0 _ rfl
        have s2 := B2.cell 2 _ rfl
        go_wp2_with fail
        generalize w10.alloc (.cells #[.int .i64 0, .int .i64 0, .slice rx xs.length ry] 37) = W10 at hbA hb hx ht Bt hU he Bd hbk Bk hU2 he2 Be h2 B2
        clear hbA
        clear s0 s2
        refine (hqS rx b0 ry k0 xs _ h2 hx (by omega) (by omega)).mono ?_
        rintro e w11 ⟨hs9, hb11⟩
        rw [sameIs_refl] at hs9
        subst hs9
        replace hx := hx.below hb11
        replace ht := Lies.below ht hb11
        replace Bt := Bt.below hb11
        replace hU := hU.below hb11
        replace he := he.below hb11
        replace Bd := Bd.below hb11
        replace hbk := hbk.below hb11
        replace Bk := Bk.below hb11
        replace hU2 := hU2.below hb11
        replace he2 := he2.below hb11
        replace Be := Be.below hb11
        replace h2 := h2.below hb11
        replace B2 := B2.below hb11
        replace hb := hb.trans (hb11.mono hb.size)
        clear hb11
        go_wp2_with fail
        have hye : (y == y) = true := by simp
        have hW : Below w11.heap.size w11 w11.drew := (Below.refl _ _).drew
        have hnn : Nonempty (Lat w11) := ⟨⟨w11, Below.refl _ _⟩⟩
        have x0 := Bk.lat 0 _ rfl
        have x2 := Bk.lat 2 _ rfl
        have y1 := Bd.lat 1 _ rfl
        have y2 := Bd.lat 2 _ rfl
        have y3 := Bd.lat 3 _ rfl
        have t0 := Bt.lat 0 _ rfl
        have t1 := Bt.lat 1 _ rfl
        have t2 := Bt.lat 2 _ rfl
        have t3 := Bt.lat 3 _ rfl
        refine text_begin (S := fun w' => ∃ u : Lat w11, w' = u.val) (by kernel_rfl) ?_
        refine seg_range [(0, 7)] 36 (by kernel_rfl) (by kernel_rfl) (by kernel_rfl) (by kernel_rfl) (by kernel_rfl) ⟨⟨_, hW⟩, rfl⟩ ?_
        simp only [pickR, List.toList_toArray, List.flatMap_cons, List.flatMap_nil, List.drop_succ_cons, List.drop_zero, List.take_succ_cons, List.take_zero, List.cons_append, List.nil_append, List.append_nil]
        repeat go_big_quiet_step (fail)
        refine wpQuiet_nil ?_
        refine call_at 7 (some 140) 16 #[.slice ra xs.length rc, .slice b0 xs.length k0] 35 (by kernel_rfl) (by kernel_rfl) (by kernel_rfl) (by kernel_rfl) (by kernel_rfl) ?_
        refine (hqS ra b0 rc k0 xs _ (hbk.below hW) (hx.below hW) (by omega) (by omega)).mono ?_
        rintro e w9 ⟨hs9, hb9⟩
        replace hW := hW.trans (hb9.mono hW.size)
        rw [sameIs_refl] at hs9
        subst hs9
        clear hb9
        refine ⟨_, rfl, ⟨⟨_, hW⟩, rfl⟩, ?_⟩
        simp only [Act.put, List.setIfInBounds_toArray, List.set_cons_zero, List.set_cons_succ]
        refine seg_range [(8, 6)] 29 (by kernel_rfl) (by kernel_rfl) (by kernel_rfl) (by kernel_rfl) (by kernel_rfl) ⟨⟨_, hW⟩, rfl⟩ ?_
        simp only [pickR, List.toList_toArray, List.flatMap_cons, List.flatMap_nil, List.drop_succ_cons, List.drop_zero, List.take_succ_cons, List.take_zero, List.cons_append, List.nil_append, List.append_nil]
        repeat go_big_quiet_step (fail)
        refine wpQuiet_nil ?_
        refine call_at 14 (some 147) 21 #[.slice b0 xs.length k0, .agg #[.int .i64 i, .int .i64 s, .int .i64 q, .slice ta zs.length tc]] 28 (by kernel_rfl) (by kernel_rfl) (by kernel_rfl) (by kernel_rfl) (by kernel_rfl) ?_
        refine (hEx _ (hx.below hW) (Lies.below ht hW)).mono ?_
        rintro e w9 ⟨rb14, rc14, rfl, o9, hb9⟩
        replace hW := hW.trans (hb9.mono hW.size)
        have hrb : ItemRow w9 rb14 es := Lies.own o9
        clear o9
        clear hb9
        refine ⟨_, rfl, ⟨⟨_, hW⟩, rfl⟩, ?_⟩
        simp only [Act.put, List.setIfInBounds_toArray, List.set_cons_zero, List.set_cons_succ]
        refine seg_range [(15, 1)] 27 (by kernel_rfl) (by kernel_rfl) (by kernel_rfl) (by kernel_rfl) (by kernel_rfl) ⟨⟨_, hW⟩, rfl⟩ ?_
        simp only [pickR, List.toList_toArray, List.flatMap_cons, List.flatMap_nil, List.drop_succ_cons, List.drop_zero, List.take_succ_cons, List.take_zero, List.cons_append, List.nil_append, List.append_nil]
        repeat go_big_quiet_step (fail)
        refine wpQuiet_nil ?_
        refine call_at 16 (some 149) 16 #[.slice di es.length dj, .slice rb14 es.length rc14] 26 (by kernel_rfl) (by kernel_rfl) (by kernel_rfl) (by kernel_rfl) (by kernel_rfl) ?_
        refine (hqS di rb14 dj rc14 es _ (he.below hW) hrb (by omega) (by omega)).mono ?_
        rintro e w9 ⟨hs9, hb9⟩
        replace hW := hW.trans (hb9.mono hW.size)
        rw [sameIs_refl] at hs9
        subst hs9
        clear hb9
        refine ⟨_, rfl, ⟨⟨_, hW⟩, rfl⟩, ?_⟩
        simp only [Act.put, List.setIfInBounds_toArray, List.set_cons_zero, List.set_cons_succ]
        refine seg_range [(17, 6)] 20 (by kernel_rfl) (by kernel_rfl) (by kernel_rfl) (by kernel_rfl) (by kernel_rfl) ⟨⟨_, hW⟩, rfl⟩ ?_
        simp only [pickR, List.toList_toArray, List.flatMap_cons, List.flatMap_nil, List.drop_succ_cons, List.drop_zero, List.take_succ_cons, List.take_zero, List.cons_append, List.nil_append, List.append_nil]
        repeat go_big_quiet_step (fail)
        refine wpQuiet_nil ?_
        refine call_at 23 (some 156) 21 #[.slice b0 xs.length k0, .agg #[.int .i64 i, .int .i64 s, .int .i64 q, .slice ta zs.length tc]] 19 (by kernel_rfl) (by kernel_rfl) (by kernel_rfl) (by kernel_rfl) (by kernel_rfl) ?_
        refine (hEx _ (hx.below hW) (Lies.below ht hW)).mono ?_
        rintro e w9 ⟨rb23, rc23, rfl, o9, hb9⟩
        replace hW := hW.trans (hb9.mono hW.size)
        clear o9
        clear hb9
        refine ⟨_, rfl, ⟨⟨_, hW⟩, rfl⟩, ?_⟩
        simp only [Act.put, List.setIfInBounds_toArray, List.set_cons_zero, List.set_cons_succ]
        refine seg_range [(24, 6)] 13 (by kernel_rfl) (by kernel_rfl) (by kernel_rfl) (by kernel_rfl) (by kernel_rfl) ⟨⟨_, hW⟩, rfl⟩ ?_
        simp only [pickR, List.toList_toArray, List.flatMap_cons, List.flatMap_nil, List.drop_succ_cons, List.drop_zero, List.take_succ_cons, List.take_zero, List.cons_append, List.nil_append, List.append_nil]
        repeat go_big_quiet_step (fail)
        refine wpQuiet_nil ?_
        refine call_at 30 (some 163) 18 #[.slice du us.length dv] 12 (by kernel_rfl) (by kernel_rfl) (by kernel_rfl) (by kernel_rfl) (by kernel_rfl) ?_
        refine (hqU _ (hU.below hW)).mono ?_
        rintro e w9 ⟨rfl, hb9⟩
        replace hW := hW.trans (hb9.mono hW.size)
        clear hb9
        refine ⟨_, rfl, ⟨⟨_, hW⟩, rfl⟩, ?_⟩
        simp only [Act.put, List.setIfInBounds_toArray, List.set_cons_zero, List.set_cons_succ]
        refine seg_range [(31, 7)] 5 (by kernel_rfl) (by kernel_rfl) (by kernel_rfl) (by kernel_rfl) (by kernel_rfl) ⟨⟨_, hW⟩, rfl⟩ ?_
        simp only [pickR, List.toList_toArray, List.flatMap_cons, List.flatMap_nil, List.drop_succ_cons, List.drop_zero, List.take_succ_cons, List.take_zero, List.cons_append, List.nil_append, List.append_nil]
        repeat go_big_quiet_step (fail)
        refine wpQuiet_nil ?_
        refine call_at 38 (some 171) 20 #[.slice b0 xs.length k0, .agg #[.int .i64 i, .int .i64 s, .int .i64 q, .slice ta zs.length tc]] 4 (by kernel_rfl) (by kernel_rfl) (by kernel_rfl) (by kernel_rfl) (by kernel_rfl) ?_
        refine (hsp _ (hx.below hW) (Lies.below ht hW)).mono ?_
        rintro e w9 ⟨rb38, rc38, rd38, re38, rfl, o9, hb9⟩
        replace hW := hW.trans (hb9.mono hW.size)
        have hrb : UndoRow w9 rb38 us := o9.row.r1
        clear o9
        clear hb9
        refine ⟨_, rfl, ⟨⟨_, hW⟩, rfl⟩, ?_⟩
        simp only [Act.put, List.setIfInBounds_toArray, List.set_cons_zero, List.set_cons_succ]
        refine seg_range [(39, 1)] 3 (by kernel_rfl) (by kernel_rfl) (by kernel_rfl) (by kernel_rfl) (by kernel_rfl) ⟨⟨_, hW⟩, rfl⟩ ?_
        simp only [pickR, List.toList_toArray, List.flatMap_cons, List.flatMap_nil, List.drop_succ_cons, List.drop_zero, List.take_succ_cons, List.take_zero, List.cons_append, List.nil_append, List.append_nil]
        repeat go_big_quiet_step (fail)
        refine wpQuiet_nil ?_
        refine call_at 40 (some 173) 22 #[.slice du us.length dv, .slice rb38 us.length rc38] 2 (by kernel_rfl) (by kernel_rfl) (by kernel_rfl) (by kernel_rfl) (by kernel_rfl) ?_
        refine (implSameUndo_any _ _ _ _ us us _ (hU.below hW) hrb (by omega) (by omega)).mono ?_
        rintro e w9 ⟨hs9, hb9⟩
        replace hW := hW.trans (hb9.mono hW.size)
        rw [sameUs_refl] at hs9
        subst hs9
        clear hb9
        refine ⟨_, rfl, ⟨⟨_, hW⟩, rfl⟩, ?_⟩
        simp only [Act.put, List.setIfInBounds_toArray, List.set_cons_zero, List.set_cons_succ]
        refine seg_range [(41, 2)] 0 (by kernel_rfl) (by kernel_rfl) (by kernel_rfl) (by kernel_rfl) (by kernel_rfl) ⟨⟨_, hW⟩, rfl⟩ ?_
        simp only [pickR, List.toList_toArray, List.flatMap_cons, List.flatMap_nil, List.drop_succ_cons, List.drop_zero, List.take_succ_cons, List.take_zero, List.cons_append, List.nil_append, List.append_nil]
        repeat go_big_quiet_step (fail)
        refine wpQuiet_nil ?_
        refine text_end (by kernel_rfl) ?_
        go_wp2
        go_ret
        exact ⟨rfl, hb.trans (hW.mono hb.size)⟩
      · have hde : (d2 == 0) = false := by simpa using hd2
        have v0 := Be.cell 0 _ rfl
        go_wp2_with fail
        clear v0 HE1
        generalize w9.alloc (.cells #[.int .i64 d2, .int .i64 y2, .slice du2 us2.length dv2, .slice di2 es2.length dj2] 32) = W9 at hbA hb hx ht Bt hU he Bd hbk Bk hU2 he2 Be
        clear hbA
        have hye : (y == y) = true := by simp
        have hW : Below W9.heap.size W9 W9.drew := (Below.refl _ _).drew
        have hnn : Nonempty (Lat W9) := ⟨⟨W9, Below.refl _ _⟩⟩
        have x0 := Bk.lat 0 _ rfl
        have x2 := Bk.lat 2 _ rfl
        have y1 := Bd.lat 1 _ rfl
        have y2 := Bd.lat 2 _ rfl
        have y3 := Bd.lat 3 _ rfl
        have t0 := Bt.lat 0 _ rfl
        have t1 := Bt.lat 1 _ rfl
        have t2 := Bt.lat 2 _ rfl
        have t3 := Bt.lat 3 _ rfl
        refine text_begin (S := fun w' => ∃ u : Lat W9, w' = u.val) (by kernel_rfl) ?_
        refine seg_range [(0, 7)] 36 (by kernel_rfl) (by kernel_rfl) (by kernel_rfl) (by kernel_rfl) (by kernel_rfl) ⟨⟨_, hW⟩, rfl⟩ ?_
        simp only [pickR, List.toList_toArray, List.flatMap_cons, List.flatMap_nil, List.drop_succ_cons, List.drop_zero, List.take_succ_cons, List.take_zero, List.cons_append, List.nil_append, List.append_nil]
        repeat go_big_quiet_step (fail)
        refine wpQuiet_nil ?_
        refine call_at 7 (some 140) 16 #[.slice ra xs.length rc, .slice b0 xs.length k0] 35 (by kernel_rfl) (by kernel_rfl) (by kernel_rfl) (by kernel_rfl) (by kernel_rfl) ?_
        refine (hqS ra b0 rc k0 xs _ (hbk.below hW) (hx.below hW) (by omega) (by omega)).mono ?_
        rintro e w9 ⟨hs9, hb9⟩
        replace hW := hW.trans (hb9.mono hW.size)
        rw [sameIs_refl] at hs9
        subst hs9
        clear hb9
        refine ⟨_, rfl, ⟨⟨_, hW⟩, rfl⟩, ?_⟩
        simp only [Act.put, List.setIfInBounds_toArray, List.set_cons_zero, List.set_cons_succ]
        refine seg_range [(8, 6)] 29 (by kernel_rfl) (by kernel_rfl) (by kernel_rfl) (by kernel_rfl) (by kernel_rfl) ⟨⟨_, hW⟩, rfl⟩ ?_
        simp only [pickR, List.toList_toArray, List.flatMap_cons, List.flatMap_nil, List.drop_succ_cons, List.drop_zero, List.take_succ_cons, List.take_zero, List.cons_append, List.nil_append, List.append_nil]
        repeat go_big_quiet_step (fail)
        refine wpQuiet_nil ?_
        refine call_at 14 (some 147) 21 #[.slice b0 xs.length k0, .agg #[.int .i64 i, .int .i64 s, .int .i64 q, .slice ta zs.length tc]] 28 (by kernel_rfl) (by kernel_rfl) (by kernel_rfl) (by kernel_rfl) (by kernel_rfl) ?_
        refine (hEx _ (hx.below hW) (Lies.below ht hW)).mono ?_
        rintro e w9 ⟨rb14, rc14, rfl, o9, hb9⟩
        replace hW := hW.trans (hb9.mono hW.size)
        have hrb : ItemRow w9 rb14 es := Lies.own o9
        clear o9
        clear hb9
        refine ⟨_, rfl, ⟨⟨_, hW⟩, rfl⟩, ?_⟩
        simp only [Act.put, List.setIfInBounds_toArray, List.set_cons_zero, List.set_cons_succ]
        refine seg_range [(15, 1)] 27 (by kernel_rfl) (by kernel_rfl) (by kernel_rfl) (by kernel_rfl) (by kernel_rfl) ⟨⟨_, hW⟩, rfl⟩ ?_
        simp only [pickR, List.toList_toArray, List.flatMap_cons, List.flatMap_nil, List.drop_succ_cons, List.drop_zero, List.take_succ_cons, List.take_zero, List.cons_append, List.nil_append, List.append_nil]
        repeat go_big_quiet_step (fail)
        refine wpQuiet_nil ?_
        refine call_at 16 (some 149) 16 #[.slice di es.length dj, .slice rb14 es.length rc14] 26 (by kernel_rfl) (by kernel_rfl) (by kernel_rfl) (by kernel_rfl) (by kernel_rfl) ?_
        refine (hqS di rb14 dj rc14 es _ (he.below hW) hrb (by omega) (by omega)).mono ?_
        rintro e w9 ⟨hs9, hb9⟩
        replace hW := hW.trans (hb9.mono hW.size)
        rw [sameIs_refl] at hs9
        subst hs9
        clear hb9
        refine ⟨_, rfl, ⟨⟨_, hW⟩, rfl⟩, ?_⟩
        simp only [Act.put, List.setIfInBounds_toArray, List.set_cons_zero, List.set_cons_succ]
        refine seg_range [(17, 6)] 20 (by kernel_rfl) (by kernel_rfl) (by kernel_rfl) (by kernel_rfl) (by kernel_rfl) ⟨⟨_, hW⟩, rfl⟩ ?_
        simp only [pickR, List.toList_toArray, List.flatMap_cons, List.flatMap_nil, List.drop_succ_cons, List.drop_zero, List.take_succ_cons, List.take_zero, List.cons_append, List.nil_append, List.append_nil]
        repeat go_big_quiet_step (fail)
        refine wpQuiet_nil ?_
        refine call_at 23 (some 156) 21 #[.slice b0 xs.length k0, .agg #[.int .i64 i, .int .i64 s, .int .i64 q, .slice ta zs.length tc]] 19 (by kernel_rfl) (by kernel_rfl) (by kernel_rfl) (by kernel_rfl) (by kernel_rfl) ?_
        refine (hEx _ (hx.below hW) (Lies.below ht hW)).mono ?_
        rintro e w9 ⟨rb23, rc23, rfl, o9, hb9⟩
        replace hW := hW.trans (hb9.mono hW.size)
        clear o9
        clear hb9
        refine ⟨_, rfl, ⟨⟨_, hW⟩, rfl⟩, ?_⟩
        simp only [Act.put, List.setIfInBounds_toArray, List.set_cons_zero, List.set_cons_succ]
        refine seg_range [(24, 6)] 13 (by kernel_rfl) (by kernel_rfl) (by kernel_rfl) (by kernel_rfl) (by kernel_rfl) ⟨⟨_, hW⟩, rfl⟩ ?_
        simp only [pickR, List.toList_toArray, List.flatMap_cons, List.flatMap_nil, List.drop_succ_cons, List.drop_zero, List.take_succ_cons, List.take_zero, List.cons_append, List.nil_append, List.append_nil]
        repeat go_big_quiet_step (fail)
        refine wpQuiet_nil ?_
        refine call_at 30 (some 163) 18 #[.slice du us.length dv] 12 (by kernel_rfl) (by kernel_rfl) (by kernel_rfl) (by kernel_rfl) (by kernel_rfl) ?_
        refine (hqU _ (hU.below hW)).mono ?_
        rintro e w9 ⟨rfl, hb9⟩
        replace hW := hW.trans (hb9.mono hW.size)
        clear hb9
        refine ⟨_, rfl, ⟨⟨_, hW⟩, rfl⟩, ?_⟩
        simp only [Act.put, List.setIfInBounds_toArray, List.set_cons_zero, List.set_cons_succ]
        refine seg_range [(31, 7)] 5 (by kernel_rfl) (by kernel_rfl) (by kernel_rfl) (by kernel_rfl) (by kernel_rfl) ⟨⟨_, hW⟩, rfl⟩ ?_
        simp only [pickR, List.toList_toArray, List.flatMap_cons, List.flatMap_nil, List.drop_succ_cons, List.drop_zero, List.take_succ_cons, List.take_zero, List.cons_append, List.nil_append, List.append_nil]
        repeat go_big_quiet_step (fail)
        refine wpQuiet_nil ?_
        refine call_at 38 (some 171) 20 #[.slice b0 xs.length k0, .agg #[.int .i64 i, .int .i64 s, .int .i64 q, .slice ta zs.length tc]] 4 (by kernel_rfl) (by kernel_rfl) (by kernel_rfl) (by kernel_rfl) (by kernel_rfl) ?_
        refine (hsp _ (hx.below hW) (Lies.below ht hW)).mono ?_
        rintro e w9 ⟨rb38, rc38, rd38, re38, rfl, o9, hb9⟩
        replace hW := hW.trans (hb9.mono hW.size)
        have hrb : UndoRow w9 rb38 us := o9.row.r1
        clear o9
        clear hb9
        refine ⟨_, rfl, ⟨⟨_, hW⟩, rfl⟩, ?_⟩
        simp only [Act.put, List.setIfInBounds_toArray, List.set_cons_zero, List.set_cons_succ]
        refine seg_range [(39, 1)] 3 (by kernel_rfl) (by kernel_rfl) (by kernel_rfl) (by kernel_rfl) (by kernel_rfl) ⟨⟨_, hW⟩, rfl⟩ ?_
        simp only [pickR, List.toList_toArray, List.flatMap_cons, List.flatMap_nil, List.drop_succ_cons, List.drop_zero, List.take_succ_cons, List.take_zero, List.cons_append, List.nil_append, List.append_nil]
        repeat go_big_quiet_step (fail)
        refine wpQuiet_nil ?_
        refine call_at 40 (some 173) 22 #[.slice du us.length dv, .slice rb38 us.length rc38] 2 (by kernel_rfl) (by kernel_rfl) (by kernel_rfl) (by kernel_rfl) (by kernel_rfl) ?_
        refine (implSameUndo_any _ _ _ _ us us _ (hU.below hW) hrb (by omega) (by omega)).mono ?_
        rintro e w9 ⟨hs9, hb9⟩
        replace hW := hW.trans (hb9.mono hW.size)
        rw [sameUs_refl] at hs9
        subst hs9
        clear hb9
        refine ⟨_, rfl, ⟨⟨_, hW⟩, rfl⟩, ?_⟩
        simp only [Act.put, List.setIfInBounds_toArray, List.set_cons_zero, List.set_cons_succ]
        refine seg_range [(41, 2)] 0 (by kernel_rfl) (by kernel_rfl) (by kernel_rfl) (by kernel_rfl) (by kernel_rfl) ⟨⟨_, hW⟩, rfl⟩ ?_
        simp only [pickR, List.toList_toArray, List.flatMap_cons, List.flatMap_nil, List.drop_succ_cons, List.drop_zero, List.take_succ_cons, List.take_zero, List.cons_append, List.nil_append, List.append_nil]
        repeat go_big_quiet_step (fail)
        refine wpQuiet_nil ?_
        refine text_end (by kernel_rfl) ?_
        go_wp2
        go_ret
        exact ⟨rfl, hb.trans (hW.mono hb.size)⟩
    · have hdn : (d != 0) = true := by simpa using hd0
      have hde : (d == d) = true := by simp
      have y0 := Bd.cell 0 _ rfl
      go_wp2_with fail
      clear y0 hdn
      have hW : Below V.heap.size V V.drew := (Below.refl _ _).drew
      have hnn : Nonempty (Lat V) := ⟨⟨V, Below.refl _ _⟩⟩
      have x0 := Bd.lat 0 _ rfl
      have t0 := Bt.lat 0 _ rfl
      have t1 := Bt.lat 1 _ rfl
      have t2 := Bt.lat 2 _ rfl
      have t3 := Bt.lat 3 _ rfl
      refine text_begin (S := fun w' => ∃ u : Lat V, w' = u.val) (by kernel_rfl) ?_
      refine seg_range [(0, 2), (4, 2)] 13 (by kernel_rfl) (by kernel_rfl) (by kernel_rfl) (by kernel_rfl) (by kernel_rfl) ⟨⟨_, hW⟩, rfl⟩ ?_
      simp only [pickR, List.toList_toArray, List.flatMap_cons, List.flatMap_nil, List.drop_succ_cons, List.drop_zero, List.take_succ_cons, List.take_zero, List.cons_append, List.nil_append, List.append_nil]
      repeat go_big_quiet_step (fail)
      refine wpQuiet_nil ?_
      refine call_at 2 (some 89) 20 #[.slice b0 xs.length k0, .agg #[.int .i64 i, .int .i64 s, .int .i64 q, .slice ta zs.length tc]] 12 (by kernel_rfl) (by kernel_rfl) (by kernel_rfl) (by kernel_rfl) (by kernel_rfl) ?_
      refine (hsp _ (hx.below hW) (Lies.below ht hW)).mono ?_
      rintro e w9 ⟨rb2, rc2, rd2, re2, rfl, o9, hb9⟩
      replace hW := hW.trans (hb9.mono hW.size)
      clear o9
      clear hb9
      refine ⟨_, rfl, ⟨⟨_, hW⟩, rfl⟩, ?_⟩
      simp only [Act.put, List.setIfInBounds_toArray, List.set_cons_zero, List.set_cons_succ]
      refine seg_range [(3, 1), (6, 4), (12, 2)] 5 (by kernel_rfl) (by kernel_rfl) (by kernel_rfl) (by kernel_rfl) (by kernel_rfl) ⟨⟨_, hW⟩, rfl⟩ ?_
      simp only [pickR, List.toList_toArray, List.flatMap_cons, List.flatMap_nil, List.drop_succ_cons, List.drop_zero, List.take_succ_cons, List.take_zero, List.cons_append, List.nil_append, List.append_nil]
      repeat go_big_quiet_step (fail)
      refine wpQuiet_nil ?_
      refine call_at 10 (some 97) 21 #[.slice b0 xs.length k0, .agg #[.int .i64 i, .int .i64 s, .int .i64 q, .slice ta zs.length tc]] 4 (by kernel_rfl) (by kernel_rfl) (by kernel_rfl) (by kernel_rfl) (by kernel_rfl) ?_
      refine (hEx _ (hx.below hW) (Lies.below ht hW)).mono ?_
      rintro e w9 ⟨rb10, rc10, rfl, o9, hb9⟩
      replace hW := hW.trans (hb9.mono hW.size)
      clear o9
      clear hb9
      refine ⟨_, rfl, ⟨⟨_, hW⟩, rfl⟩, ?_⟩
      simp only [Act.put, List.setIfInBounds_toArray, List.set_cons_zero, List.set_cons_succ]
      refine seg_range [(11, 1), (14, 3)] 0 (by kernel_rfl) (by kernel_rfl) (by kernel_rfl) (by kernel_rfl) (by kernel_rfl) ⟨⟨_, hW⟩, rfl⟩ ?_
      simp only [pickR, List.toList_toArray, List.flatMap_cons, List.flatMap_nil, List.drop_succ_cons, List.drop_zero, List.take_succ_cons, List.take_zero, List.cons_append, List.nil_append, List.append_nil]
      repeat go_big_quiet_step (fail)
      refine wpQuiet_nil ?_
      refine text_end (by kernel_rfl) ?_
      go_wp2
      go_ret
      exact ⟨rfl, hb.trans (hW.mono hb.size)⟩
  · have hd : decide (1048576 < (bs.length : Int)) = true := decide_eq_true (by omega)
    go_enter Try.func3, Try.ntmps3
    go_wp2_with fail
    refine (lwBig_any a bs.length cap w hm).mono ?_
    rintro e w1 ⟨rfl, hw⟩
    subst hw
    rw [hd]
    go_wp2
    go_ret
    exact ⟨rfl, Below.refl _ _⟩

end Go.Proofs.Ytjaoggkpnjkkpaa
