/- The model's doing of one act with right items. No condition. -/
import Derived.Test.YtjaoggkpnjkkpaaS3s
import Derived.Test.YtjaoggkpnjkkpaaS3e
namespace Go.Proofs.Ytjaoggkpnjkkpaa
open Go.RowKit Go.Maps
open Go.BigFrame
set_option linter.unusedVariables false
set_option linter.unusedSimpArgs false

theorem layC_len {xs : List ItemD} (g : Good xs) (hl : xs.length ≤ 8) (k v : Int) (hv : inW v (-20000) 20000 = true) :
    (8 < (setI xs ⟨k, v⟩).length ∧ layC xs k v = 7) ∨ (¬ 8 < (setI xs ⟨k, v⟩).length ∧ layC xs k v = 0) := by
  rw [setI_length g]
  dsimp only
  rcases layC_ways xs k v with ⟨h1, _⟩ | ⟨_, h2, e⟩ | ⟨_, h2, h3, e⟩ | ⟨_, h2, h3, e⟩
  · rw [hv] at h1; simp at h1
  · right; rw [h2]; exact ⟨by simp; omega, e⟩
  · left; rw [h2]; exact ⟨by simp; omega, e⟩
  · right; rw [h2]; exact ⟨by simp; omega, e⟩

/-- The slice's block, if there is one, is a block of items. -/
def ItB (w : World) (a : Option Addr) : Prop := ∀ x off, a = some ⟨x, off, none⟩ → ∃ cs, w.heap[x]? = some (.cells cs 94 (0, 0))

theorem own_itb {w : World} {base n c : Nat} {a : Option Addr} {xs : List Value} (h : w.ownsRow base 94 2 (.slice a n c) n xs) : ItB w a := by
  intro x off e
  subst e
  rcases h.2 with ⟨hv, _⟩ | ⟨g, cap, cur, hv, _, hh, _⟩
  · simp at hv
  · simp only [Value.slice.injEq, Option.some.injEq, Addr.mk.injEq, and_true] at hv
    obtain ⟨⟨rfl, rfl⟩, _⟩ := hv
    exact ⟨_, hh⟩

/-- What an act comes to in the model. -/
def ActPost (w : World) (a : Option Addr) (xs : List ItemD) (z : ActD) (e : Ending) (w' : World) : Prop :=
  ∃ b n c, e = .returned (.tuple #[.slice b n c, .int .i64 (actC xs z)]) ∧ (actC xs z = 0 → n = (actN xs z).length ∧ ItemRow w' b (actN xs z) ∧ Nice b n c ∧ (b = a ∨ ItB w' b)) ∧ Below w.heap.size w w'

set_option maxRecDepth 100000 in
set_option maxHeartbeats 4000000 in
theorem l3Act_any (a : Option Addr) (cap : Nat) (xs : List ItemD) (pb po : Nat) (k y v : Int) (w : World) (h : ItemRow w a xs) (hN : Nice a xs.length cap) (hl : xs.length ≤ 8) (g : Good xs) (ha : actF ⟨k, y, v⟩ = 0)
    (p0 : w.cell? ⟨pb, po, none⟩ = some (.int .i64 k)) (p1 : w.cell? ⟨pb, po + 1, none⟩ = some (.int .i64 y)) (p2 : w.cell? ⟨pb, po + 2, none⟩ = some (.int .i64 v)) :
    Calls Try.prog 92 #[.slice a xs.length cap, .pointer (some ⟨pb, po, none⟩)] w (ActPost w a xs ⟨k, y, v⟩) := by
  obtain ⟨hk, hy, hv⟩ := actF_zero ha
  dsimp only at hk hy hv
  have hgv := g.valI y
  have hat := fun w h => l3At_any a cap xs y w h (by omega)
  have hval := fun w h => l3Value_any a cap xs y w h (by omega)
  have hset := fun x1 w h => l3Set_any a cap xs y x1 w h (by omega)
  have hdrop := fun w h => l3Drop_any a cap xs y w h (by omega)
  have hin := fun v w => l1InW_any v (-20000) 20000 w
  have hsr : ∀ x1, setR ⟨y, x1⟩ false xs = setI xs ⟨y, x1⟩ := fun x1 => setR_false ⟨y, x1⟩ g.rise
  simp only [hsr] at hset
  rcases (show k = 1 ∨ k = 2 ∨ k = 3 ∨ k = 4 by omega) with rfl | rfl | rfl | rfl
  · have e1 : actC xs ⟨1, y, v⟩ = layC xs y v := by simp [actC]
    have e2 : actN xs ⟨1, y, v⟩ = setI xs ⟨y, v⟩ := by simp [actN]
    unfold ActPost
    rw [e1, e2]
    clear e1 e2
    have hiw : inW v (-20000) 20000 = true := by simp [inW]; omega
    replace hset := hset v
    go_enter Try.func92, Try.ntmps92
    go_wp2_with fail
    refine (hat _ h).mono ?_
    rintro e w' ⟨r, rfl, hr, hw⟩
    replace hw := hw.symm
    subst hw
    clear hr
    rcases layC_len g hl y v hiw with ⟨h8, e⟩ | ⟨h8, e⟩
    · have E : Hid (layC xs y v = 7) := e
      clear e hat hval hdrop
      generalize setI xs ⟨y, v⟩ = N at hset h8
      go_wp2_with fail
      refine (hset _ h).mono ?_
      rintro e w' ⟨b, c, rfl, ho, hb⟩
      clear hset
      go_wp2
      refine bodyPost_ret (v := .tuple #[.slice none 0 0, .int .i64 7]) (by simp [results, Try.results92, go_sem]) rfl ?_
      rw [E.out]
      exact ⟨_, _, _, rfl, fun h => by simp at h, hb⟩
    · have E : Hid (layC xs y v = 0) := e
      clear e hat hval hdrop
      generalize hNe : setI xs ⟨y, v⟩ = N at hset h8
      have HN : Hid (setI xs ⟨y, v⟩ = N) := hNe
      clear hNe
      go_wp2_with fail
      refine (hset _ h).mono ?_
      rintro e w' ⟨b, c, rfl, ho, hb⟩
      have hrow : ItemRow w' b N := Lies.own ho
      have hnc : Nice b N.length c ∧ (b = a ∨ ItB w' b) := ⟨nice_own ho, Or.inr (own_itb ho)⟩
      clear hset ho
      go_wp2
      refine bodyPost_ret (v := .tuple #[.slice b N.length c, .int .i64 0]) (by simp [results, Try.results92, go_sem]) rfl ?_
      rw [E.out, HN.out]
      exact ⟨_, _, _, rfl, fun _ => ⟨rfl, hrow, hnc⟩, hb⟩
  · have e1 : actC xs ⟨2, y, v⟩ = layC xs y (valI xs y + v) := by simp [actC]
    have e2 : actN xs ⟨2, y, v⟩ = setI xs ⟨y, (valI xs y + v)⟩ := by simp [actN]
    unfold ActPost
    rw [e1, e2]
    clear e1 e2
    replace hset := hset (valI xs y + v)
    go_enter Try.func92, Try.ntmps92
    go_wp2_with fail
    refine (hat _ h).mono ?_
    rintro e w' ⟨r, rfl, hr, hw⟩
    replace hw := hw.symm
    subst hw
    clear hr hat
    replace hin := hin (valI xs y + v)
    cases hiw : inW (valI xs y + v) (-20000) 20000
    · have E : Hid (layC xs y (valI xs y + v) = 3) := if_pos hiw
      rw [hiw] at hin
      clear hset hdrop
      generalize hce : valI xs y = cv at hval hgv hin
      have HC : Hid (valI xs y = cv) := hce
      clear hce hiw
      have e3 : Hid (v + cv = cv + v) := Int.add_comm v cv
      go_wp2_with fail
      refine (hval _ h).mono ?_
      rintro e w' ⟨rfl, hw⟩
      replace hw := hw.symm
      subst hw
      rw [Int.add_comm cv v] at hin
      go_wp2_with fail
      refine (hin _).mono ?_
      rintro e w' ⟨rfl, hw⟩
      replace hw := hw.symm
      subst hw
      go_wp2
      refine bodyPost_ret (v := .tuple #[.slice none 0 0, .int .i64 3]) (by simp [results, Try.results92, go_sem]) rfl ?_
      rw [E.out]
      exact ⟨_, _, _, rfl, fun h => by simp at h, Below.refl _ _⟩
    · rw [hiw] at hin
      rcases layC_len g hl y (valI xs y + v) hiw with ⟨h8, e⟩ | ⟨h8, e⟩
      · have E : Hid (layC xs y (valI xs y + v) = 7) := e
        clear e hdrop hiw
        generalize setI xs ⟨y, valI xs y + v⟩ = N at hset h8
        have EE : Hid (layC xs y (valI xs y + v) = 7) := E
        clear E
        generalize hcv : valI xs y = cv at hval hgv hin hset
        clear hcv
        rw [Int.add_comm cv v] at hin hset
        go_wp2_with fail
        refine (hval _ h).mono ?_
        rintro e w' ⟨rfl, hw⟩
        replace hw := hw.symm
        subst hw
        go_wp2_with fail
        refine (hin _).mono ?_
        rintro e w' ⟨rfl, hw⟩
        replace hw := hw.symm
        subst hw
        go_wp2_with fail
        refine (hset _ h).mono ?_
        rintro e w' ⟨b, c, rfl, ho, hb⟩
        clear hset
        go_wp2
        refine bodyPost_ret (v := .tuple #[.slice none 0 0, .int .i64 7]) (by simp [results, Try.results92, go_sem]) rfl ?_
        rw [EE.out]
        exact ⟨_, _, _, rfl, fun h => by simp at h, hb⟩
      · have E : Hid (layC xs y (valI xs y + v) = 0) := e
        clear e hdrop hiw
        generalize hNe : setI xs ⟨y, valI xs y + v⟩ = N at hset h8
        have HN : Hid (setI xs ⟨y, valI xs y + v⟩ = N) := hNe
        clear hNe
        generalize hcv : valI xs y = cv at hval hgv hin hset
        clear hcv
        rw [Int.add_comm cv v] at hin hset
        go_wp2_with fail
        refine (hval _ h).mono ?_
        rintro e w' ⟨rfl, hw⟩
        replace hw := hw.symm
        subst hw
        go_wp2_with fail
        refine (hin _).mono ?_
        rintro e w' ⟨rfl, hw⟩
        replace hw := hw.symm
        subst hw
        go_wp2_with fail
        refine (hset _ h).mono ?_
        rintro e w' ⟨b, c, rfl, ho, hb⟩
        have hrow : ItemRow w' b N := Lies.own ho
        have hnc : Nice b N.length c ∧ (b = a ∨ ItB w' b) := ⟨nice_own ho, Or.inr (own_itb ho)⟩
        clear hset ho
        go_wp2
        refine bodyPost_ret (v := .tuple #[.slice b N.length c, .int .i64 0]) (by simp [results, Try.results92, go_sem]) rfl ?_
        rw [E.out, HN.out]
        exact ⟨_, _, _, rfl, fun _ => ⟨rfl, hrow, hnc⟩, hb⟩
  · go_enter Try.func92, Try.ntmps92
    go_wp2_with fail
    refine (hat _ h).mono ?_
    rintro e w' ⟨r, rfl, hr, hw⟩
    replace hw := hw.symm
    subst hw
    rcases hr with ⟨rfl, hh, _⟩ | ⟨j, rfl, hj, hh, _⟩
    · have E : Hid (actC xs ⟨3, y, v⟩ = 4) := by simp [Hid, actC, hh]
      clear hat hval hset hdrop
      go_wp2
      refine bodyPost_ret (v := .tuple #[.slice none 0 0, .int .i64 4]) (by simp [results, Try.results92, go_sem]) rfl ?_
      unfold ActPost
      rw [E.out]
      exact ⟨_, _, _, rfl, fun h => by simp at h, Below.refl _ _⟩
    · have E : Hid (actC xs ⟨3, y, v⟩ = 0) := by simp [Hid, actC, hh]
      have E2 : Hid (actN xs ⟨3, y, v⟩ = delI xs y) := by simp [Hid, actN]
      clear hat hval hset
      generalize hNe : delI xs y = N at hdrop
      have HN : Hid (delI xs y = N) := hNe
      clear hNe
      go_wp2_with fail
      refine (hdrop _ h).mono ?_
      rintro e w' ⟨b, c, rfl, ho, hb⟩
      have hrow : ItemRow w' b N := Lies.own ho
      have hnc : Nice b N.length c ∧ (b = a ∨ ItB w' b) := ⟨nice_own ho, Or.inr (own_itb ho)⟩
      clear hdrop ho
      go_wp2
      refine bodyPost_ret (v := .tuple #[.slice b N.length c, .int .i64 0]) (by simp [results, Try.results92, go_sem]) rfl ?_
      unfold ActPost
      rw [E.out, E2.out, HN.out]
      exact ⟨_, _, _, rfl, fun _ => ⟨rfl, hrow, hnc⟩, hb⟩
  · go_enter Try.func92, Try.ntmps92
    go_wp2_with fail
    refine (hat _ h).mono ?_
    rintro e w' ⟨r, rfl, hr, hw⟩
    replace hw := hw.symm
    subst hw
    rcases hr with ⟨rfl, hh, _⟩ | ⟨j, rfl, hj, hh, hvj⟩
    · have E : Hid (actC xs ⟨4, y, v⟩ = 9) := by simp [Hid, actC, hh]
      clear hat hval hset hdrop
      have hW : Below w.heap.size w w.drew := (Below.refl _ _).drew
      have hne : Nonempty (Lat w) := ⟨⟨w, Below.refl _ _⟩⟩
      go_wp2_with fail
      refine text_begin (S := fun w' => ∃ u : Lat w, w' = u.val) (by kernel_rfl) ?_
      refine seg_range [(0, 14)] 0 (by kernel_rfl) (by kernel_rfl) (by kernel_rfl) (by kernel_rfl) (by kernel_rfl) ⟨⟨_, hW⟩, rfl⟩ ?_
      simp only [pickR, List.toList_toArray, List.flatMap_cons, List.flatMap_nil, List.drop_succ_cons, List.drop_zero, List.take_succ_cons, List.take_zero, List.cons_append, List.nil_append, List.append_nil]
      repeat go_big_quiet_step (fail)
      refine wpQuiet_nil ?_
      refine text_end (by kernel_rfl) ?_
      clear hne 
      go_wp2
      refine bodyPost_ret (v := .tuple #[.slice none 0 0, .int .i64 9]) (by simp [results, Try.results92, go_sem]) rfl ?_
      unfold ActPost
      rw [E.out]
      exact ⟨_, _, _, rfl, fun h => by simp at h, hW⟩
    · obtain ⟨b, off, rfl, hbs, hc0, hc1⟩ := h.at j hj
      have E2 : Hid (actN xs ⟨4, y, v⟩ = xs) := by simp [Hid, actN]
      rw [← hvj] at hc1
      have hjd : decide ((j : Int) < 0) = false := decide_eq_false (by omega)
      clear hat hval hset hdrop hc0 hvj
      by_cases hc : valI xs y = v
      · have E : Hid (actC xs ⟨4, y, v⟩ = 0) := by simp [Hid, actC, hh, hc]
        have hne' : (v != v) = false := by simp
        rw [hc] at hc1
        clear hc hgv
        have d0 := lat_cell hc1
        have d1 := lat_cell p2
        have hW : Below w.heap.size w w.drew := (Below.refl _ _).drew
        have hne : Nonempty (Lat w) := ⟨⟨w, Below.refl _ _⟩⟩
        go_wp2_with fail
        refine text_begin (S := fun w' => ∃ u : Lat w, w' = u.val) (by kernel_rfl) ?_
        refine seg_range [(0, 14)] 0 (by kernel_rfl) (by kernel_rfl) (by kernel_rfl) (by kernel_rfl) (by kernel_rfl) ⟨⟨_, hW⟩, rfl⟩ ?_
        simp only [pickR, List.toList_toArray, List.flatMap_cons, List.flatMap_nil, List.drop_succ_cons, List.drop_zero, List.take_succ_cons, List.take_zero, List.cons_append, List.nil_append, List.append_nil]
        repeat go_big_quiet_step (fail)
        refine wpQuiet_nil ?_
        refine text_end (by kernel_rfl) ?_
        clear hne d0 d1
        go_wp2
        refine bodyPost_ret (v := .tuple #[.slice (some ⟨b, off, none⟩) xs.length cap, .int .i64 0]) (by simp [results, Try.results92, go_sem]) rfl ?_
        unfold ActPost
        rw [E.out, E2.out]
        exact ⟨_, _, _, rfl, fun _ => ⟨rfl, h.below hW, hN, Or.inl rfl⟩, hW⟩
      · have E : Hid (actC xs ⟨4, y, v⟩ = 9) := by simp [Hid, actC, hh, hc]
        have hne' : (valI xs y != v) = true := by simpa using hc
        clear hc
        generalize valI xs y = cv at hc1 hne' hgv
        have d0 := lat_cell hc1
        have d1 := lat_cell p2
        have hW : Below w.heap.size w w.drew := (Below.refl _ _).drew
        have hne : Nonempty (Lat w) := ⟨⟨w, Below.refl _ _⟩⟩
        go_wp2_with fail
        refine text_begin (S := fun w' => ∃ u : Lat w, w' = u.val) (by kernel_rfl) ?_
        refine seg_range [(0, 14)] 0 (by kernel_rfl) (by kernel_rfl) (by kernel_rfl) (by kernel_rfl) (by kernel_rfl) ⟨⟨_, hW⟩, rfl⟩ ?_
        simp only [pickR, List.toList_toArray, List.flatMap_cons, List.flatMap_nil, List.drop_succ_cons, List.drop_zero, List.take_succ_cons, List.take_zero, List.cons_append, List.nil_append, List.append_nil]
        repeat go_big_quiet_step (fail)
        refine wpQuiet_nil ?_
        refine text_end (by kernel_rfl) ?_
        clear hne d0 d1
        go_wp2
        refine bodyPost_ret (v := .tuple #[.slice none 0 0, .int .i64 9]) (by simp [results, Try.results92, go_sem]) rfl ?_
        unfold ActPost
        rw [E.out]
        exact ⟨_, _, _, rfl, fun h => by simp at h, hW⟩

end Go.Proofs.Ytjaoggkpnjkkpaa
