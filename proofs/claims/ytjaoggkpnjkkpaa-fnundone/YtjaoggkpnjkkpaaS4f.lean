/- The model's DoUndo, by the plain store. No condition. -/
import Derived.Test.YtjaoggkpnjkkpaaS4d
namespace Go.Proofs.Ytjaoggkpnjkkpaa
open Go.RowKit Go.Maps
open Go.BigFrame
set_option linter.unusedVariables false
set_option linter.unusedSimpArgs false

set_option maxRecDepth 100000 in
set_option maxHeartbeats 4000000 in
theorem specDoUndo_any (a : Option Addr) (cap : Nat) (xs : List ItemD) (i s q : Int) (ta : Option Addr) (tc : Nat) (zs : List ActD) (w : World) (h : ItemRow w a xs) (hN : Nice a xs.length cap) (ht : ActRow w ta zs) (hl : xs.length ≤ 1048576) (hl2 : zs.length ≤ 1048576) :
    Calls Try.prog 20 #[.slice a xs.length cap, .agg #[.int .i64 i, .int .i64 s, .int .i64 q, .slice ta zs.length tc]] w fun e w' => ∃ b c b2 c2, e = .returned (.agg #[.int .i64 (exC xs i s q zs), .int .i64 (exV xs i s q zs), .slice b (duU xs i s q zs).length c, .slice b2 (exR xs i s q zs).length c2]) ∧
      OwnU w.heap.size w'.heap.size w' (.slice b (duU xs i s q zs).length c) (.slice b2 (exR xs i s q zs).length c2) (duU xs i s q zs) (exR xs i s q zs) ∧ Below w.heap.size w w' := by
  have hF := fun w h => l3Fault_any a cap xs w h hl
  have hT := fun u hB h => l2Fault_any w.heap.size 0 i s q ta tc zs u hB h hl2
  have hb0 : Below w.heap.size w ((w.alloc (.cells #[.int .i64 i, .int .i64 s, .int .i64 q, .slice ta zs.length tc] 27)).alloc (.cells #[.int .i64 0, .int .i64 0, .slice none 0 0, .slice none 0 0] 32)) := by go_grown
  have B0 := Blk.new (w.alloc (.cells #[.int .i64 i, .int .i64 s, .int .i64 q, .slice ta zs.length tc] 27)) 32 #[.int .i64 0, .int .i64 0, .slice none 0 0, .slice none 0 0]
  have Bt := (Blk.new w 27 #[.int .i64 i, .int .i64 s, .int .i64 q, .slice ta zs.length tc]).below (w' := (w.alloc (.cells #[.int .i64 i, .int .i64 s, .int .i64 q, .slice ta zs.length tc] 27)).alloc (.cells #[.int .i64 0, .int .i64 0, .slice none 0 0, .slice none 0 0] 32)) (by go_grown)
  rw [World.size_alloc] at B0
  have hbox : ∀ u, Blk u w.heap.size 27 #[.int .i64 i, .int .i64 s, .int .i64 q, .slice ta zs.length tc] → Box4 u w.heap.size 0 (.int .i64 i) (.int .i64 s) (.int .i64 q) (.slice ta zs.length tc) := fun u hB => ⟨hB.cell 0 _ rfl, by simpa using hB.cell 1 _ rfl, by simpa using hB.cell 2 _ rfl, by simpa using hB.cell 3 _ rfl⟩
  by_cases h0 : itemsF xs = 0
  case neg =>
    obtain ⟨e1, e2, e3⟩ := ex_bad (i := i) (s := s) (q := q) (zs := zs) h0
    rw [(ex_not (by rw [e1]; assumption) : _ ∧ _ ∧ _).2.2, e1, e2, e3]
    have hne : (itemsF xs != 0) = true := by simpa using h0
    clear h0 e1 e2 e3
    generalize itemsF xs = r at hF hne
    go_enter Try.func20, Try.ntmps20
    go_wp2_with fail
    generalize (w.alloc (.cells #[.int .i64 i, .int .i64 s, .int .i64 q, .slice ta zs.length tc] 27)).alloc (.cells #[.int .i64 0, .int .i64 0, .slice none 0 0, .slice none 0 0] 32) = W0 at hb0 B0 Bt
    refine (hF _ (h.below hb0)).mono ?_
    rintro e w1 ⟨rfl, hb⟩
    replace B0 := B0.below hb
    replace hb0 := hb0.trans (hb.mono hb0.size)
    have p0 := B0.cell 0 _ rfl
    have p1 := B0.cell 1 _ rfl
    have p2 := B0.cell 2 _ rfl
    have p3 := B0.cell 3 _ rfl
    have f0 := B0.frozen 0
    have f1 := B0.frozen 1
    have f2 := B0.frozen 2
    have f3 := B0.frozen 3
    have hlt := B0.lt
    clear hb B0 Bt
    go_wp2
    refine bodyPost_ret (v := .agg #[.int .i64 r, .int .i64 0, .slice none 0 0, .slice none 0 0]) (by simp [results, Try.results20, go_sem, p0, p1, p2, p3]) rfl ⟨_, _, _, _, rfl, ⟨OwnS.of (World.ownsRow_nil _ _ _ _), OwnS.of (World.ownsRow_nil _ _ _ _), Or.inl rfl⟩, ?_⟩
    repeat' (refine Below.setCell ?_ (by dsimp only; omega) _)
    exact hb0
  by_cases h2 : txnF i s q zs = 0
  case neg =>
    obtain ⟨e1, e2, e3⟩ := ex_bad2 h0 h2
    rw [(ex_not (by rw [e1]; assumption) : _ ∧ _ ∧ _).2.2, e1, e2, e3]
    have hne : (txnF i s q zs != 0) = true := by simpa using h2
    rw [h0] at hF
    clear h0 h2 e1 e2 e3
    generalize txnF i s q zs = r at hT hne
    go_enter Try.func20, Try.ntmps20
    go_wp2_with fail
    generalize (w.alloc (.cells #[.int .i64 i, .int .i64 s, .int .i64 q, .slice ta zs.length tc] 27)).alloc (.cells #[.int .i64 0, .int .i64 0, .slice none 0 0, .slice none 0 0] 32) = W0 at hb0 B0 Bt
    refine (hF _ (h.below hb0)).mono ?_
    rintro e w1 ⟨rfl, hb⟩
    replace B0 := B0.below hb
    replace Bt := Bt.below hb
    replace hb0 := hb0.trans (hb.mono hb0.size)
    clear hb
    go_wp2_with fail
    refine (hT _ (hbox _ Bt) (ht.below hb0)).mono ?_
    rintro e w2 ⟨rfl, hw⟩
    replace hw := hw.symm
    subst hw
    have p0 := B0.cell 0 _ rfl
    have p1 := B0.cell 1 _ rfl
    have p2 := B0.cell 2 _ rfl
    have p3 := B0.cell 3 _ rfl
    have f0 := B0.frozen 0
    have f1 := B0.frozen 1
    have f2 := B0.frozen 2
    have f3 := B0.frozen 3
    have hlt := B0.lt
    clear B0 Bt
    go_wp2
    refine bodyPost_ret (v := .agg #[.int .i64 r, .int .i64 0, .slice none 0 0, .slice none 0 0]) (by simp [results, Try.results20, go_sem, p0, p1, p2, p3]) rfl ⟨_, _, _, _, rfl, ⟨OwnS.of (World.ownsRow_nil _ _ _ _), OwnS.of (World.ownsRow_nil _ _ _ _), Or.inl rfl⟩, ?_⟩
    repeat' (refine Below.setCell ?_ (by dsimp only; omega) _)
    exact hb0
  obtain ⟨h8, g⟩ := good_of_F h0
  obtain ⟨e1, e2, e3⟩ := ex_run h0 h2
  have e4 : duU xs i s q zs = runU xs zs := by unfold duU runU; rw [e1]
  have hX := fun u h hB ht => l4Do_any a cap xs w.heap.size 0 i s q ta tc zs u h hN hB ht h8 g h2
  rw [e1, e2, e3, e4]
  rw [h0] at hF
  rw [h2] at hT
  clear h0 h2 e1 e2 e3 e4
  generalize (runA xs zs).1 = d at hX
  generalize runR xs zs = ys at hX
  generalize runV xs zs = y at hX
  generalize runU xs zs = us at hX
  go_enter Try.func20, Try.ntmps20
  go_wp2_with fail
  generalize (w.alloc (.cells #[.int .i64 i, .int .i64 s, .int .i64 q, .slice ta zs.length tc] 27)).alloc (.cells #[.int .i64 0, .int .i64 0, .slice none 0 0, .slice none 0 0] 32) = W0 at hb0 B0 Bt
  refine (hF _ (h.below hb0)).mono ?_
  rintro e w1 ⟨rfl, hb⟩
  replace B0 := B0.below hb
  replace Bt := Bt.below hb
  replace hb0 := hb0.trans (hb.mono hb0.size)
  clear hb
  go_wp2_with fail
  refine (hT _ (hbox _ Bt) (ht.below hb0)).mono ?_
  rintro e w2 ⟨rfl, hw⟩
  replace hw := hw.symm
  subst hw
  have hltB := B0.lt
  go_wp2_with fail
  refine (hX _ (h.below hb0) (hbox _ Bt) (ht.below hb0)).mono ?_
  rintro e w3 ⟨ub, uc, ib, ic, rfl, oU, hb⟩
  have hsz1 := hb.size
  have hsz0 := hb0.size
  replace B0 := B0.below hb
  replace hb0 := hb0.trans (hb.mono hb0.size)
  have p0 := B0.cell 0 _ rfl
  have p1 := B0.cell 1 _ rfl
  have p2 := B0.cell 2 _ rfl
  have p3 := B0.cell 3 _ rfl
  have f0 := B0.frozen 0
  have f1 := B0.frozen 1
  have f2 := B0.frozen 2
  have f3 := B0.frozen 3
  have n1 : ∀ k, (Value.slice ub us.length uc).ownBlock = some k → k ≠ w.heap.size + 1 := fun k hk => by have := (oU.o1.1.lt k hk).1; omega
  have n2 : ∀ k, (Value.slice ib ys.length ic).ownBlock = some k → k ≠ w.heap.size + 1 := fun k hk => by have := (oU.o2.1.lt k hk).1; omega
  clear hb B0 Bt
  go_wp2
  refine bodyPost_ret (v := .agg #[.int .i64 d, .int .i64 y, .slice ub us.length uc, .slice ib ys.length ic]) (by simp [results, Try.results20, go_sem, p0, p1, p2, p3]) rfl ⟨_, _, _, _, rfl, ⟨OwnS.of (own_base (own_set_other (own_set_other (own_set_other (own_set_other oU.o1.1 n1) n1) n1) n1) (by omega)), OwnS.of (own_base (own_set_other (own_set_other (own_set_other (own_set_other oU.o2.1 n2) n2) n2) n2) (by omega)), oU.ap⟩, ?_⟩
  repeat' (refine Below.setCell ?_ (by dsimp only; omega) _)
  exact hb0

end Go.Proofs.Ytjaoggkpnjkkpaa
