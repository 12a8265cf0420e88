/- The program's VotesOf. The condition: impl.rules starts as the program's text lays it. -/
import Derived.Test.YtpjmlidbligcbaaGreatDoorBl10
import Derived.Test.YtpjmlidbligcbaaGreatDoorLv10
import Derived.Test.YtpjmlidbligcbaaGreatDoorVt10
import Derived.Stop.RegionWithIn
namespace Go.Proofs.YtpjmlidbligcbaaGreatDoor
open Go.RowKit Go.Shelf
set_option linter.unusedVariables false
set_option maxRecDepth 100000
set_option linter.unusedSimpArgs false
attribute [local go_sem] Oper.semAt_some

/-- The marks of loops that are over, where the answer lies in memory. -/
theorem leaves_marks2 {n : Nat} {P : Program} {fn : Func} {tmps : Array Value} {R : Ending → World → Prop} {B : Nat} (J : World → Prop) (v : Value) (hJ : ∀ W D, J W → B ≤ D → W.heap[D]? = some (.deferred (some [])) → J (W.putObj D (.deferred none)))
    (hres : ∀ W, J W → (results fn tmps).run P W = .ok v W) (hfin : ∀ W, J W → R (.returned v) W) : ∀ (Ds : List Nat) (W : World), J W → Ds.Nodup → (∀ D ∈ Ds, B ≤ D ∧ W.heap[D]? = some (.deferred (some []))) →
    LeavesInM Fence.wide n P fn tmps R (Ds.map (fun D => ({ target := .collected D, args := #[] } : Deferred))) .returning W
  | [], W, h, _, _ => ⟨_, hres W h, hfin W h⟩
  | D :: Ds, W, h, hn, hd => by
    obtain ⟨hn1, hn2⟩ := List.nodup_cons.1 hn
    have h1 := hd D (by simp)
    refine ⟨by simp, .inl ⟨D, _, rfl, run_takeDeferred h1.2, ?_⟩⟩
    exact leaves_marks2 J v hJ hres hfin Ds _ (hJ W D h h1.1 h1.2) hn2 (fun E hE => ⟨(hd E (by simp [hE])).1, (World.putObj_heap_other (fun e => hn1 (by rw [← e]; exact hE))).trans (hd E (by simp [hE])).2⟩)

theorem below_from2 {β : Type} {B : Nat} {w : World} (hB : w.heap.size ≤ B) : OwnFrom B (fun (_ : β) W => Below w.heap.size w W) := fun s A C row h hg hr => h.grown hg h.size (fun j hj => Nat.le_trans hB (hr j hj).1)

/-- A vote of one of the three kinds. -/
def Spk (x : VoteD) : Prop := x.kind = 1 ∨ x.kind = 2 ∨ (x.kind = 3 ∧ x.round = 0)
theorem rvF_kr (kind round : Int) (vs : List Int) : ∀ i, ∀ x ∈ rvF kind round i vs, x.kind = kind ∧ x.round = round := by
  induction vs with
  | nil => intro i x hx; simp [rvF] at hx
  | cons v r ih =>
    intro i x hx
    simp only [rvF, List.mem_append] at hx
    rcases hx with hx | hx
    · split at hx
      · simp at hx
      · simp at hx; subst hx; exact ⟨rfl, rfl⟩
    · exact ih _ x hx
theorem vtR_spk (rs : List RoundE) : ∀ k, ∀ x ∈ vtR k rs, Spk x := by
  induction rs with
  | nil => intro k x hx; simp [vtR] at hx
  | cons r t ih =>
    intro k x hx
    simp only [vtR, List.mem_append] at hx
    rcases hx with hx | hx | hx
    · exact Or.inl (rvF_kr _ _ _ _ x hx).1
    · exact Or.inr (Or.inl (rvF_kr _ _ _ _ x hx).1)
    · exact ih _ x hx
theorem vt_spk (rs : List RoundE) (dec : List Int) : ∀ x ∈ vtR 0 rs ++ rvF 3 0 0 dec, Spk x := fun x hx => by
  rcases List.mem_append.1 hx with h | h
  · exact vtR_spk rs 0 x h
  · exact Or.inr (Or.inr (rvF_kr _ _ _ _ x h))

theorem vt_m1 (h : Value) (w : World) : (Go.method 398 215 h "loop.example/g00631/impl.vote").run Tryz.prog w = .ok (264, h) w := by kernel_rfl
theorem vt_m2 (h : Value) (w : World) : (Go.method 398 216 h "loop.example/g00631/impl.vote").run Tryz.prog w = .ok (265, h) w := by kernel_rfl
theorem vt_m3 (h : Value) (w : World) : (Go.method 398 218 h "loop.example/g00631/impl.vote").run Tryz.prog w = .ok (266, h) w := by kernel_rfl
theorem Blk.not_row {W : World} {b : Nat} {t e : TypeId} {cs : Array Value} (h : Blk W b t cs) (hte : t ≠ e) {base size k : Nat} {v : Value} {xs : List Value} (hr : W.ownsRow base e size v k xs) : some b ≠ v.ownBlock := by
  rcases hr.2 with ⟨rfl, _⟩ | ⟨g, cap, cur, rfl, _, hgb, _⟩
  · simp [Value.ownBlock]
  · intro e'
    obtain rfl : b = g := by simpa [Value.ownBlock] using e'
    have := (show W.heap[b]? = _ from h).symm.trans hgb
    simp at this
    exact hte this.2
theorem own_rowB {w : World} {base e size n g : Nat} {t : TypeId} {v : Value} {xs : List Value} {old : Array Value} (h : w.ownsRow base e size v n xs) (hB : Blk w g t old) (hte : t ≠ e) (cs : Array Value) : (w.setRow g cs).ownsRow base e size v n xs :=
  own_outs h (out_row w g cs) (fun k hk hk' => by
    have h1 : v.ownBlock = some k := by simpa [blk] using hk
    simp at hk'
    subst hk'
    exact hB.not_row hte h h1.symm)

theorem calls_in {m m' l₀ f : Nat} {P : Program} {args : Array Value} {w : World} {R : Ending → World → Prop} (h : CallsIn Fence.wide m P f args w R) : CallsIn (Fence.wide.inRound l₀) m' P f args w R := ⟨trivial, fun cs _ => h.2 cs (fun d hd => by cases hd)⟩
theorem Boxed.belowB {W W' : World} {B : Nat} {t : TypeId} {v : Value} (h : Boxed W B t v) (hb : Below W.heap.size W W') : Boxed W' B t v := (hb.block B h.lt).trans h

theorem kept_all {W w5 w6 : World} {B base n : Nat} {v v' : Value} {xs : List Value} {tmp : Obj} (hb5 : Below W.heap.size W w5) (hgrow : (w5.alloc tmp).grownBy w6 v.ownBlock) (hrow : W.ownsRow base 79 4 v n xs) (BX : Boxed W B 71 v) :
    W.heap.size ≤ (w6.setCell ⟨B, 0, none⟩ v').heap.size ∧ ∀ (k : Nat) (o : Obj), W.heap[k]? = some o → keepO o = true → (w6.setCell ⟨B, 0, none⟩ v').heap[k]? = some o := by
  have g7 := grownBy_setCell' w6 B v'
  have s5 := hb5.size
  have s6 := hgrow.size
  have s7 := g7.size
  rw [World.size_alloc] at s6
  refine ⟨by omega, fun k o hk ho => ?_⟩
  have hlt : k < W.heap.size := (Array.getElem?_eq_some_iff.1 hk).1
  have h5 := (hb5.block k hlt).trans hk
  have h6 := (Below.heap_alloc w5 tmp k (by omega)).trans h5
  have h7 := (hgrow.block k (by rw [World.size_alloc]; omega) (fun e => by
    rcases hrow.2 with ⟨rfl, _⟩ | ⟨g, cap, cur, rfl, _, hgb, _⟩
    · simp [Value.ownBlock] at e
    · obtain rfl : k = g := by simpa [Value.ownBlock] using e
      rw [hk] at hgb
      simp only [Option.some.injEq] at hgb
      subst hgb
      simp [keepO] at ho)).trans h6
  exact (g7.block k (by omega) (fun e => by
    obtain rfl : k = B := by simpa using e
    rw [show W.heap[k]? = _ from BX] at hk
    simp only [Option.some.injEq] at hk
    subst hk
    simp [keepO] at ho)).trans h7

theorem voteM1 (r n v : Int) (w : World) : Calls Tryz.prog 264 #[.agg #[.int .i64 r, .int .i64 n, .int .i64 v]] w fun e w' => e = .returned (.agg #[.int .i64 1, .int .i64 r, .int .i64 n, .int .i64 v]) ∧ Below w.heap.size w w' := by
  go_enter Tryz.func264, Tryz.ntmps264
  go_wp2
  exact bodyPost_ret (v := .agg #[.int .i64 1, .int .i64 r, .int .i64 n, .int .i64 v]) (by simp [results, Tryz.results264, go_sem]) rfl ⟨rfl, by go_grown⟩
theorem voteM2 (r n v : Int) (w : World) : Calls Tryz.prog 265 #[.agg #[.int .i64 r, .int .i64 n, .int .i64 v]] w fun e w' => e = .returned (.agg #[.int .i64 2, .int .i64 r, .int .i64 n, .int .i64 v]) ∧ Below w.heap.size w w' := by
  go_enter Tryz.func265, Tryz.ntmps265
  go_wp2
  exact bodyPost_ret (v := .agg #[.int .i64 2, .int .i64 r, .int .i64 n, .int .i64 v]) (by simp [results, Tryz.results265, go_sem]) rfl ⟨rfl, by go_grown⟩
theorem voteM3 (n v : Int) (w : World) : Calls Tryz.prog 266 #[.agg #[.int .i64 n, .int .i64 v]] w fun e w' => e = .returned (.agg #[.int .i64 3, .int .i64 0, .int .i64 n, .int .i64 v]) ∧ Below w.heap.size w w' := by
  go_enter Tryz.func266, Tryz.ntmps266
  go_wp2
  exact bodyPost_ret (v := .agg #[.int .i64 3, .int .i64 0, .int .i64 n, .int .i64 v]) (by simp [results, Tryz.results266, go_sem]) rfl ⟨rfl, by go_grown⟩

/-- append on votes, kept whole. -/
def apVt (args : Array Value) : Sem Value := Builtin.append_ #[71, 71] 71 args
theorem apVt_eq (args : Array Value) : Builtin.append_ #[71, 71] 71 args = apVt args := rfl
attribute [local go_sem ↓] apVt_eq
set_option maxRecDepth 100000 in
set_option maxHeartbeats 8000000 in
theorem implVotesOf_any (p : InstQ) (w : World) (hG : Rul w) (h : instK.rd w p) (hl : p.n ≤ 1048576) :
    Calls Tryz.prog 43 #[.agg #[.bool p.has, p.vb, p.vr, p.vd]] w fun e w' => ∃ a c, e = .returned (.agg #[.int .i64 (insF p.e), .slice a (voL p.e).length c]) ∧ w'.ownsRow w.heap.size 79 4 (.slice a (voL p.e).length c) (voL p.e).length (voteCells (voL p.e)) ∧ Below w.heap.size w w' := by
  obtain ⟨hl30, hone⟩ := bd_ok h
  have hbo := fun w hG h => boardOf_any p w hG h hl
  have hrb := fun (w' : World) hb => instK.rd_below (w' := w') h hb
  change ∀ w hG h, Calls _ _ _ _ fun e w' => e = .returned (.tuple #[.agg (bdOf p).toArray, _]) ∧ _ at hbo
  have HBD : Hid (insF p.e = 0 → bdOf p = brdC p.has p.vb p.e.rounds p.dec ∧ Frm p.e.rounds p.dec) := fun h0 => ⟨if_pos h0, frm_of h0⟩
  have HV : Hid ((insF p.e = 0 → voL p.e = vtR 0 p.e.rounds ++ rvF 3 0 0 p.dec) ∧ (insF p.e ≠ 0 → voL p.e = [])) := ⟨fun h => if_pos h, fun h => if_neg h⟩
  have HXL0 : (voL p.e).length ≤ 27 := voL_len p.e
  generalize voL p.e = VL at *
  generalize bdOf p = BD at *
  generalize insF p.e = C at *
  generalize p.e.rounds = rs at *
  obtain ⟨has, vb, batch, vr, rounds, vd, dec⟩ := p
  obtain ⟨ba, bk, rfl⟩ : ∃ a c, vb = .slice a batch.length c := h.1.shape
  obtain ⟨va, vk_, rfl⟩ : ∃ a c, vr = .slice a rounds.length c := h.2.1.shape
  obtain ⟨da, dk, rfl⟩ : ∃ a c, vd = .slice a dec.length c := h.2.2.shape
  dsimp only at hbo hrb HBD HV
  have hB : Below w.heap.size w ((w.alloc (.cells #[.bool has, .slice ba batch.length bk, .slice va rounds.length vk_, .slice da dec.length dk] 28)).alloc (.cells #[.int .i64 0, .slice none 0 0] 73)) := by go_grown
  have Rb := Blk.new (w.alloc (.cells #[.bool has, .slice ba batch.length bk, .slice va rounds.length vk_, .slice da dec.length dk] 28)) 73 #[.int .i64 0, .slice none 0 0]
  simp only [World.size_alloc] at Rb
  have hszB : (Tryz.prog.info? 104).map (·.size) = some BD.toArray.size := by rw [List.size_toArray, hl30]; exact sz_board
  have hold : (#[.int .i64 0, .int .i64 0, .int .i64 0, .int .i64 0, .int .i64 0, .int .i64 0, .int .i64 0, .int .i64 0, .int .i64 0, .int .i64 0, .int .i64 0, .int .i64 0, .int .i64 0, .int .i64 0, .int .i64 0, .int .i64 0, .int .i64 0, .int .i64 0, .int .i64 0, .int .i64 0, .int .i64 0, .int .i64 0, .int .i64 0, .int .i64 0, .int .i64 0, .bool false, .slice none 0 0, .int .i64 0, .int .i64 0, .int .i64 0] : Array Value).size = BD.toArray.size := (show 30 = BD.length from hl30.symm)
  refine callsIn_wide.1 (callsIn_of_wp_marks (n := 0) Tryz.func43 rfl trivial (wpIn_wide.2 ?_) rfl)
  simp only [Tryz.ntmps43, List.size_toArray, List.length_cons, List.length_nil, Nat.reduceAdd, Nat.reduceSub, Array.replicate_succ, Array.replicate_zero, List.push_toArray, List.append_toArray, List.nil_append, List.cons_append]
  go_wp2_with fail
  generalize ((w.alloc (.cells #[.bool has, .slice ba batch.length bk, .slice va rounds.length vk_, .slice da dec.length dk] 28)).alloc (.cells #[.int .i64 0, .slice none 0 0] 73)) = W at *
  refine (hbo W (hG.below hB) (hrb W hB)).mono ?_
  rintro e w1 ⟨rfl, hb1⟩
  replace hB := hB.trans (hb1.mono hB.size)
  replace Rb := Rb.below hb1
  have Bz := Blk.new w1 104 #[.int .i64 0, .int .i64 0, .int .i64 0, .int .i64 0, .int .i64 0, .int .i64 0, .int .i64 0, .int .i64 0, .int .i64 0, .int .i64 0, .int .i64 0, .int .i64 0, .int .i64 0, .int .i64 0, .int .i64 0, .int .i64 0, .int .i64 0, .int .i64 0, .int .i64 0, .int .i64 0, .int .i64 0, .int .i64 0, .int .i64 0, .int .i64 0, .int .i64 0, .bool false, .slice none 0 0, .int .i64 0, .int .i64 0, .int .i64 0]
  have hB2 := below_row (hB.alloc hB.size (.cells #[.int .i64 0, .int .i64 0, .int .i64 0, .int .i64 0, .int .i64 0, .int .i64 0, .int .i64 0, .int .i64 0, .int .i64 0, .int .i64 0, .int .i64 0, .int .i64 0, .int .i64 0, .int .i64 0, .int .i64 0, .int .i64 0, .int .i64 0, .int .i64 0, .int .i64 0, .int .i64 0, .int .i64 0, .int .i64 0, .int .i64 0, .int .i64 0, .int .i64 0, .bool false, .slice none 0 0, .int .i64 0, .int .i64 0, .int .i64 0] 104)) (g := w1.heap.size) hB.size BD.toArray
  have Rb2 : Blk ((w1.alloc (.cells #[.int .i64 0, .int .i64 0, .int .i64 0, .int .i64 0, .int .i64 0, .int .i64 0, .int .i64 0, .int .i64 0, .int .i64 0, .int .i64 0, .int .i64 0, .int .i64 0, .int .i64 0, .int .i64 0, .int .i64 0, .int .i64 0, .int .i64 0, .int .i64 0, .int .i64 0, .int .i64 0, .int .i64 0, .int .i64 0, .int .i64 0, .int .i64 0, .int .i64 0, .bool false, .slice none 0 0, .int .i64 0, .int .i64 0, .int .i64 0] 104)).setRow w1.heap.size BD.toArray) (w.heap.size + 1) 73 #[.int .i64 0, .slice none 0 0] := (setRow_other _ _ _ _ (by have := Rb.lt; omega)).trans (Rb.below ((Below.refl _ _).alloc (Nat.le_refl _) _))
  have B2 := Bz.row BD.toArray
  have hlt2 := Rb.lt
  have hsz2 : ((w1.alloc (.cells #[.int .i64 0, .int .i64 0, .int .i64 0, .int .i64 0, .int .i64 0, .int .i64 0, .int .i64 0, .int .i64 0, .int .i64 0, .int .i64 0, .int .i64 0, .int .i64 0, .int .i64 0, .int .i64 0, .int .i64 0, .int .i64 0, .int .i64 0, .int .i64 0, .int .i64 0, .int .i64 0, .int .i64 0, .int .i64 0, .int .i64 0, .int .i64 0, .int .i64 0, .bool false, .slice none 0 0, .int .i64 0, .int .i64 0, .int .i64 0] 104)).setRow w1.heap.size BD.toArray).heap.size = w1.heap.size + 1 := by rw [setRow_size, World.size_alloc]
  clear hbo hrb hb1 Rb
  by_cases h0 : C = 0
  case neg =>
    have hV := HV.out.2 h0
    subst hV
    have h0' : (C != 0) = true := by simpa using h0
    clear HV HBD h0 B2
    have Rr := Rb2.row #[.int .i64 C, .slice none 0 0]
    have hBr := below_row hB2 (g := w.heap.size + 1) (by omega) #[.int .i64 C, .slice none 0 0]
    have hsr : (Tryz.prog.info? 73).map (·.size) = some (#[.int .i64 C, .slice none 0 0] : Array Value).size := by kernel_rfl
    go_wp2_with (first | (refine st_row (by kernel_rfl) 104 _ _ rfl _ BD.toArray rfl rfl 104 _ Bz hszB hold hone ?_) | (refine st_row (by kernel_rfl) 73 _ _ rfl _ #[.int .i64 C, .slice none 0 0] rfl rfl 73 _ Rb2 hsr rfl (by simp [Value.oneCell']) ?_))
    have q0 := Rr.cell 0 _ rfl
    have q1 := Rr.cell 1 _ rfl
    exact ⟨.agg #[.int .i64 C, .slice none 0 0], by simp [results, Tryz.results43, go_sem, q0, q1], _, _, rfl, World.ownsRow_nil _ _ _ _, hBr⟩

  case pos =>
    obtain ⟨hBD, hFr⟩ := HBD.out h0
    subst h0
    have hV := HV.out.1 rfl
    subst hV
    have HB9 : Hid (BD = brdC has (.slice ba batch.length bk) rs dec) := hBD
    clear HBD hBD HV
    have hs30 : (Tryz.prog.info? 104).map (·.size) = some BD.length := by rw [hl30]; exact sz_board
    have BX := Boxed.new ((w1.alloc (.cells #[.int .i64 0, .int .i64 0, .int .i64 0, .int .i64 0, .int .i64 0, .int .i64 0, .int .i64 0, .int .i64 0, .int .i64 0, .int .i64 0, .int .i64 0, .int .i64 0, .int .i64 0, .int .i64 0, .int .i64 0, .int .i64 0, .int .i64 0, .int .i64 0, .int .i64 0, .int .i64 0, .int .i64 0, .int .i64 0, .int .i64 0, .int .i64 0, .int .i64 0, .bool false, .slice none 0 0, .int .i64 0, .int .i64 0, .int .i64 0] 104)).setRow w1.heap.size BD.toArray) 71 (.slice none 0 0)
    have hb3 : Below ((w1.alloc (.cells #[.int .i64 0, .int .i64 0, .int .i64 0, .int .i64 0, .int .i64 0, .int .i64 0, .int .i64 0, .int .i64 0, .int .i64 0, .int .i64 0, .int .i64 0, .int .i64 0, .int .i64 0, .int .i64 0, .int .i64 0, .int .i64 0, .int .i64 0, .int .i64 0, .int .i64 0, .int .i64 0, .int .i64 0, .int .i64 0, .int .i64 0, .int .i64 0, .int .i64 0, .bool false, .slice none 0 0, .int .i64 0, .int .i64 0, .int .i64 0] 104)).setRow w1.heap.size BD.toArray).heap.size ((w1.alloc (.cells #[.int .i64 0, .int .i64 0, .int .i64 0, .int .i64 0, .int .i64 0, .int .i64 0, .int .i64 0, .int .i64 0, .int .i64 0, .int .i64 0, .int .i64 0, .int .i64 0, .int .i64 0, .int .i64 0, .int .i64 0, .int .i64 0, .int .i64 0, .int .i64 0, .int .i64 0, .int .i64 0, .int .i64 0, .int .i64 0, .int .i64 0, .int .i64 0, .int .i64 0, .bool false, .slice none 0 0, .int .i64 0, .int .i64 0, .int .i64 0] 104)).setRow w1.heap.size BD.toArray) (((w1.alloc (.cells #[.int .i64 0, .int .i64 0, .int .i64 0, .int .i64 0, .int .i64 0, .int .i64 0, .int .i64 0, .int .i64 0, .int .i64 0, .int .i64 0, .int .i64 0, .int .i64 0, .int .i64 0, .int .i64 0, .int .i64 0, .int .i64 0, .int .i64 0, .int .i64 0, .int .i64 0, .int .i64 0, .int .i64 0, .int .i64 0, .int .i64 0, .int .i64 0, .int .i64 0, .bool false, .slice none 0 0, .int .i64 0, .int .i64 0, .int .i64 0] 104)).setRow w1.heap.size BD.toArray).alloc (.cells #[.slice none 0 0] 71)) := (Below.refl _ _).alloc (Nat.le_refl _) _
    have B3 := B2.below hb3
    have X4 := rng B3 BD (o := 0) (fun j v hv => by rw [Nat.zero_add, List.getElem?_toArray]; exact hv)
    have Rb3 := Rb2.below hb3
    have hB3 := hB2.trans (hb3.mono hB2.size)
    have hsz3 : (((w1.alloc (.cells #[.int .i64 0, .int .i64 0, .int .i64 0, .int .i64 0, .int .i64 0, .int .i64 0, .int .i64 0, .int .i64 0, .int .i64 0, .int .i64 0, .int .i64 0, .int .i64 0, .int .i64 0, .int .i64 0, .int .i64 0, .int .i64 0, .int .i64 0, .int .i64 0, .int .i64 0, .int .i64 0, .int .i64 0, .int .i64 0, .int .i64 0, .int .i64 0, .int .i64 0, .bool false, .slice none 0 0, .int .i64 0, .int .i64 0, .int .i64 0] 104)).setRow w1.heap.size BD.toArray).alloc (.cells #[.slice none 0 0] 71)).heap.size = w1.heap.size + 2 := by rw [World.size_alloc, hsz2]
    rw [hsz2] at BX
    go_wp2_with (first | (refine st_row (by kernel_rfl) 104 _ _ rfl _ BD.toArray rfl rfl 104 _ Bz hszB hold hone ?_) | (refine ld_g (by kernel_rfl) 104 _ rfl _ _ rfl BD _ X4 Tryz.underlying104 rfl hs30 ?_))
    refine (ballots_any BD _ hl30 hone).mono ?_
    rintro e V2 ⟨rfl, rfl⟩
    clear X4 Bz B2 Rb2 hB2 hb3 B3
    generalize ((w1.alloc (.cells #[.int .i64 0, .int .i64 0, .int .i64 0, .int .i64 0, .int .i64 0, .int .i64 0, .int .i64 0, .int .i64 0, .int .i64 0, .int .i64 0, .int .i64 0, .int .i64 0, .int .i64 0, .int .i64 0, .int .i64 0, .int .i64 0, .int .i64 0, .int .i64 0, .int .i64 0, .int .i64 0, .int .i64 0, .int .i64 0, .int .i64 0, .int .i64 0, .int .i64 0, .bool false, .slice none 0 0, .int .i64 0, .int .i64 0, .int .i64 0] 104)).setRow w1.heap.size BD.toArray).alloc (.cells #[.slice none 0 0] 71) = V1 at *
    have Bb := Blk.new V1 104 BD.toArray
    have hb4 : Below V1.heap.size V1 (V1.alloc (.cells BD.toArray 104)) := (Below.refl _ _).alloc (Nat.le_refl _) _
    replace BX := BX.alloc (.cells BD.toArray 104)
    replace Rb3 := Rb3.below hb4
    replace hB3 := hB3.trans (hb4.mono hB3.size)
    have hsz4 : (V1.alloc (.cells BD.toArray 104)).heap.size = V1.heap.size + 1 := World.size_alloc _ _
    clear hb4
    generalize V1.alloc (.cells BD.toArray 104) = V2 at *
    rw [HB9.out] at Bb
    have HZ : Hid (V2.heap.size = w1.heap.size + 3) := (show V2.heap.size = w1.heap.size + 3 by omega)
    have hS := vt_spk rs dec
    have HS : Hid (∀ x ∈ vtR 0 rs ++ rvF 3 0 0 dec, Spk x) := hS
    have hHands := ballots_hands V1.heap.size has (.slice ba batch.length bk) rs dec V2 Bb hFr
    have HH : Hid _ := hHands
    have hb1s : w.heap.size + 2 ≤ w1.heap.size := by omega
    clear hS hHands Bb HB9 hsz2 hsz3 hsz4 hs30 hszB hold hone hl30 hFr
    obtain ⟨XS, hXS⟩ : ∃ XS, XS = vtR 0 rs ++ rvF 3 0 0 dec := ⟨_, rfl⟩
    rw [← hXS] at HS HH HXL0
    have HXL : Hid (XS.length ≤ 27) := HXL0
    clear HXL0
    have HXS : Hid (XS = vtR 0 rs ++ rvF 3 0 0 dec) := hXS
    clear hXS
    go_wp2_with fail
    refine (wpIn_wide (n := 0)).1 ?_
    refine wpIn_hands (gf := 166) (lb := #[.pointer (some ⟨V1.heap.size, 0, none⟩)]) rfl (enters_of Tryz.func166 (by kernel_rfl) rfl) HH.out (fun h1 h2 => h1.trans h2) (fun W l r r' h => KpV.put W l r r' h) (fun _ => rfl)
      (fun pre W' => (∃ v, Boxed W' (w1.heap.size + 1) 71 v ∧ W'.ownsRow w.heap.size 79 4 v pre.length (voteCells pre) ∧ True) ∧ Blk W' (w.heap.size + 1) 73 #[.int .i64 0, .slice none 0 0] ∧ Below w.heap.size w W') (OwnFrom.and ((holdsRow_own _ _ _ _ 4 (fun s : List VoteD => s.length) voteCells (fun _ _ => True)).from _) (OwnFrom.and (blk_from _ _ _ _) (below_from2 hB3.size))) ⟨⟨_, BX, World.ownsRow_nil _ _ _ _, trivial⟩, Rb3, hB3⟩ ?round ?done
    case round =>
      intro l' pre x W0 hl' hpx
      dsimp only [encB]
      gi_wp2
      refine ⟨by trivial, ?_⟩
      rintro W2 ⟨⟨v, BX2, oX, _⟩, R2, hB4⟩ hl2
      obtain ⟨ua, uc, rfl⟩ := own_shape oX
      have hx := HS.out x (by obtain ⟨t, ht⟩ := hpx; rw [← ht]; simp)
      obtain ⟨xk, xr, xn, xv⟩ := x
      obtain ⟨i0, hi, hz0, hz1, hz2⟩ := info_parts infoVote
      have hpl : pre.length ≤ 30 := by
        have h1 := hpx.length_le
        have h2 := HXL.out
        rw [List.length_append] at h1
        omega
      rcases hx with h1 | h2 | ⟨h3, h4⟩
      · dsimp only at h1
        subst h1
        rw [balV_1]
        have cl := BX2.cell
        have cf := BX2.frozen
        have hm := vt_m1
        gi_wp2_with fail
        replace BX2 : Boxed W2.drew (w1.heap.size + 1) 71 (.slice ua pre.length uc) := BX2
        replace oX : W2.drew.ownsRow w.heap.size 79 4 (.slice ua pre.length uc) pre.length (voteCells pre) := oX
        have hs2 : w.heap.size ≤ W2.drew.heap.size := hB4.size
        gi_region_with (refine ⟨trivial, rfl, (calls_in (m := 0) (wide_call10 (voteM1 xr xn xv _))).mono ?_⟩; rintro e w5 ⟨rfl, hb5⟩; have cl5 := (Boxed.belowB BX2 hb5).cell; have cf5 := (Boxed.belowB BX2 hb5).frozen; have cl5a := ((Boxed.belowB BX2 hb5).alloc (.cells #[.int .i64 1, .int .i64 xr, .int .i64 xn, .int .i64 xv] 79)).cell; obtain ⟨v', w6, hr, hown, hgrow, hnil, hat⟩ := run_append_own_at (P := Tryz.prog) (w5.alloc (.cells #[.int .i64 1, .int .i64 xr, .int .i64 xn, .int .i64 xv] 79)) w.heap.size 71 71 79 i0 (.agg #[.int .i64 0, .int .i64 0, .int .i64 0, .int .i64 0]) 4 32 Tryz.underlying71 hi hz0 hz1 hz2 rfl (by decide) (.slice ua pre.length uc) pre.length (voteCells pre) (own_below (own_below oX hb5) ((Below.refl _ _).alloc (Nat.le_refl _) _)) ⟨w5.heap.size, 0, none⟩ 1 1 [.int .i64 1, .int .i64 xr, .int .i64 xn, .int .i64 xv] rfl (by intro j u hj; match j, hj with | 0, hj => simp at hj; subst hj; simp [Addr.add] | 1, hj => simp at hj; subst hj; simp [Addr.add] | 2, hj => simp at hj; subst hj; simp [Addr.add] | 3, hj => simp at hj; subst hj; simp [Addr.add]) (by intro u hu; simp at hu; rcases hu with rfl | rfl | rfl | rfl <;> rfl) (by unfold maxLen; omega) (by omega) (by have := hb5.size; rw [World.size_alloc]; omega); rw [apVt_eq] at hr; obtain ⟨g', cap', rfl⟩ := ownsRow_succ hown; obtain ⟨b1, b2, o7, k7, bl7⟩ := Boxed.appended (Boxed.belowB BX2 hb5) (show (71 : Nat) ≠ 79 by decide) (own_below oX hb5) (by have := hb5.size; omega) (by omega) hown hgrow; have cl6 := b1.cell; have cf6 := b1.frozen; have HK : Hid _ := kept_all (v' := .slice (some ⟨g', 0, none⟩) (pre.length + 1) cap') hb5 hgrow oX BX2; have HB7 : Hid _ := bl7; have HO7 : Hid _ := o7; have HB2 : Hid _ := b2; have HB5 : Hid _ := hb5; clear hgrow hnil hat hown k7 bl7 o7 b2 hb5)
        all_goals
          obtain ⟨hsz7, hk7⟩ := HK.out
          refine ⟨⟨hsz7, fun k o _ h0 ho => hk7 k o h0 (by cases o <;> simp_all [keepO, Obj.isCells])⟩, ⟨hsz7, fun k o h0 _ ho => hk7 k o h0 ho⟩, ⟨_, HB2.out, ?_, trivial⟩, hk7 _ _ R2 (by decide), ?_⟩
          · rw [List.length_append, voteCells_append, voteCells_one]
            exact HO7.out
          · exact (hB4.drew.trans (HB5.out.mono hs2)).trans HB7.out
      · dsimp only at h2
        subst h2
        rw [balV_2]
        have cl := BX2.cell
        have cf := BX2.frozen
        have hm := vt_m2
        gi_wp2_with fail
        replace BX2 : Boxed W2.drew (w1.heap.size + 1) 71 (.slice ua pre.length uc) := BX2
        replace oX : W2.drew.ownsRow w.heap.size 79 4 (.slice ua pre.length uc) pre.length (voteCells pre) := oX
        have hs2 : w.heap.size ≤ W2.drew.heap.size := hB4.size
        gi_region_with (refine ⟨trivial, rfl, (calls_in (m := 0) (wide_call10 (voteM2 xr xn xv _))).mono ?_⟩; rintro e w5 ⟨rfl, hb5⟩; have cl5 := (Boxed.belowB BX2 hb5).cell; have cf5 := (Boxed.belowB BX2 hb5).frozen; have cl5a := ((Boxed.belowB BX2 hb5).alloc (.cells #[.int .i64 2, .int .i64 xr, .int .i64 xn, .int .i64 xv] 79)).cell; obtain ⟨v', w6, hr, hown, hgrow, hnil, hat⟩ := run_append_own_at (P := Tryz.prog) (w5.alloc (.cells #[.int .i64 2, .int .i64 xr, .int .i64 xn, .int .i64 xv] 79)) w.heap.size 71 71 79 i0 (.agg #[.int .i64 0, .int .i64 0, .int .i64 0, .int .i64 0]) 4 32 Tryz.underlying71 hi hz0 hz1 hz2 rfl (by decide) (.slice ua pre.length uc) pre.length (voteCells pre) (own_below (own_below oX hb5) ((Below.refl _ _).alloc (Nat.le_refl _) _)) ⟨w5.heap.size, 0, none⟩ 1 1 [.int .i64 2, .int .i64 xr, .int .i64 xn, .int .i64 xv] rfl (by intro j u hj; match j, hj with | 0, hj => simp at hj; subst hj; simp [Addr.add] | 1, hj => simp at hj; subst hj; simp [Addr.add] | 2, hj => simp at hj; subst hj; simp [Addr.add] | 3, hj => simp at hj; subst hj; simp [Addr.add]) (by intro u hu; simp at hu; rcases hu with rfl | rfl | rfl | rfl <;> rfl) (by unfold maxLen; omega) (by omega) (by have := hb5.size; rw [World.size_alloc]; omega); rw [apVt_eq] at hr; obtain ⟨g', cap', rfl⟩ := ownsRow_succ hown; obtain ⟨b1, b2, o7, k7, bl7⟩ := Boxed.appended (Boxed.belowB BX2 hb5) (show (71 : Nat) ≠ 79 by decide) (own_below oX hb5) (by have := hb5.size; omega) (by omega) hown hgrow; have cl6 := b1.cell; have cf6 := b1.frozen; have HK : Hid _ := kept_all (v' := .slice (some ⟨g', 0, none⟩) (pre.length + 1) cap') hb5 hgrow oX BX2; have HB7 : Hid _ := bl7; have HO7 : Hid _ := o7; have HB2 : Hid _ := b2; have HB5 : Hid _ := hb5; clear hgrow hnil hat hown k7 bl7 o7 b2 hb5)
        all_goals
          obtain ⟨hsz7, hk7⟩ := HK.out
          refine ⟨⟨hsz7, fun k o _ h0 ho => hk7 k o h0 (by cases o <;> simp_all [keepO, Obj.isCells])⟩, ⟨hsz7, fun k o h0 _ ho => hk7 k o h0 ho⟩, ⟨_, HB2.out, ?_, trivial⟩, hk7 _ _ R2 (by decide), ?_⟩
          · rw [List.length_append, voteCells_append, voteCells_one]
            exact HO7.out
          · exact (hB4.drew.trans (HB5.out.mono hs2)).trans HB7.out
      · dsimp only at h3 h4
        subst h3
        subst h4
        rw [balV_3]
        have cl := BX2.cell
        have cf := BX2.frozen
        have hm := vt_m3
        gi_wp2_with fail
        replace BX2 : Boxed W2.drew (w1.heap.size + 1) 71 (.slice ua pre.length uc) := BX2
        replace oX : W2.drew.ownsRow w.heap.size 79 4 (.slice ua pre.length uc) pre.length (voteCells pre) := oX
        have hs2 : w.heap.size ≤ W2.drew.heap.size := hB4.size
        gi_region_with (refine ⟨trivial, rfl, (calls_in (m := 0) (wide_call10 (voteM3 xn xv _))).mono ?_⟩; rintro e w5 ⟨rfl, hb5⟩; have cl5 := (Boxed.belowB BX2 hb5).cell; have cf5 := (Boxed.belowB BX2 hb5).frozen; have cl5a := ((Boxed.belowB BX2 hb5).alloc (.cells #[.int .i64 3, .int .i64 0, .int .i64 xn, .int .i64 xv] 79)).cell; obtain ⟨v', w6, hr, hown, hgrow, hnil, hat⟩ := run_append_own_at (P := Tryz.prog) (w5.alloc (.cells #[.int .i64 3, .int .i64 0, .int .i64 xn, .int .i64 xv] 79)) w.heap.size 71 71 79 i0 (.agg #[.int .i64 0, .int .i64 0, .int .i64 0, .int .i64 0]) 4 32 Tryz.underlying71 hi hz0 hz1 hz2 rfl (by decide) (.slice ua pre.length uc) pre.length (voteCells pre) (own_below (own_below oX hb5) ((Below.refl _ _).alloc (Nat.le_refl _) _)) ⟨w5.heap.size, 0, none⟩ 1 1 [.int .i64 3, .int .i64 0, .int .i64 xn, .int .i64 xv] rfl (by intro j u hj; match j, hj with | 0, hj => simp at hj; subst hj; simp [Addr.add] | 1, hj => simp at hj; subst hj; simp [Addr.add] | 2, hj => simp at hj; subst hj; simp [Addr.add] | 3, hj => simp at hj; subst hj; simp [Addr.add]) (by intro u hu; simp at hu; rcases hu with rfl | rfl | rfl | rfl <;> rfl) (by unfold maxLen; omega) (by omega) (by have := hb5.size; rw [World.size_alloc]; omega); rw [apVt_eq] at hr; obtain ⟨g', cap', rfl⟩ := ownsRow_succ hown; obtain ⟨b1, b2, o7, k7, bl7⟩ := Boxed.appended (Boxed.belowB BX2 hb5) (show (71 : Nat) ≠ 79 by decide) (own_below oX hb5) (by have := hb5.size; omega) (by omega) hown hgrow; have cl6 := b1.cell; have cf6 := b1.frozen; have HK : Hid _ := kept_all (v' := .slice (some ⟨g', 0, none⟩) (pre.length + 1) cap') hb5 hgrow oX BX2; have HB7 : Hid _ := bl7; have HO7 : Hid _ := o7; have HB2 : Hid _ := b2; have HB5 : Hid _ := hb5; clear hgrow hnil hat hown k7 bl7 o7 b2 hb5)
        all_goals
          obtain ⟨hsz7, hk7⟩ := HK.out
          refine ⟨⟨hsz7, fun k o _ h0 ho => hk7 k o h0 (by cases o <;> simp_all [keepO, Obj.isCells])⟩, ⟨hsz7, fun k o h0 _ ho => hk7 k o h0 ho⟩, ⟨_, HB2.out, ?_, trivial⟩, hk7 _ _ R2 (by decide), ?_⟩
          · rw [List.length_append, voteCells_append, voteCells_one]
            exact HO7.out
          · exact (hB4.drew.trans (HB5.out.mono hs2)).trans HB7.out
    case done =>
      rintro D1 W1 hD1 ⟨⟨v, BX2, oX, _⟩, R2, hB4⟩ hDD1
      obtain ⟨ua, uc, rfl⟩ := own_shape oX
      have cl := BX2.cell
      have Rr := R2.row #[.int .i64 0, .slice ua XS.length uc]
      have hBr := below_row hB4 (g := w.heap.size + 1) (by omega) #[.int .i64 0, .slice ua XS.length uc]
      have oXr := own_rowB oX R2 (by decide) #[.int .i64 0, .slice ua XS.length uc]
      have hDr : (W1.setRow (w.heap.size + 1) #[.int .i64 0, .slice ua XS.length uc]).heap[D1]? = some (.deferred (some [])) := (setRow_other _ _ _ _ (by have := HZ.out; omega)).trans hDD1
      have hsr : (Tryz.prog.info? 73).map (·.size) = some (#[.int .i64 0, .slice ua XS.length uc] : Array Value).size := by kernel_rfl
      go_wp2_with (first | (refine st_row (by kernel_rfl) 73 _ _ rfl _ #[.int .i64 0, .slice ua XS.length uc] rfl rfl 73 _ R2 hsr rfl (by simp [Value.oneCell']) ?_))
      exact leaves_marks2 (B := V2.heap.size) (fun W => Blk W (w.heap.size + 1) 73 #[.int .i64 0, .slice ua XS.length uc] ∧ W.ownsRow w.heap.size 79 4 (.slice ua XS.length uc) XS.length (voteCells XS) ∧ Below w.heap.size w W) (.agg #[.int .i64 0, .slice ua XS.length uc])
        (fun W D hJ hD hd => ⟨(World.putObj_heap_other (by have := HZ.out; omega)).trans hJ.1, ownsRow_putObj hJ.2.1 _ hd rfl, (below_from2 (β := Unit) hB3.size).putObj (s := ()) _ hJ.2.2 hD hd rfl⟩)
        (fun W hJ => by
          have q0 := hJ.1.cell 0 _ rfl
          have q1 := hJ.1.cell 1 _ rfl
          simp [results, Tryz.results43, go_sem, q0, q1])
        (fun W hJ => by
          have e := HXS.out
          subst e
          exact ⟨_, _, rfl, hJ.2.1, hJ.2.2⟩) [D1] _ ⟨Rr, oXr, hBr⟩ (by simp) (fun D hD => by
          simp at hD
          subst hD
          exact ⟨hD1, hDr⟩)

end Go.Proofs.YtpjmlidbligcbaaGreatDoor
