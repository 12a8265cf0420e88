/- mustReadTxn: it tells the transaction that the bytes are packed of, or panics with what errNoTxn holds. -/
import Derived.Test.YtjaoggkpnjkkpaaDoorRdQ
import Derived.Test.YtjaoggkpnjkkpaaDoorTextX
import Derived.Test.YtjaoggkpnjkkpaaDoorRead
import Derived.Deep.LoopGhost
namespace Go.Proofs.YtjaoggkpnjkkpaaDoor
open Go.RowKit
open Go.BigFrame
set_option linter.unusedVariables false
set_option linter.unusedSimpArgs false

/-- Numbers by threes. -/
def trip : List Int → Option (List ActD)
  | [] => some []
  | k :: y :: v :: r => (trip r).map (⟨k, y, v⟩ :: ·)
  | _ => none
/-- What numbers tell: id, session, seq and acts, or nothing. -/
def txnOf : List Int → Option (Int × Int × Int × List ActD)
  | i :: s :: q :: r => match trip r with
    | some zs => if txnF i s q zs = 0 then some (i, s, q, zs) else none
    | none => none
  | _ => none

theorem infoActs0 : (Tryd.prog.info? 54).map (fun i => (i.zero, i.size, i.bytes)) = some (some (.agg #[.int .i64 0, .int .i64 0, .int .i64 0]), 3, 24) := by kernel_rfl

/-- What mustReadTxn comes to. -/
def MustPost (w : World) (t : TypeId) (x : Value) (r : Option (Int × Int × Int × List ActD)) (e : Ending) (w' : World) : Prop :=
  match r with
  | some (i, s, q, zs) => ∃ b c, e = .returned (.agg #[.int .i64 i, .int .i64 s, .int .i64 q, .slice b zs.length c]) ∧ w'.ownsRow w.heap.size 54 3 (.slice b zs.length c) zs.length (actCells zs) ∧ Below w.heap.size w w'
  | none => e = .panicked [{ v := .iface t x, recovered := false }] ∧ Below w.heap.size w w'

theorem txnOf_none {i s q : Int} {L : List Int} (h : trip L = none) : txnOf (i :: s :: q :: L) = none := by simp [txnOf, h]

/-- The worlds in which a cell holds v. -/
structure KeepC (c : Addr) (v : Value) where
  val : World
  isC : val.cell? c = some v

theorem ErrVar.set {w : World} {t : TypeId} {x y : Value} {q : Nat} (h : ErrVar w t x) (hq : 0 ≠ q) : ErrVar (w.setCell ⟨q, 0, none⟩ y) t x := by
  unfold ErrVar at h ⊢
  rw [World.cell?_of_block (w := w) (Below.heap_setCell w ⟨q, 0, none⟩ _ 0 hq)]; exact h
theorem Blk.setOther {w : World} {b q o : Nat} {tt : TypeId} {cs : Array Value} {y : Value} (h : Blk w b tt cs) (hq : b ≠ q) : Blk (w.setCell ⟨q, o, none⟩ y) b tt cs := (Below.heap_setCell w ⟨q, o, none⟩ _ b hq).trans h

set_option maxRecDepth 100000 in
set_option maxHeartbeats 4000000 in
theorem mustRead_any (a : Option Addr) (cap : Nat) (ds : List Int) (t : TypeId) (x : Value) (w : World) (hG : ErrVar w t x) (h : Row .u8 w a ds) (hu : ∀ i, 0 ≤ ds.getD i 0 ∧ ds.getD i 0 ≤ 255) (hl : ds.length ≤ 1048576) :
    Calls Tryd.prog 25 #[.slice a ds.length cap] w fun e w' => MustPost w t x (if readC ds = 0 then txnOf (readR ds) else none) e w' := by
  have hrd := fun w h => implRead_any a cap ds w h hu hl
  have hL40 := readR_le ds
  have hb0 : Below w.heap.size w (w.alloc (.cells #[.int .i64 0, .int .i64 0, .int .i64 0, .slice none 0 0] 27)) := by go_grown
  have B0 := Blk.new w 27 #[.int .i64 0, .int .i64 0, .int .i64 0, .slice none 0 0]
  by_cases hC : readC ds = 0
  case neg =>
    rw [if_neg hC]
    have hne : (readC ds != 0) = true := by simpa using hC
    clear hC
    generalize readC ds = rc at hrd hne
    generalize readR ds = L at hrd hL40
    go_enter Tryd.func25, Tryd.ntmps25
    go_wp2_with fail
    generalize w.alloc (.cells #[.int .i64 0, .int .i64 0, .int .i64 0, .slice none 0 0] 27) = W at B0 hb0
    refine (hrd _ (h.below hb0)).mono ?_
    rintro e w1 ⟨b1, c1, rfl, o1, hb⟩
    have hb2 : Below w1.heap.size w1 (w1.alloc (.cells #[.int .i64 rc, .slice b1 L.length c1] 41)) := by go_grown
    have hG1 : ErrVar (w1.alloc (.cells #[.int .i64 rc, .slice b1 L.length c1] 41)) t x := ((hG.below hb0).below hb).below hb2
    unfold ErrVar at hG1
    go_wp2
    exact ⟨rfl, rfl, below_from (below_from hb0 hb) hb2⟩
  case pos =>
    rw [if_pos hC]
    rw [hC] at hrd
    clear hC
    generalize readR ds = L at hrd hL40
    generalize hr : txnOf L = r
    have HR : Hid (txnOf L = r) := hr
    clear hr
    go_enter Tryd.func25, Tryd.ntmps25
    go_wp2_with fail
    generalize w.alloc (.cells #[.int .i64 0, .int .i64 0, .int .i64 0, .slice none 0 0] 27) = W at B0 hb0
    refine (hrd _ (h.below hb0)).mono ?_
    rintro e w1 ⟨b1, c1, rfl, o1, hb⟩
    have hq0 : w.heap.size ≤ w1.heap.size := Nat.le_trans hb0.size hb.size
    have hlt0 : w.heap.size < w1.heap.size := Nat.lt_of_lt_of_le B0.lt hb.size
    have hb3 : Below w1.heap.size w1 ((w1.alloc (.cells #[.int .i64 0, .slice b1 L.length c1] 41)).alloc (.cells #[.slice b1 L.length c1] 76)) := by go_grown
    have hQ : QAt ((w1.alloc (.cells #[.int .i64 0, .slice b1 L.length c1] 41)).alloc (.cells #[.slice b1 L.length c1] 76)) (w1.heap.size + 1) L := by
      have hB := Blk.new (w1.alloc (.cells #[.int .i64 0, .slice b1 L.length c1] 41)) 76 #[.slice b1 L.length c1]
      simp only [World.size_alloc] at hB
      refine ⟨b1, c1, hB, ?_, (Row.own o1).below hb3, ?_⟩
      · rcases o1.2 with ⟨he, hn⟩ | ⟨g, cap, cur, he, _, _, hn, _⟩
        · rw [hn]; exact Nat.zero_le _
        · simp only [Value.slice.injEq, true_and] at he
          rw [he.2]; exact hn
      · intro b off sp e
        have := (o1.lt b (by rw [e]; rfl)).2
        omega
    have hG3 := ((hG.below hb0).below hb).below hb3
    replace hb0 := below_from (below_from hb0 hb) hb3
    replace B0 := (B0.below hb).below hb3
    clear hb hrd o1
    go_wp2_with fail
    generalize (w1.alloc (.cells #[.int .i64 0, .slice b1 L.length c1] 41)).alloc (.cells #[.slice b1 L.length c1] 76) = w3 at hb3 hQ hG3 hb0 B0
    have hbq : w.heap.size ≠ w1.heap.size + 1 := by omega
    have hne0 : (0 : Nat) ≠ w1.heap.size + 1 := by omega
    have hqb : w.heap.size ≤ w1.heap.size + 1 := by omega
    generalize w1.heap.size + 1 = qb at hQ hbq hne0 hqb
    rcases L with _ | ⟨z0, L⟩
    · refine (take_nil _ t x _ hG3 hQ).mono ?_
      rintro e w4 ⟨rfl, rfl⟩
      go_wp2
      rw [← HR.out]
      exact ⟨rfl, rfl, hb0⟩
    have hl1 : L.length ≤ 40 := by simp at hL40; omega
    refine (take_cons _ z0 L _ hQ hl1).mono ?_
    rintro e w4 ⟨rfl, hQ', y1, rfl⟩
    replace hQ := hQ'
    replace hG3 := hG3.set (y := y1) hne0
    replace B0 := B0.setOther (o := 0) (y := y1) hbq
    replace hb0 := hb0.setCell (p := ⟨qb, 0, none⟩) hqb y1
    clear hQ'
    generalize w3.setCell ⟨qb, 0, none⟩ y1 = w4 at hQ hG3 B0 hb0
    go_wp2_with fail
    rcases L with _ | ⟨z1, L⟩
    · refine (take_nil _ t x _ hG3 hQ).mono ?_
      rintro e v4 ⟨rfl, rfl⟩
      go_wp2
      rw [← HR.out]
      exact ⟨rfl, rfl, hb0⟩
    have hl2 : L.length ≤ 40 := by simp at hL40; omega
    refine (take_cons _ z1 L _ hQ hl2).mono ?_
    rintro e w5 ⟨rfl, hQ', y2, rfl⟩
    replace hQ := hQ'
    replace hG3 := hG3.set (y := y2) hne0
    replace B0 := B0.setOther (o := 0) (y := y2) hbq
    replace hb0 := hb0.setCell (p := ⟨qb, 0, none⟩) hqb y2
    clear hQ'
    generalize w4.setCell ⟨qb, 0, none⟩ y2 = w5 at hQ hG3 B0 hb0
    go_wp2_with fail
    rcases L with _ | ⟨z2, L⟩
    · refine (take_nil _ t x _ hG3 hQ).mono ?_
      rintro e v4 ⟨rfl, rfl⟩
      go_wp2
      rw [← HR.out]
      exact ⟨rfl, rfl, hb0⟩
    have hl3 : L.length ≤ 40 := by simp at hL40; omega
    refine (take_cons _ z2 L _ hQ hl3).mono ?_
    rintro e w6 ⟨rfl, hQ', y3, rfl⟩
    replace hQ := hQ'
    replace hG3 := hG3.set (y := y3) hne0
    replace B0 := B0.setOther (o := 0) (y := y3) hbq
    replace hb0 := hb0.setCell (p := ⟨qb, 0, none⟩) hqb y3
    clear hQ'
    generalize w5.setCell ⟨qb, 0, none⟩ y3 = w6 at hQ hG3 B0 hb0
    have hb7 : Below w6.heap.size w6 (w6.alloc (.cells #[.int .i64 z0, .int .i64 z1, .int .i64 z2, .slice none 0 0] 27)) := by go_grown
    have Bt := Blk.new w6 27 #[.int .i64 z0, .int .i64 z1, .int .i64 z2, .slice none 0 0]
    have hqt := hQ.lt
    replace hQ := hQ.below hb7
    replace hG3 := hG3.below hb7
    replace B0 := B0.below hb7
    replace hb0 := below_from hb0 hb7
    go_wp2
    generalize w6.alloc (.cells #[.int .i64 z0, .int .i64 z1, .int .i64 z2, .slice none 0 0] 27) = w7 at hb7 Bt hQ hG3 B0 hb0
    have htb : w.heap.size ≤ w6.heap.size := by have := B0.lt; omega
    have htq : w6.heap.size ≠ qb := by omega
    have htl : w6.heap.size < w7.heap.size := Bt.lt
    have hqw : qb < w7.heap.size := by omega
    have hrt : w.heap.size ≠ w6.heap.size := by omega
    generalize w6.heap.size = tb at Bt htb htq htl hqt hrt
    clear hb7
    have HL : Hid (txnOf (z0 :: z1 :: z2 :: L) = r) := HR
    clear HR
    go_loopg [19] L.length (fun n p wr => ∃ (R : List Int) (zs : List ActD) (a1 : Option Addr) (c1 : Nat), n = R.length ∧ R.length ≤ 40 ∧ zs.length ≤ 40 ∧ QAt wr qb R ∧ ErrVar wr t x ∧ Blk wr w.heap.size 27 #[.int .i64 0, .int .i64 0, .int .i64 0, .slice none 0 0] ∧
      Blk wr tb 27 #[.int .i64 z0, .int .i64 z1, .int .i64 z2, .slice a1 zs.length c1] ∧ wr.ownsRow w7.heap.size 54 3 (.slice a1 zs.length c1) zs.length (actCells zs) ∧ Below w.heap.size w wr ∧ w7.heap.size ≤ wr.heap.size ∧ zs.length + R.length ≤ 40 ∧ Hid (trip L = (trip R).map (zs ++ ·)))
    case atStart => exact ⟨L, [], none, 0, rfl, by simp at hL40; omega, by simp, hQ, hG3, B0, Bt, World.ownsRow_nil _ _ _ _, hb0, Nat.le_refl _, by simp at hL40; simp; omega, show _ = _ by cases trip L <;> simp⟩
    case round =>
      obtain ⟨R, zs, a1, c1, rfl, hR40, hz40, hQ, hG, B0, Bt, ho, hb, hsz, hsum, HT⟩ := hrel
      have HQ : Hid (QAt wr qb R) := hQ
      obtain ⟨aq, cq, hBq, _⟩ := hQ
      have q0 : wr.cell? ⟨qb, 0, none⟩ = some (.slice aq R.length cq) := hBq.cell 0 _ rfl
      clear hBq
      rcases R with _ | ⟨k0, _ | ⟨k1, _ | ⟨k2, R⟩⟩⟩
      ·
        have HT' : Hid (txnOf (z0 :: z1 :: z2 :: L) = if txnF z0 z1 z2 zs = 0 then some (z0, z1, z2, zs) else none) := by
          have e : trip L = some zs := by rw [HT.out]; simp [trip]
          show _ = _
          simp [txnOf, e]
        have hf := fun w h => txnFault_any z0 z1 z2 a1 c1 zs w h (by omega)
        have p0 := Bt.cell 0 _ rfl
        have p1 := Bt.cell 1 _ rfl
        have p2 := Bt.cell 2 _ rfl
        have p3 := Bt.cell 3 _ rfl
        by_cases hF : txnF z0 z1 z2 zs = 0
        case neg =>
          have HR' : Hid (none = r) := by
            show _ = _
            rw [← HL.out, HT'.out, if_neg hF]
          have hne : (txnF z0 z1 z2 zs != 0) = true := by simpa using hF
          clear HT' hF
          generalize txnF z0 z1 z2 zs = rc at hf hne
          go_wp2_with fail
          refine (hf _ (Lies.own ho)).mono ?_
          rintro e w8 ⟨rfl, hb8⟩
          have hG8 := hG.below hb8
          unfold ErrVar at hG8
          go_wp2
          rw [← HR'.out]
          exact ⟨rfl, rfl, below_from hb hb8⟩
        case pos =>
          have HR' : Hid (some (z0, z1, z2, zs) = r) := by
            show _ = _
            rw [← HL.out, HT'.out, if_pos hF]
          rw [hF] at hf
          clear HT' hF
          go_wp2_with fail
          refine (hf _ (Lies.own ho)).mono ?_
          rintro e w8 ⟨rfl, hb8⟩
          clear p0 p1 p2 p3
          replace Bt := Bt.below hb8
          replace B0 := B0.below hb8
          have p0 := Bt.cell 0 _ rfl
          have p1 := Bt.cell 1 _ rfl
          have p2 := Bt.cell 2 _ rfl
          have p3 := Bt.cell 3 _ rfl
          have q1 := B0.cell 0 _ rfl
          have q2 := B0.cell 1 _ rfl
          have q3 := B0.cell 2 _ rfl
          have q4 := B0.cell 3 _ rfl
          have f1 := B0.frozen 0
          have f2 := B0.frozen 1
          have f3 := B0.frozen 2
          have f4 := B0.frozen 3
          replace ho := own_below ho hb8
          have hlr := B0.lt
          clear Bt B0
          go_wp2
          refine bodyPost_ret (v := .agg #[.int .i64 z0, .int .i64 z1, .int .i64 z2, .slice a1 zs.length c1]) (by simp [results, Tryd.results25, go_sem, q1, q2, q3, q4]) rfl ?_
          rw [← HR'.out]
          refine ⟨_, _, rfl, ?_, ?_⟩
          · refine own_base (base := w7.heap.size) ?_ (by omega)
            repeat' (refine ownsRow_setCell_below ?_ (by dsimp only; omega) _)
            exact ho
          · repeat' (refine Below.setCell ?_ (by dsimp only; omega) _)
            exact below_from hb hb8
      ·
        have HR' : Hid (none = r) := by
          show _ = _
          rw [← HL.out, txnOf_none (by rw [HT.out]; rfl)]
        go_wp2_with fail
        clear q0
        have hQ := HQ.out
        have hW : Below w.heap.size w wr.drew := hb.drew
        refine beginX (S := fun w' => ∃ u : KeepC ⟨tb, 3, none⟩ (.slice a1 zs.length c1), w' = u.val) (R := fun c w' => c = [{ v := .iface t x, recovered := false }] ∧ Below w.heap.size w w') 9 (by kernel_rfl) ?hR ?_
        case hR =>
          intro c a' w' hd hp
          refine ⟨hd, ?_⟩
          rw [← HR'.out]
          exact ⟨by rw [hp.1], hp.2⟩
        have k3 : ∀ u : KeepC ⟨tb, 3, none⟩ (.slice a1 zs.length c1), u.val.cell? ⟨tb, 3, none⟩ = some (.slice a1 zs.length c1) := fun u => u.isC
        have hne : Nonempty (KeepC ⟨tb, 3, none⟩ (.slice a1 zs.length c1)) := ⟨⟨wr, Bt.cell 3 _ rfl⟩⟩
        replace hQ := hQ.below (show Below wr.heap.size wr wr.drew from (Below.refl _ _).drew)
        replace hG := hG.below (show Below wr.heap.size wr wr.drew from (Below.refl _ _).drew)
        replace B0 := B0.below (show Below wr.heap.size wr wr.drew from (Below.refl _ _).drew)
        replace Bt := Bt.below (show Below wr.heap.size wr wr.drew from (Below.refl _ _).drew)
        replace ho := ho.drew
        replace hb := hW
        clear hW
        have hsz' : w7.heap.size ≤ wr.drew.heap.size := hsz
        replace hsz := hsz'
        clear hsz'
        generalize wr.drew = wd at hQ hG B0 Bt ho hb hsz
        refine segX [(0, 2)] 8 (by kernel_rfl) (by kernel_rfl) (by kernel_rfl) (by kernel_rfl) (by kernel_rfl) ⟨⟨wd, Bt.cell 3 _ rfl⟩, rfl⟩ ?_
        simp only [pickR, List.toList_toArray, List.flatMap_cons, List.flatMap_nil, List.drop_succ_cons, List.drop_zero, List.take_succ_cons, List.take_zero, List.cons_append, List.nil_append, List.append_nil]
        repeat go_big_quiet_step (fail)
        refine wpQuiet_nil ?_
        clear k3 hne
        refine callX 2 (some 25) 44 #[.pointer (some ⟨qb, 0, none⟩)] 7 (by kernel_rfl) (by kernel_rfl) (by kernel_rfl) (by kernel_rfl) (by kernel_rfl) rfl ?_
        refine (take_cons _ k0 [] _ hQ (by have := hR40; simp only [List.length_cons, List.length_nil] at this ⊢; omega)).mono ?_
        rintro e w8 ⟨rfl, hQ', y8, rfl⟩
        refine Or.inl ⟨_, rfl, ?_⟩
        replace hQ := hQ'
        replace hG := hG.set (y := y8) hne0
        replace B0 := B0.setOther (o := 0) (y := y8) hbq
        replace Bt := Bt.setOther (o := 0) (y := y8) htq
        replace hb := hb.setCell (p := ⟨qb, 0, none⟩) hqb y8
        replace ho := ownsRow_setCell_below (a := ⟨qb, 0, none⟩) ho (by dsimp only; omega) y8
        have hsz' : w7.heap.size ≤ (wd.setCell ⟨qb, 0, none⟩ y8).heap.size := by simpa [World.setCell] using hsz
        replace hsz := hsz'
        clear hQ' hsz'
        generalize wd.setCell ⟨qb, 0, none⟩ y8 = w8 at hQ hG B0 Bt hb ho hsz
        refine ⟨⟨⟨w8, Bt.cell 3 _ rfl⟩, rfl⟩, ?_⟩
        simp only [Act.put, List.getElem_toArray, List.getElem_cons_succ, List.getElem_cons_zero, List.setIfInBounds_toArray, List.set_cons_zero, List.set_cons_succ]
        refine callX 3 (some 26) 44 #[.pointer (some ⟨qb, 0, none⟩)] 6 (by kernel_rfl) (by kernel_rfl) (by kernel_rfl) (by kernel_rfl) (by kernel_rfl) rfl ?_
        refine (take_nil _ t x _ hG hQ).mono ?_
        rintro e v4 ⟨rfl, rfl⟩
        exact Or.inr ⟨_, rfl, rfl, hb⟩
      ·
        have HR' : Hid (none = r) := by
          show _ = _
          rw [← HL.out, txnOf_none (by rw [HT.out]; rfl)]
        go_wp2_with fail
        clear q0
        have hQ := HQ.out
        have hW : Below w.heap.size w wr.drew := hb.drew
        refine beginX (S := fun w' => ∃ u : KeepC ⟨tb, 3, none⟩ (.slice a1 zs.length c1), w' = u.val) (R := fun c w' => c = [{ v := .iface t x, recovered := false }] ∧ Below w.heap.size w w') 9 (by kernel_rfl) ?hR ?_
        case hR =>
          intro c a' w' hd hp
          refine ⟨hd, ?_⟩
          rw [← HR'.out]
          exact ⟨by rw [hp.1], hp.2⟩
        have k3 : ∀ u : KeepC ⟨tb, 3, none⟩ (.slice a1 zs.length c1), u.val.cell? ⟨tb, 3, none⟩ = some (.slice a1 zs.length c1) := fun u => u.isC
        have hne : Nonempty (KeepC ⟨tb, 3, none⟩ (.slice a1 zs.length c1)) := ⟨⟨wr, Bt.cell 3 _ rfl⟩⟩
        replace hQ := hQ.below (show Below wr.heap.size wr wr.drew from (Below.refl _ _).drew)
        replace hG := hG.below (show Below wr.heap.size wr wr.drew from (Below.refl _ _).drew)
        replace B0 := B0.below (show Below wr.heap.size wr wr.drew from (Below.refl _ _).drew)
        replace Bt := Bt.below (show Below wr.heap.size wr wr.drew from (Below.refl _ _).drew)
        replace ho := ho.drew
        replace hb := hW
        clear hW
        have hsz' : w7.heap.size ≤ wr.drew.heap.size := hsz
        replace hsz := hsz'
        clear hsz'
        generalize wr.drew = wd at hQ hG B0 Bt ho hb hsz
        refine segX [(0, 2)] 8 (by kernel_rfl) (by kernel_rfl) (by kernel_rfl) (by kernel_rfl) (by kernel_rfl) ⟨⟨wd, Bt.cell 3 _ rfl⟩, rfl⟩ ?_
        simp only [pickR, List.toList_toArray, List.flatMap_cons, List.flatMap_nil, List.drop_succ_cons, List.drop_zero, List.take_succ_cons, List.take_zero, List.cons_append, List.nil_append, List.append_nil]
        repeat go_big_quiet_step (fail)
        refine wpQuiet_nil ?_
        clear k3 hne
        refine callX 2 (some 25) 44 #[.pointer (some ⟨qb, 0, none⟩)] 7 (by kernel_rfl) (by kernel_rfl) (by kernel_rfl) (by kernel_rfl) (by kernel_rfl) rfl ?_
        refine (take_cons _ k0 [k1] _ hQ (by have := hR40; simp only [List.length_cons, List.length_nil] at this ⊢; omega)).mono ?_
        rintro e w8 ⟨rfl, hQ', y8, rfl⟩
        refine Or.inl ⟨_, rfl, ?_⟩
        replace hQ := hQ'
        replace hG := hG.set (y := y8) hne0
        replace B0 := B0.setOther (o := 0) (y := y8) hbq
        replace Bt := Bt.setOther (o := 0) (y := y8) htq
        replace hb := hb.setCell (p := ⟨qb, 0, none⟩) hqb y8
        replace ho := ownsRow_setCell_below (a := ⟨qb, 0, none⟩) ho (by dsimp only; omega) y8
        have hsz' : w7.heap.size ≤ (wd.setCell ⟨qb, 0, none⟩ y8).heap.size := by simpa [World.setCell] using hsz
        replace hsz := hsz'
        clear hQ' hsz'
        generalize wd.setCell ⟨qb, 0, none⟩ y8 = w8 at hQ hG B0 Bt hb ho hsz
        refine ⟨⟨⟨w8, Bt.cell 3 _ rfl⟩, rfl⟩, ?_⟩
        simp only [Act.put, List.getElem_toArray, List.getElem_cons_succ, List.getElem_cons_zero, List.setIfInBounds_toArray, List.set_cons_zero, List.set_cons_succ]
        refine callX 3 (some 26) 44 #[.pointer (some ⟨qb, 0, none⟩)] 6 (by kernel_rfl) (by kernel_rfl) (by kernel_rfl) (by kernel_rfl) (by kernel_rfl) rfl ?_
        refine (take_cons _ k1 [] _ hQ (by have := hR40; simp only [List.length_cons, List.length_nil] at this ⊢; omega)).mono ?_
        rintro e w9 ⟨rfl, hQ', y9, rfl⟩
        refine Or.inl ⟨_, rfl, ?_⟩
        replace hQ := hQ'
        replace hG := hG.set (y := y9) hne0
        replace B0 := B0.setOther (o := 0) (y := y9) hbq
        replace Bt := Bt.setOther (o := 0) (y := y9) htq
        replace hb := hb.setCell (p := ⟨qb, 0, none⟩) hqb y9
        replace ho := ownsRow_setCell_below (a := ⟨qb, 0, none⟩) ho (by dsimp only; omega) y9
        have hsz' : w7.heap.size ≤ (w8.setCell ⟨qb, 0, none⟩ y9).heap.size := by simpa [World.setCell] using hsz
        replace hsz := hsz'
        clear hQ' hsz'
        generalize w8.setCell ⟨qb, 0, none⟩ y9 = w9 at hQ hG B0 Bt hb ho hsz
        refine ⟨⟨⟨w9, Bt.cell 3 _ rfl⟩, rfl⟩, ?_⟩
        simp only [Act.put, List.getElem_toArray, List.getElem_cons_succ, List.getElem_cons_zero, List.setIfInBounds_toArray, List.set_cons_zero, List.set_cons_succ]
        refine callX 4 (some 27) 44 #[.pointer (some ⟨qb, 0, none⟩)] 5 (by kernel_rfl) (by kernel_rfl) (by kernel_rfl) (by kernel_rfl) (by kernel_rfl) rfl ?_
        refine (take_nil _ t x _ hG hQ).mono ?_
        rintro e v4 ⟨rfl, rfl⟩
        exact Or.inr ⟨_, rfl, rfl, hb⟩
      ·
        go_wp2_with fail
        clear q0
        have hQ := HQ.out
        have hW : Below w.heap.size w wr.drew := hb.drew
        refine beginX (S := fun w' => ∃ u : KeepC ⟨tb, 3, none⟩ (.slice a1 zs.length c1), w' = u.val) (R := fun _ _ => False) 9 (by kernel_rfl) ?hR ?_
        case hR => exact fun _ _ _ _ h => h.elim
        have k3 : ∀ u : KeepC ⟨tb, 3, none⟩ (.slice a1 zs.length c1), u.val.cell? ⟨tb, 3, none⟩ = some (.slice a1 zs.length c1) := fun u => u.isC
        have hne : Nonempty (KeepC ⟨tb, 3, none⟩ (.slice a1 zs.length c1)) := ⟨⟨wr, Bt.cell 3 _ rfl⟩⟩
        replace hQ := hQ.below (show Below wr.heap.size wr wr.drew from (Below.refl _ _).drew)
        replace hG := hG.below (show Below wr.heap.size wr wr.drew from (Below.refl _ _).drew)
        replace B0 := B0.below (show Below wr.heap.size wr wr.drew from (Below.refl _ _).drew)
        replace Bt := Bt.below (show Below wr.heap.size wr wr.drew from (Below.refl _ _).drew)
        replace ho := ho.drew
        replace hb := hW
        clear hW
        have hsz' : w7.heap.size ≤ wr.drew.heap.size := hsz
        replace hsz := hsz'
        clear hsz'
        generalize wr.drew = wd at hQ hG B0 Bt ho hb hsz
        refine segX [(0, 2)] 8 (by kernel_rfl) (by kernel_rfl) (by kernel_rfl) (by kernel_rfl) (by kernel_rfl) ⟨⟨wd, Bt.cell 3 _ rfl⟩, rfl⟩ ?_
        simp only [pickR, List.toList_toArray, List.flatMap_cons, List.flatMap_nil, List.drop_succ_cons, List.drop_zero, List.take_succ_cons, List.take_zero, List.cons_append, List.nil_append, List.append_nil]
        repeat go_big_quiet_step (fail)
        refine wpQuiet_nil ?_
        clear k3 hne
        refine callX 2 (some 25) 44 #[.pointer (some ⟨qb, 0, none⟩)] 7 (by kernel_rfl) (by kernel_rfl) (by kernel_rfl) (by kernel_rfl) (by kernel_rfl) rfl ?_
        refine (take_cons _ k0 (k1 :: k2 :: R) _ hQ (by have := hR40; simp only [List.length_cons, List.length_nil] at this ⊢; omega)).mono ?_
        rintro e w8 ⟨rfl, hQ', y8, rfl⟩
        refine Or.inl ⟨_, rfl, ?_⟩
        replace hQ := hQ'
        replace hG := hG.set (y := y8) hne0
        replace B0 := B0.setOther (o := 0) (y := y8) hbq
        replace Bt := Bt.setOther (o := 0) (y := y8) htq
        replace hb := hb.setCell (p := ⟨qb, 0, none⟩) hqb y8
        replace ho := ownsRow_setCell_below (a := ⟨qb, 0, none⟩) ho (by dsimp only; omega) y8
        have hsz' : w7.heap.size ≤ (wd.setCell ⟨qb, 0, none⟩ y8).heap.size := by simpa [World.setCell] using hsz
        replace hsz := hsz'
        clear hQ' hsz'
        generalize wd.setCell ⟨qb, 0, none⟩ y8 = w8 at hQ hG B0 Bt hb ho hsz
        refine ⟨⟨⟨w8, Bt.cell 3 _ rfl⟩, rfl⟩, ?_⟩
        simp only [Act.put, List.getElem_toArray, List.getElem_cons_succ, List.getElem_cons_zero, List.setIfInBounds_toArray, List.set_cons_zero, List.set_cons_succ]
        refine callX 3 (some 26) 44 #[.pointer (some ⟨qb, 0, none⟩)] 6 (by kernel_rfl) (by kernel_rfl) (by kernel_rfl) (by kernel_rfl) (by kernel_rfl) rfl ?_
        refine (take_cons _ k1 (k2 :: R) _ hQ (by have := hR40; simp only [List.length_cons, List.length_nil] at this ⊢; omega)).mono ?_
        rintro e w9 ⟨rfl, hQ', y9, rfl⟩
        refine Or.inl ⟨_, rfl, ?_⟩
        replace hQ := hQ'
        replace hG := hG.set (y := y9) hne0
        replace B0 := B0.setOther (o := 0) (y := y9) hbq
        replace Bt := Bt.setOther (o := 0) (y := y9) htq
        replace hb := hb.setCell (p := ⟨qb, 0, none⟩) hqb y9
        replace ho := ownsRow_setCell_below (a := ⟨qb, 0, none⟩) ho (by dsimp only; omega) y9
        have hsz' : w7.heap.size ≤ (w8.setCell ⟨qb, 0, none⟩ y9).heap.size := by simpa [World.setCell] using hsz
        replace hsz := hsz'
        clear hQ' hsz'
        generalize w8.setCell ⟨qb, 0, none⟩ y9 = w9 at hQ hG B0 Bt hb ho hsz
        refine ⟨⟨⟨w9, Bt.cell 3 _ rfl⟩, rfl⟩, ?_⟩
        simp only [Act.put, List.getElem_toArray, List.getElem_cons_succ, List.getElem_cons_zero, List.setIfInBounds_toArray, List.set_cons_zero, List.set_cons_succ]
        refine callX 4 (some 27) 44 #[.pointer (some ⟨qb, 0, none⟩)] 5 (by kernel_rfl) (by kernel_rfl) (by kernel_rfl) (by kernel_rfl) (by kernel_rfl) rfl ?_
        refine (take_cons _ k2 R _ hQ (by have := hR40; simp only [List.length_cons, List.length_nil] at this ⊢; omega)).mono ?_
        rintro e wa ⟨rfl, hQ', ya, rfl⟩
        refine Or.inl ⟨_, rfl, ?_⟩
        replace hQ := hQ'
        replace hG := hG.set (y := ya) hne0
        replace B0 := B0.setOther (o := 0) (y := ya) hbq
        replace Bt := Bt.setOther (o := 0) (y := ya) htq
        replace hb := hb.setCell (p := ⟨qb, 0, none⟩) hqb ya
        replace ho := ownsRow_setCell_below (a := ⟨qb, 0, none⟩) ho (by dsimp only; omega) ya
        have hsz' : w7.heap.size ≤ (w9.setCell ⟨qb, 0, none⟩ ya).heap.size := by simpa [World.setCell] using hsz
        replace hsz := hsz'
        clear hQ' hsz'
        generalize w9.setCell ⟨qb, 0, none⟩ ya = wa at hQ hG B0 Bt hb ho hsz
        refine ⟨⟨⟨wa, Bt.cell 3 _ rfl⟩, rfl⟩, ?_⟩
        simp only [Act.put, List.getElem_toArray, List.getElem_cons_succ, List.getElem_cons_zero, List.setIfInBounds_toArray, List.set_cons_zero, List.set_cons_succ]
        refine oneX 5 _ 4 (by kernel_rfl) rfl (by kernel_rfl) ?_
        go_wp2
        refine ThenX.to ⟨Or.inr ⟨⟨wa, Bt.cell 3 _ rfl⟩, rfl⟩, ?_⟩
        refine oneX 6 _ 3 (by kernel_rfl) rfl (by kernel_rfl) ?_
        have hbA : Below wa.heap.size wa (wa.alloc (.cells #[.int .i64 k0, .int .i64 k1, .int .i64 k2] 54)) := by go_grown
        go_wp2
        refine ThenX.to ⟨Or.inr ⟨⟨_, (Bt.below hbA).cell 3 _ rfl⟩, rfl⟩, ?_⟩
        have hsA : w7.heap.size ≤ (wa.alloc (.cells #[.int .i64 k0, .int .i64 k1, .int .i64 k2] 54)).heap.size := by simp; omega
        replace hQ := hQ.below hbA
        replace hG := hG.below hbA
        replace B0 := B0.below hbA
        replace Bt := Bt.below hbA
        replace hb := below_from hb hbA
        have hsrc : ∀ j u, [Value.int .i64 k0, .int .i64 k1, .int .i64 k2][j]? = some u → (wa.alloc (.cells #[.int .i64 k0, .int .i64 k1, .int .i64 k2] 54)).cell? ((⟨wa.heap.size, 0, none⟩ : Addr).add j) = some u := by
          intro j u hj
          match j, hj with
          | 0, hj => simp at hj; subst hj; simp [Addr.add]
          | 1, hj => simp at hj; subst hj; simp [Addr.add]
          | 2, hj => simp at hj; subst hj; simp [Addr.add]
        replace ho := own_below ho hbA
        generalize wa.alloc (.cells #[.int .i64 k0, .int .i64 k1, .int .i64 k2] 54) = wb at hbA hQ hG B0 Bt hb ho hsA hsrc
        obtain ⟨i0, hi, hz0, hz1, hz2⟩ := info_parts infoActs0
        refine oneX 7 _ 2 (by kernel_rfl) rfl (by kernel_rfl) ?_
        refine wpList_append_own _ rfl _ _ 25 rfl w7.heap.size 54 i0 (.agg #[.int .i64 0, .int .i64 0, .int .i64 0]) 3 24 Tryd.underlying25 hi hz0 hz1 hz2 rfl (by decide) _ zs.length (actCells zs) rfl ho ⟨wa.heap.size, 0, none⟩ 1 1 [.int .i64 k0, .int .i64 k1, .int .i64 k2] rfl rfl hsrc ?c2 ?c3 ?c4 ?c5 ?_
        case c2 => intro u hu; simp at hu; rcases hu with rfl | rfl | rfl <;> rfl
        case c3 => unfold maxLen; omega
        case c4 => omega
        case c5 => exact hsA
        intro v' wc hown hgrow _
        obtain ⟨a2, c2, rfl⟩ := own_shape hown
        have hgo : ∀ j, (Value.slice a1 zs.length c1).ownBlock = some j → w7.heap.size ≤ j := fun j hj => (ho.lt j hj).1
        have hBc : Below w7.heap.size wb wc := (Below.refl _ _).grown hgrow hsA hgo
        have hsc : w7.heap.size ≤ wc.heap.size := Nat.le_trans hsA hBc.size
        replace hQ := hQ.keep (hBc.mono (by omega))
        have hG' : ErrVar wc t x := (hBc.cell (p := ⟨0, 0, none⟩) (show 0 < w7.heap.size by omega)).trans hG
        have B0' : Blk wc w.heap.size 27 #[.int .i64 0, .int .i64 0, .int .i64 0, .slice none 0 0] := (hBc.block _ (by omega)).trans B0
        have Bt' : Blk wc tb 27 #[.int .i64 z0, .int .i64 z1, .int .i64 z2, .slice a1 zs.length c1] := (hBc.block _ (by omega)).trans Bt
        have hb' : Below w.heap.size w wc := hb.trans (hBc.mono (by omega))
        clear hgrow hgo hBc ho hG B0 Bt hb
        go_wp2
        refine ThenX.to ⟨Or.inr ⟨⟨_, Bt'.cell 3 _ rfl⟩, rfl⟩, ?_⟩
        simp only [Act.put, List.getElem_toArray, List.getElem_cons_succ, List.getElem_cons_zero, List.setIfInBounds_toArray, List.set_cons_zero, List.set_cons_succ]
        refine oneX 8 _ 1 (by kernel_rfl) rfl (by kernel_rfl) ?_
        go_wp2
        refine ThenX.to ⟨Or.inr ⟨⟨_, Bt'.cell 3 _ rfl⟩, rfl⟩, ?_⟩
        refine oneX 9 _ 0 (by kernel_rfl) rfl (by kernel_rfl) ?_
        have t3 := Bt'.cell 3 _ rfl
        have t4 := Bt'.frozen 3
        go_wp2
        clear t3 t4
        refine ThenX.to ⟨Or.inl (by kernel_rfl), ?_⟩
        refine endX (by kernel_rfl) ?_
        have hQ9 := hQ.keep (w' := wc.setCell ⟨tb, 3, none⟩ (.slice a2 (zs.length + 1) c2)) ((Below.refl _ _).setCell (p := ⟨tb, 3, none⟩) (show qb + 1 ≤ tb by omega) _)
        have hG9 : ErrVar (wc.setCell ⟨tb, 3, none⟩ (.slice a2 (zs.length + 1) c2)) t x := by
          unfold ErrVar at hG' ⊢
          rw [World.cell?_of_block (w := wc) (Below.heap_setCell wc ⟨tb, 3, none⟩ _ 0 (by dsimp only; omega))]; exact hG'
        have B09 := B0'.setOther (o := 3) (y := .slice a2 (zs.length + 1) c2) hrt
        have Bt9 : Blk (wc.setCell ⟨tb, 3, none⟩ (.slice a2 (zs.length + 1) c2)) tb 27 #[.int .i64 z0, .int .i64 z1, .int .i64 z2, .slice a2 (zs.length + 1) c2] := by
          have := Go.Joins.block_setCell (i := 3) (v := .slice a2 (zs.length + 1) c2) Bt'
          unfold Blk
          simpa using this
        have ho9 := ownsRow_setCell_below (a := ⟨tb, 3, none⟩) hown (by dsimp only; omega) (.slice a2 (zs.length + 1) c2)
        have hb9 := hb'.setCell (p := ⟨tb, 3, none⟩) htb (.slice a2 (zs.length + 1) c2)
        have hs9 : w7.heap.size ≤ (wc.setCell ⟨tb, 3, none⟩ (.slice a2 (zs.length + 1) c2)).heap.size := by simpa [World.setCell] using hsc
        have HT9 : Hid (trip L = (trip R).map ((zs ++ [⟨k0, k1, k2⟩]) ++ ·)) := by
          show _ = _
          rw [HT.out]
          simp only [trip, Option.map_map]
          congr 1
          funext l
          simp
        have HO : Hid (_ ∧ _) := ⟨ho9, hb9⟩
        clear ho9 hb9 hown hb'
        go_wp2
        go_roundg R.length
        case measure => simp only [List.length_cons]; omega
        case rel =>
          refine ⟨R, zs ++ [⟨k0, k1, k2⟩], a2, c2, rfl, ?_, ?_, hQ9, hG9, B09, ?_, ?_, HO.out.2, hs9, ?_, HT9⟩
          · simp only [List.length_cons] at hR40; omega
          · simp only [List.length_cons, List.length_append, List.length_nil] at hsum ⊢; omega
          · simpa using Bt9
          · simpa [actCells, ActD.cells] using HO.out.1
          · simp only [List.length_cons, List.length_append, List.length_nil] at hsum ⊢; omega

end Go.Proofs.YtjaoggkpnjkkpaaDoor
