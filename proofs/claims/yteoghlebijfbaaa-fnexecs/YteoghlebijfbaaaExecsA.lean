/- Plain facts of FnExecs: what is done in two parts is what is done at once; and the law's own pick of a place. -/
import Derived.Test.YteoghlebijfbaaaS3h
import Derived.Test.YteoghlebijfbaaaDraw
import Derived.Test.YteoghlebijfbaaaDraw2d
import Derived.Test.YteoghlebijfbaaaQuiet1
namespace Go.Proofs.Yteoghlebijfbaaa
open Go.RowKit Go.Maps
set_option linter.unusedVariables false
set_option linter.unusedSimpArgs false

theorem all_app : ∀ (l r : List TxnD) (xs : List ItemD), allI xs (l ++ r) = allI (allI xs l) r ∧ allCd xs (l ++ r) = allCd xs l ++ allCd (allI xs l) r ∧ allVl xs (l ++ r) = allVl xs l ++ allVl (allI xs l) r
  | [], r, xs => ⟨rfl, rfl, rfl⟩
  | t :: l, r, xs => by
    obtain ⟨h1, h2, h3⟩ := all_app l r (nextI xs t)
    refine ⟨by simpa [allI] using h1, ?_, ?_⟩
    · simp only [List.cons_append, allCd, allI, h2]
    · simp only [List.cons_append, allVl, allI, h3]

theorem allF_of : ∀ {ds : List TxnD}, (∀ t ∈ ds, t.F = 0) → allF ds = 0
  | [], _ => rfl
  | x :: r, h => by
    simp only [allF]
    rw [if_pos (h x (by simp))]
    exact allF_of (fun t ht => h t (by simp [ht]))

theorem idsC_part {ds l : List TxnD} (h : idsC ds = 0) (hl : l.length ≤ ds.length) (hm : ∀ t ∈ l, t ∈ ds) : idsC l = 0 := by
  obtain ⟨h60, hz⟩ := ids_zero h
  unfold idsC
  rw [if_neg (by omega)]
  exact allF_of (fun t ht => hz t (hm t ht))

theorem ea_parts {xs : List ItemD} {ds : List TxnD} (h : eaC xs ds = 0) : itemsF xs = 0 ∧ idsC ds = 0 := by
  unfold eaC at h
  by_cases hx : itemsF xs = 0
  · rw [if_neg (by simpa using hx)] at h; exact ⟨hx, h⟩
  · rw [if_pos hx] at h; exact absurd h hx

theorem ea_cut {xs : List ItemD} {ds : List TxnD} (h : eaC xs ds = 0) (k : Nat) :
    eaC xs (ds.take k) = 0 ∧ eaC (eaI xs (ds.take k)) (ds.drop k) = 0 ∧ eaI (eaI xs (ds.take k)) (ds.drop k) = eaI xs ds ∧
    eaCd xs (ds.take k) ++ eaCd (eaI xs (ds.take k)) (ds.drop k) = eaCd xs ds ∧ eaVl xs (ds.take k) ++ eaVl (eaI xs (ds.take k)) (ds.drop k) = eaVl xs ds ∧ itemsF (eaI xs ds) = 0 := by
  obtain ⟨hx, hd⟩ := ea_parts h
  have ht : idsC (ds.take k) = 0 := idsC_part hd (by simp; omega) (fun t ht => List.mem_of_mem_take ht)
  have hr : idsC (ds.drop k) = 0 := idsC_part hd (by simp) (fun t ht => List.mem_of_mem_drop ht)
  obtain ⟨a1, a2, a3, a4⟩ := ea_ok hx ht
  obtain ⟨b1, b2, b3, b4⟩ := ea_ok hx hd
  obtain ⟨h8, g⟩ := good_of_F hx
  obtain ⟨g1, g2⟩ := allI_good h8 g (ids_zero ht).2
  have hy : itemsF (allI xs (ds.take k)) = 0 := F_of_good g1 g2
  obtain ⟨c1, c2, c3, c4⟩ := ea_ok hy hr
  obtain ⟨s1, s2, s3⟩ := all_app (ds.take k) (ds.drop k) xs
  rw [List.take_append_drop] at s1 s2 s3
  obtain ⟨f1, f2⟩ := allI_good h8 g (ids_zero hd).2
  rw [a4, a2, a3, b2, b3, b4]
  refine ⟨a1, c1, by rw [c4, s1], by rw [c2, s2], by rw [c3, s3], F_of_good f1 f2⟩

theorem ex_good {xs : List ItemD} {i s q : Int} {zs : List ActD} (h : exC xs i s q zs = 0) : itemsF (exR xs i s q zs) = 0 := by
  have e : exR xs i s q zs = (runA xs zs).2 := by simp [exR, h]
  unfold exC at h
  by_cases hx : itemsF xs = 0
  · rw [if_neg (by simpa using hx)] at h
    by_cases ht : txnF i s q zs = 0
    · rw [if_neg (by simpa using ht)] at h
      obtain ⟨h8, g⟩ := good_of_F hx
      obtain ⟨r1, r2⟩ := run_good h8 g (acts_of_F ht).2 h
      rw [e]
      exact F_of_good r1 r2
    · rw [if_pos ht] at h; exact absurd h ht
  · rw [if_pos hx] at h; exact absurd h hx

set_option maxHeartbeats 1000000 in
theorem lwAt_any (a : Option Addr) (cap : Nat) (zs : List Int) (i : Nat) (n : Int) (w : World) (h : Row .u8 w a zs) (hu : ∀ i, 0 ≤ zs.getD i 0 ∧ zs.getD i 0 ≤ 255) (hm : zs.length ≤ 1048576) (hi : i ≤ 1000) (hn1 : 1 ≤ n) (hn : n ≤ 200) :
    Calls Try.prog 23 #[.slice a zs.length cap, .int .i64 i, .int .i64 n] w fun e w' => ∃ r : Int, e = .returned (.int .i64 r) ∧ 0 ≤ r ∧ r < n ∧ Below w.heap.size w w' := by
  by_cases h1 : n ≤ 1
  · go_enter Try.func23, Try.ntmps23
    go_wp2
    go_ret
    exact ⟨0, rfl, by omega, by omega, Below.refl _ _⟩
  · by_cases hz : zs.length = 0
    · have hz' : ((zs.length : Int) == 0) = true := by simp [hz]
      have hr := InR.mod ((i : Int) * 7) n (by omega)
      clear h hz hm
      go_enter Try.func23, Try.ntmps23
      go_wp2
      go_ret
      exact ⟨_, rfl, hr.1, hr.2.1 (by omega), Below.refl _ _⟩
    · have hz' : ((zs.length : Int) == 0) = false := by rw [beq_eq_false_iff_ne]; omega
      have hpos : 0 < zs.length := by omega
      have hm1 : i % zs.length < zs.length := Nat.mod_lt _ hpos
      obtain ⟨b', off, rfl, e2, c1⟩ := h _ hm1
      have u1 := hu (i % zs.length)
      have hq : (i : Int) / (zs.length : Int) ≤ 1000 := Int.le_trans (Int.ediv_le_self _ (by omega)) (by omega)
      have hq0 : 0 ≤ (i : Int) / (zs.length : Int) := Int.ediv_nonneg (by omega) (by omega)
      generalize zs.getD (i % zs.length) 0 = x at c1 u1
      have m0 : 0 ≤ (i : Int) % (zs.length : Int) := Int.emod_nonneg _ (by omega)
      have m1 : (i : Int) % (zs.length : Int) < (zs.length : Int) := Int.emod_lt_of_pos _ (by omega)
      clear hu h hz
      go_enter Try.func23, Try.ntmps23
      go_wp2
      go_quiet (fail)
      go_wp2
      go_ret
      refine ⟨_, rfl, (InR.mod _ n (by omega)).1, (InR.mod _ n (by omega)).2.1 (by omega), below_drewN (Below.refl _ _) _⟩

theorem txnCells_cut (ps : List TxnP) (k : Nat) : txnCells ps = txnCells (ps.take k) ++ txnCells (ps.drop k) := by
  unfold txnCells
  rw [← List.flatMap_append, List.take_append_drop]

theorem Lies.left {w : World} {a : Option Addr} {xs ys : List Value} (h : Lies w a (xs ++ ys)) : Lies w a xs := by
  rcases h with h | ⟨b, off, e, hb, hc⟩
  · exact Or.inl (List.append_eq_nil_iff.1 h).1
  · refine Or.inr ⟨b, off, e, hb, fun i x hx => hc i x ?_⟩
    have hi : i < xs.length := (List.getElem?_eq_some_iff.1 hx).1
    rw [List.getElem?_append_left hi]; exact hx

theorem Lies.right {w : World} {g off : Nat} {xs ys : List Value} (h : Lies w (some ⟨g, off, none⟩) (xs ++ ys)) : Lies w (some ⟨g, off + xs.length, none⟩) ys := by
  rcases h with h | ⟨b, off', e, hb, hc⟩
  · exact Or.inl (List.append_eq_nil_iff.1 h).2
  · simp only [Option.some.injEq, Addr.mk.injEq, and_true] at e
    obtain ⟨rfl, rfl⟩ := e
    refine Or.inr ⟨_, _, rfl, hb, fun i x hx => ?_⟩
    have := hc (xs.length + i) x (by rw [List.getElem?_append_right (by omega)]; simpa using hx)
    rw [Nat.add_assoc]; exact this

theorem TxnsAt.take {w : World} {a : Option Addr} {n cap : Nat} {ds : List TxnD} (h : TxnsAt w (.slice a n cap) ds) (k : Nat) (hk : k ≤ ds.length) : TxnsAt w (.slice a k cap) (ds.take k) := by
  obtain ⟨a', cap', ps, e, hd, hL, hA⟩ := h
  simp only [Value.slice.injEq] at e
  obtain ⟨rfl, rfl, rfl⟩ := e
  refine ⟨a, cap, ps.take k, by rw [List.length_take, Nat.min_eq_left hk], by rw [List.map_take, hd], ?_, fun p hp => hA p (List.mem_of_mem_take hp)⟩
  rw [txnCells_cut ps k] at hL
  exact hL.left

/-- Where the rest of a slice lies. -/
def restAt (g k vc : Nat) : Option Addr := if vc = k then some ⟨g, 0, none⟩ else some ⟨g, k * 4, none⟩

theorem TxnsAt.drop {w : World} {g n cap : Nat} {ds : List TxnD} (h : TxnsAt w (.slice (some ⟨g, 0, none⟩) n cap) ds) (k : Nat) (hk : k ≤ ds.length) (hc : n ≤ cap) (c : Nat) : TxnsAt w (.slice (restAt g k cap) (n - k) c) (ds.drop k) := by
  obtain ⟨a', cap', ps, e, hd, hL, hA⟩ := h
  simp only [Value.slice.injEq] at e
  obtain ⟨rfl, rfl, rfl⟩ := e
  have hpl : ps.length = ds.length := by rw [← hd]; simp
  refine ⟨restAt g k cap, c, ps.drop k, by simp, by rw [List.map_drop, hd], ?_, fun p hp => hA p (List.mem_of_mem_drop hp)⟩
  unfold restAt
  split
  · left
    have : ps.drop k = [] := List.drop_eq_nil_of_le (by omega)
    rw [this]; rfl
  · rw [txnCells_cut ps k] at hL
    have := hL.right
    rw [txnCells_length, List.length_take, Nat.min_eq_left (by omega), Nat.zero_add] at this
    exact this

theorem sl_lo (g k n vc : Nat) (hk : k ≤ n) (w : World) : (Instr.sliceAt 33 (.slice (some ⟨g, 0, none⟩) n vc) (some (.int .i64 (k : Int))) none none).run Try.prog w = .ok (.slice (restAt g k vc) (n - k) (vc - k)) w := by
  obtain ⟨i0, hi, hz0, hz1, hz2⟩ := info_parts infoTxn
  have hel : Try.prog.elem 33 = 27 := by kernel_rfl
  have hun : Try.prog.underlying 33 = some (.slice (Try.prog.elem 33)) := by kernel_rfl
  have hsz : (sizeOf (Try.prog.elem 33)).run Try.prog w = .ok 4 w := by rw [hel]; kernel_rfl
  rw [run_sliceAt_slice (h := hun), run_slice_l (ht := hun) (kl := .i64) (l := (k : Int)) (h0 := by omega) (h1 := by omega), hsz]
  simp only [Result.andThen, sliced, restAt, Int.toNat_natCast]
  split
  · simp
  · simp only [Option.map_some, Addr.add_lit, Nat.zero_add]

theorem TxnRow.some {base n vc : Nat} {w : World} {va : Option Addr} {ps : List TxnP} (h : TxnRow base w (.slice va n vc) ps) : ∃ g, va = Option.some ⟨g, 0, none⟩ ∧ ps.length ≤ vc := by
  rcases h.1.2 with ⟨he, hn⟩ | ⟨g, cap, cur, he, _, _, hc, _⟩
  · exact absurd he h.2.2
  · simp only [Value.slice.injEq] at he
    exact ⟨g, he.1, by omega⟩

theorem OwnS.setOut {e size lo hi n g j : Nat} {w : World} {v u : Value} {xs : List Value} (o : OwnS e size lo hi w v n xs) (hg : g < lo ∨ hi ≤ g) : OwnS e size lo hi (w.setCell ⟨g, j, none⟩ u) v n xs :=
  ⟨own_set_other o.1 (fun k hk => by have := (o.1.lt k hk).1; have := o.2 k hk; omega), o.2⟩
theorem OwnA.set {lo hi g j : Nat} {w : World} {s1 s2 s3 u : Value} {cs vs : List Int} {ys : List ItemD} (h : OwnA lo hi w s1 s2 s3 cs vs ys) (hg : g < lo ∨ hi ≤ g) : OwnA lo hi (w.setCell ⟨g, j, none⟩ u) s1 s2 s3 cs vs ys :=
  ⟨h.o1.setOut hg, h.o2.setOut hg, h.o3.setOut hg, h.ap⟩

section
variable {P : Program} {ops : Array Oper} {Q : Exit → Act → World → Prop} {S : World → Prop}

/-- An operation that alone may come up, its guard holds: walked as a list of one without it. -/
theorem one_g (i : Nat) (o : Oper) (fuel : Nat) {F : Nat} {l : Array Bool} {a : Act} {w : World} (hF : F = fuel + 1) (ho : ops[i]? = some o) (hr : Region.ready .any ops l = [i]) (hw : Region.wanted o (yielded ops a.tmps) = true)
    (h : wpList P ops (ThenGo Q (fun a' w' => S w' ∧ wpAnyH P .any ops (NoPanic Q) S fuel (upTo [i] l) a' w')) [{ o with guard := none }] a w) : wpAnyH P .any ops (NoPanic Q) S F l a w := by
  refine one_at i o fuel hF ho hr ?_
  simp only [wpList] at h ⊢
  rw [if_pos hw]
  rw [if_pos (by rfl)] at h
  exact h
end

section
variable {ops : Array Oper} {rest : List Oper} {o : Oper} {a : Act} {Q : Exit → Act → World → Prop}

theorem row_src {w : World} {ad : Addr} {zs : List Int} (h : Row .i64 w (some ad) zs) : ∀ j u, (zs.map (Value.int .i64))[j]? = some u → w.cell? (ad.add j) = some u := by
  intro j u hj
  simp only [List.getElem?_map, Option.map_eq_some_iff] at hj
  obtain ⟨x, hx, rfl⟩ := hj
  have hlt : j < zs.length := (List.getElem?_eq_some_iff.1 hx).1
  obtain ⟨b, off, e, _, hc⟩ := h j hlt
  simp only [Option.some.injEq] at e
  subst e
  have hg : zs.getD j 0 = x := by simp [List.getD, hx]
  rw [hg] at hc
  rw [Addr.add_lit]
  exact hc

/-- All of a list of numbers behind another one. -/
theorem wpList_append_ints (w : World) (hgd : o.guard = none) (s x : Operand) (ho : o.op = .call { callee := .builtin .append, args := #[s, x], argTypes := #[36, 36] }) (base : Nat)
    (v : Value) (ys : List Int) (hs : a.eval s = v) (hown : w.ownsRow base 2 1 v ys.length (ys.map (Value.int .i64))) (sa : Option Addr) (zs : List Int) (sc : Nat) (hx : a.eval x = .slice sa zs.length sc) (hr : Row .i64 w sa zs) (hN : Nice sa zs.length sc)
    (hl : zs.length ≤ 1048576) (hl2 : ys.length ≤ 1048576) (hbase : base ≤ w.heap.size)
    (h : ∀ a' c' w', w'.ownsRow base 2 1 (.slice a' (ys ++ zs).length c') (ys ++ zs).length ((ys ++ zs).map (Value.int .i64)) → Below base w w' → wpList Try.prog ops Q rest (a.put o.dst (.slice a' (ys ++ zs).length c')) w') : wpList Try.prog ops Q (o :: rest) a w := by
  obtain ⟨i0, hi, hz0, hz1, hz2⟩ := info_parts infoI64
  rcases hN with ⟨ad, rfl⟩ | ⟨rfl, hn, rfl⟩
  · refine wpList_append_own w hgd s x 36 ho base 2 i0 (.int .i64 0) 1 8 Try.underlying36 hi hz0 hz1 hz2 rfl (by decide) _ ys.length (ys.map (Value.int .i64)) hs hown ad zs.length sc (zs.map (Value.int .i64)) hx (by simp) (row_src hr) (by intro u hu; simp at hu; obtain ⟨n, _, rfl⟩ := hu; rfl) (by unfold maxLen; omega) (by omega) hbase ?_
    intro v' w' hown' hgrow _
    have hown2 : w'.ownsRow base 2 1 v' (ys ++ zs).length ((ys ++ zs).map (Value.int .i64)) := by simpa using hown'
    obtain ⟨a', c', rfl⟩ := own_shape hown2
    exact h a' c' w' hown2 ((Below.refl _ _).grown hgrow hbase (fun k hk => (hown.lt k hk).1))
  · have hz : zs = [] := List.eq_nil_of_length_eq_zero hn
    subst hz
    obtain ⟨a', c', rfl⟩ := own_shape hown
    refine wpList_append_own_none hgd s x 36 ho base 2 i0 1 Try.underlying36 hi _ ys.length (ys.map (Value.int .i64)) hs hown hx ?_
    have := h a' c' w (by simpa using hown) (Below.refl _ _)
    simpa using this
end

end Go.Proofs.Yteoghlebijfbaaa
