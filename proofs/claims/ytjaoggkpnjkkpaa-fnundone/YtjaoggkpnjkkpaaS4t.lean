/- TakeBack of the program, by the plain store. No condition. -/
import Derived.Test.YtjaoggkpnjkkpaaS4u
import Derived.Test.YtjaoggkpnjkkpaaS3k
namespace Go.Proofs.Ytjaoggkpnjkkpaa
open Go.RowKit Go.Maps Go.Sort Go.Shelf
set_option linter.unusedVariables false
set_option linter.unusedSimpArgs false

theorem blk_under {w w' : World} {lo hi b : Nat} {t : TypeId} {cs : Array Value} (h : Blk w b t cs) (ho : Only lo hi w w') (hb : b < lo) : Blk w' b t cs := (ho.block b h.lt (Or.inl hb)).trans h

set_option maxRecDepth 100000 in
set_option maxHeartbeats 2000000 in
theorem implTakeBack_any (a : Option Addr) (cap : Nat) (xs : List ItemD) (ua : Option Addr) (uc : Nat) (us : List UndoD) (w : World) (h : ItemRow w a xs) (hu : UndoRow w ua us) (hl : xs.length ≤ 1048576) (hl2 : us.length ≤ 1048576) :
    Calls Try.prog 12 #[.slice a xs.length cap, .slice ua us.length uc] w fun e w' => ∃ b c, e = .returned (.agg #[.int .i64 (tbC xs us), .int .i64 0, .slice b (tbI xs us).length c]) ∧
      w'.ownsRow w.heap.size 94 2 (.slice b (tbI xs us).length c) (tbI xs us).length (itemCells (tbI xs us)) ∧ Below w.heap.size w w' := by
  have hF := fun w h => implItemsFault_any a cap xs w h hl
  have hU := fun w h => implUndoFault_any ua uc us w h hl2
  have hb0 : Below w.heap.size w (w.alloc (.cells #[.int .i64 0, .int .i64 0, .slice none 0 0] 37)) := by go_grown
  have B0 := Blk.new w 37 #[.int .i64 0, .int .i64 0, .slice none 0 0]
  rcases tb_ways xs us with ⟨h0, e1, e2⟩ | ⟨h0, h1, e1, e2⟩ | ⟨h0, h1, h2, e1, e2⟩ | ⟨h0, h1, h2, e1, e2⟩ <;> rw [e1, e2] <;> clear e1 e2
  case inl =>
    have hne : (itemsF xs != 0) = true := by simpa using h0
    clear h0
    generalize itemsF xs = r at hF hne
    go_enter Try.func12, Try.ntmps12
    go_wp2_with fail
    generalize w.alloc (.cells #[.int .i64 0, .int .i64 0, .slice none 0 0] 37) = W0 at hb0 B0
    refine (hF _ (h.below hb0)).mono ?_
    rintro e w1 ⟨rfl, hb⟩
    replace B0 := B0.below hb
    replace hb0 := hb0.trans (hb.mono hb0.size)
    clear hb
    have p0 := B0.cell 0 _ rfl
    have p1 := B0.cell 1 _ rfl
    have p2 := B0.cell 2 _ rfl
    have f0 := B0.frozen 0
    have f1 := B0.frozen 1
    have f2 := B0.frozen 2
    have hlt := B0.lt
    clear B0
    go_wp2
    refine bodyPost_ret (v := .agg #[.int .i64 r, .int .i64 0, .slice none 0 0]) (by simp [results, Try.results12, go_sem, p0, p1, p2]) rfl ⟨_, _, rfl, World.ownsRow_nil _ _ _ _, ?_⟩
    repeat' (refine Below.setCell ?_ (by dsimp only; omega) _)
    exact hb0
  case inr.inl =>
    have hne : (undoF us != 0) = true := by simpa using h1
    rw [h0] at hF
    clear h0 h1
    generalize undoF us = r at hU hne
    go_enter Try.func12, Try.ntmps12
    go_wp2_with fail
    generalize w.alloc (.cells #[.int .i64 0, .int .i64 0, .slice none 0 0] 37) = W0 at hb0 B0
    refine (hF _ (h.below hb0)).mono ?_
    rintro e w1 ⟨rfl, hb⟩
    replace B0 := B0.below hb
    replace hb0 := hb0.trans (hb.mono hb0.size)
    clear hb
    go_wp2_with fail
    refine (hU _ (hu.below hb0)).mono ?_
    rintro e w2 ⟨rfl, hb⟩
    replace B0 := B0.below hb
    replace hb0 := hb0.trans (hb.mono hb0.size)
    clear hb
    have p0 := B0.cell 0 _ rfl
    have p1 := B0.cell 1 _ rfl
    have p2 := B0.cell 2 _ rfl
    have f0 := B0.frozen 0
    have f1 := B0.frozen 1
    have f2 := B0.frozen 2
    have hlt := B0.lt
    clear B0
    go_wp2
    refine bodyPost_ret (v := .agg #[.int .i64 r, .int .i64 0, .slice none 0 0]) (by simp [results, Try.results12, go_sem, p0, p1, p2]) rfl ⟨_, _, rfl, World.ownsRow_nil _ _ _ _, ?_⟩
    repeat' (refine Below.setCell ?_ (by dsimp only; omega) _)
    exact hb0
  case inr.inr.inl =>
    obtain ⟨h8, g⟩ := good_of_F h0
    obtain ⟨hu4, hu1⟩ := undoF_parts h1
    obtain ⟨gB, lB⟩ := bkA_good g hu1
    have hsh := fun w h => shelfOf_any a cap xs w h h8 g
    have hun := fun b w hs ha => undoAll_any b xs ua uc us w hs g h8 ha h1
    rw [h0] at hF
    rw [h1] at hU
    clear h0 h1 hu1
    generalize bkA xs us = zs at gB lB hun h2 ⊢
    go_enter Try.func12, Try.ntmps12
    go_wp2_with fail
    generalize w.alloc (.cells #[.int .i64 0, .int .i64 0, .slice none 0 0] 37) = W0 at hb0 B0
    refine (hF _ (h.below hb0)).mono ?_
    rintro e w1 ⟨rfl, hb⟩
    replace B0 := B0.below hb
    replace hb0 := hb0.trans (hb.mono hb0.size)
    clear hb
    go_wp2_with fail
    refine (hU _ (hu.below hb0)).mono ?_
    rintro e w2 ⟨rfl, hb⟩
    replace B0 := B0.below hb
    replace hb0 := hb0.trans (hb.mono hb0.size)
    clear hb
    go_wp2_with fail
    refine (hsh _ (h.below hb0)).mono ?_
    rintro e w3 ⟨rfl, hS, hb⟩
    have hlt0 := B0.lt
    have hge := hb0.size
    replace B0 := B0.below hb
    replace hb0 := hb0.trans (hb.mono hb0.size)
    have hsz3 := hb.size
    clear hb
    generalize w2.heap.size = bm at hS hlt0 hge hsz3 ⊢
    go_wp2_with fail
    refine (hun _ _ hS (hu.below hb0)).mono ?_
    rintro e w4 ⟨rfl, hS4, ho⟩
    replace B0 := blk_under B0 ho hlt0
    replace hb0 := below_only hb0 ho (by omega) (by omega)
    clear ho hS
    have hlen : ∀ ty, (Builtin.len_ #[76] ty #[.map (some bm)]).run Try.prog w4 = .ok (.int .i64 zs.length) w4 := fun ty => by
      have := World.ownsMap.len hS4 Try.underlying76 ty
      rw [shelf_size] at this
      exact this
    have p0 := B0.cell 0 _ rfl
    have p1 := B0.cell 1 _ rfl
    have p2 := B0.cell 2 _ rfl
    have f0 := B0.frozen 0
    have f1 := B0.frozen 1
    have f2 := B0.frozen 2
    have hlt := B0.lt
    clear B0
    go_wp2
    refine bodyPost_ret (v := .agg #[.int .i64 7, .int .i64 0, .slice none 0 0]) (by simp [results, Try.results12, go_sem, p0, p1, p2]) rfl ⟨_, _, rfl, World.ownsRow_nil _ _ _ _, ?_⟩
    repeat' (refine Below.setCell ?_ (by dsimp only; omega) _)
    exact hb0
  case inr.inr.inr =>
    obtain ⟨h8, g⟩ := good_of_F h0
    obtain ⟨hu4, hu1⟩ := undoF_parts h1
    obtain ⟨gB, lB⟩ := bkA_good g hu1
    have hsh := fun w h => shelfOf_any a cap xs w h h8 g
    have hun := fun b w hs ha => undoAll_any b xs ua uc us w hs g h8 ha h1
    rw [h0] at hF
    rw [h1] at hU
    clear h0 h1 hu1
    generalize bkA xs us = zs at gB lB hun h2 ⊢
    go_enter Try.func12, Try.ntmps12
    go_wp2_with fail
    generalize w.alloc (.cells #[.int .i64 0, .int .i64 0, .slice none 0 0] 37) = W0 at hb0 B0
    refine (hF _ (h.below hb0)).mono ?_
    rintro e w1 ⟨rfl, hb⟩
    replace B0 := B0.below hb
    replace hb0 := hb0.trans (hb.mono hb0.size)
    clear hb
    go_wp2_with fail
    refine (hU _ (hu.below hb0)).mono ?_
    rintro e w2 ⟨rfl, hb⟩
    replace B0 := B0.below hb
    replace hb0 := hb0.trans (hb.mono hb0.size)
    clear hb
    go_wp2_with fail
    refine (hsh _ (h.below hb0)).mono ?_
    rintro e w3 ⟨rfl, hS, hb⟩
    have hlt0 := B0.lt
    have hge := hb0.size
    replace B0 := B0.below hb
    replace hb0 := hb0.trans (hb.mono hb0.size)
    have hsz3 := hb.size
    clear hb
    generalize w2.heap.size = bm at hS hlt0 hge hsz3 ⊢
    go_wp2_with fail
    refine (hun _ _ hS (hu.below hb0)).mono ?_
    rintro e w4 ⟨rfl, hS4, ho⟩
    replace B0 := blk_under B0 ho hlt0
    replace hb0 := below_only hb0 ho (by omega) (by omega)
    clear ho hS
    have hlen : ∀ ty, (Builtin.len_ #[76] ty #[.map (some bm)]).run Try.prog w4 = .ok (.int .i64 zs.length) w4 := fun ty => by
      have := World.ownsMap.len hS4 Try.underlying76 ty
      rw [shelf_size] at this
      exact this
    go_wp2_with fail
    refine (items_any bm zs _ hS4 (by omega) gB).mono ?_
    rintro e w5 ⟨ra, rc, rfl, o5, hb⟩
    have hge5 := hb0.size
    have hlt5 := B0.lt
    replace B0 := B0.below hb
    replace hb0 := hb0.trans (hb.mono hb0.size)
    have hnb : ∀ k, (Value.slice ra zs.length rc).ownBlock = some k → k ≠ w.heap.size := fun k hk => by have := (o5.lt k hk).1; omega
    have o6 := own_base o5 hge5
    clear o5
    have p0 := B0.cell 0 _ rfl
    have p1 := B0.cell 1 _ rfl
    have p2 := B0.cell 2 _ rfl
    have f0 := B0.frozen 0
    have f1 := B0.frozen 1
    have f2 := B0.frozen 2
    have hlt := B0.lt
    clear B0
    go_wp2
    refine bodyPost_ret (v := .agg #[.int .i64 0, .int .i64 0, .slice ra zs.length rc]) (by simp [results, Try.results12, go_sem, p0, p1, p2]) rfl ⟨_, _, rfl, ?_, ?_⟩
    · exact own_set_other (own_set_other (own_set_other o6 hnb) hnb) hnb
    · repeat' (refine Below.setCell ?_ (by dsimp only; omega) _)
      exact hb0

end Go.Proofs.Ytjaoggkpnjkkpaa
