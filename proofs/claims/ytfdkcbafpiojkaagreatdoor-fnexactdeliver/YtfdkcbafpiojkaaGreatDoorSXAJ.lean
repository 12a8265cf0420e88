/- Texts joined, with what the law reaches alone. -/
import Derived.Test.YtfdkcbafpiojkaaGreatDoorSXAI
import Derived.Test.YtfdkcbafpiojkaaGreatDoorSXAF
import Derived.Test.YtfdkcbafpiojkaaGreatDoorSXAG
import Derived.Test.YtfdkcbafpiojkaaGreatDoorSXAH
import Derived.Test.YtfdkcbafpiojkaaGreatDoorSXAD
import Derived.Test.YtfdkcbafpiojkaaGreatDoorSXAB
import Derived.Test.YtfdkcbafpiojkaaGreatDoorSXAE
import Derived.Lib.SmallJoins
set_option linter.unusedVariables false
set_option linter.unusedSimpArgs false
namespace Go.Proofs.YtfdkcbafpiojkaaGreatDoor
open Go.RowKit Go.Maps Go.Sort Go.Shelf
set_option maxRecDepth 100000
theorem ShelfAt.under {w w' : World} {B b:Nat} {xs:List ItemD} (h:ShelfAt w b xs) (hb:Below B w w') (hlt:b < B):ShelfAt w' b xs:=by
 obtain ⟨es,clock,hh,r⟩:=h
 exact ⟨es,clock,(hb.block b hlt).trans hh,r⟩

theorem only_cell {w w' : World} {lo hi b j:Nat} {v:Value} (h:w.cell? ⟨b,j,none⟩=some v) (ho:Only lo hi w w') (hb:b < lo∨hi≤b):w'.cell? ⟨b,j,none⟩=some v:=by
 have hlt:=World.block_lt_of_cell? w _ h
 have e:=ho.block b hlt hb
 simp only [World.cell?] at h ⊢
 rw [e]
 exact h

theorem undoCells_snoc (xs:List UndoD) (z:UndoD):undoCells (xs ++ [z])=undoCells xs ++ [.int .i64 z.key,.bool z.was,.int .i64 z.val]:=by simp [undoCells,UndoD.cells]

theorem unR_cons (xs:List ItemD) (a:ActD) (r:List ActD):unR xs (a :: r)=(if a.kind=4 then [] else [unA xs a]) ++ unR (actN xs a) r:=rfl

set_option maxRecDepth 100000 in
set_option maxHeartbeats 2000000 in
theorem undosOf_any (sb:Nat) (xs:List ItemD) (ta:Option Addr) (tc:Nat) (zs:List ActD) (w:World) (h:ShelfAt w sb xs) (h8:xs.length≤8) (g:Good xs) (ht:ActRow w ta zs) (hap:∀ b off,ta=some ⟨b,off,none⟩→b≠sb) (hz4:zs.length≤4) (hact:∀ a∈zs,actF a=0) (hrun:(runA xs zs).1=0) :
  Calls Tryz.prog 164 #[.map (some sb),.slice ta zs.length tc] w fun e w' => ∃ b c,e=.returned (.slice b (unR xs zs).length c) ∧
   w'.ownsRow w.heap.size 185 3 (.slice b (unR xs zs).length c) (unR xs zs).length (undoCells (unR xs zs))∧Only sb (sb + 1) w w' := by
 obtain ⟨i0,hi,hz0,hz1,hz2⟩:=info_parts infoUndo
 have hsb:=h.lt
 have HA:Hid (∀ a∈zs,actF a=0):=hact
 have HR0:Hid ((runA xs zs).1=0):=hrun
 clear hact hrun
 go_enter Tryz.func164,Tryz.ntmps164
 go_wp2
 go_loopw [5,12] (fun v j wr=>∃ (k:Nat) (cur:List ItemD) (D:List UndoD),k≤zs.length∧j=.int .i64 k∧ShelfAt wr sb cur∧cur.length≤8∧D.length≤k∧Hid (Good cur∧(runA cur (zs.drop k)).1=0∧unR xs zs=D ++ unR cur (zs.drop k))∧wr.ownsRow w.heap.size 185 3 v D.length (undoCells D)∧Only sb (sb + 1) w wr) (fun _ j _=>zs.length - (intOf j).toNat)
 case atStart=>exact ⟨0,xs,[],Nat.zero_le _,rfl,h,h8,Nat.zero_le _,⟨g,by simpa using HR0.out,by simp⟩,World.ownsRow_nil _ _ _ _,Only.refl _ _ _⟩
 case round=>
  obtain ⟨k,cur,D,hk,rfl,hS,hc8,hD,HG,ho,hO⟩:=hrel
  obtain ⟨a1,c1,rfl⟩:=own_shape ho
  have hsz:w.heap.size≤wr.heap.size:=hO.size
  by_cases hlt:k < zs.length
  ·obtain ⟨b,off,rfl,hbs,hc0,hc1,hc2⟩:=ht.at k hlt
   have hne:=hap b off rfl
   replace hc0:=only_cell hc0 hO (by omega)
   replace hc1:=only_cell hc1 hO (by omega)
   replace hc2:=only_cell hc2 hO (by omega)
   have haz:=HA.out (zs.getD k actNo) (by simp [List.getD,hlt])
   obtain ⟨_,hy20,_⟩:=actF_zero haz
   have hrun:=HG.out.2.1
   have hun:=HG.out.2.2
   rw [drop_act hlt,runA_cons] at hrun
   rw [drop_act hlt,unR_cons] at hun
   have hF:actC cur (zs.getD k actNo)=0:=by
    by_cases hF:actC cur (zs.getD k actNo)=0
    ·exact hF
    ·rw [if_neg hF] at hrun;exact absurd hrun hF
   rw [if_pos hF] at hrun
   obtain ⟨hn8,hng⟩:=act_good hc8 HG.out.1 haz hF
   have hdo:=fun w h=>do_any sb cur (zs.getD k actNo).kind (zs.getD k actNo).key (zs.getD k actNo).val w h hc8 HG.out.1 haz
   change ∀ w h,Calls _ _ _ _ fun e w' => e=.returned (.int .i64 (actC cur (zs.getD k actNo)))∧(actC cur (zs.getD k actNo)=0→ShelfAt w' sb (actN cur (zs.getD k actNo)))∧_ at hdo
   rw [hF] at hdo
   have HN:Hid (Good (actN cur (zs.getD k actNo))∧(runA (actN cur (zs.getD k actNo)) (zs.drop (k + 1))).1=0):=⟨hng,hrun⟩
   have HU:Hid (unR xs zs=D ++ ((if (zs.getD k actNo).kind=4 then [] else [unA cur (zs.getD k actNo)]) ++ unR (actN cur (zs.getD k actNo)) (zs.drop (k + 1)))):=hun
   clear hrun hun hng haz HG hF
   generalize actN cur (zs.getD k actNo)=nx at hdo HN HU hn8
   generalize zs.getD k actNo=z at hc0 hc1 hc2 hdo HU hy20
   obtain ⟨z0,z1,z2⟩:=z
   dsimp only at hc0 hc1 hc2 hdo HU hy20
   have hS1:ShelfAt (wr.alloc (.cells #[.int .i64 z0,.int .i64 z1,.int .i64 z2] 146)) sb cur:=hS.below (by go_grown)
   have hB1:Below wr.heap.size wr (wr.alloc (.cells #[.int .i64 z0,.int .i64 z1,.int .i64 z2] 146)):=by go_grown
   have Bz:=Blk.new wr 146 #[.int .i64 z0,.int .i64 z1,.int .i64 z2]
   by_cases h4:z0=4
   ·subst h4
    have HU' : Hid (unR xs zs=D ++ unR nx (zs.drop (k + 1))):=by
     show _=_
     simpa using HU.out
    have hn4:((4:Int) != 4)=false:=by decide
    go_wp2_with fail
    refine (hdo _ hS1).mono ?_
    rintro e w3 ⟨rfl,hS3,hO3⟩
    have RR:Hid (_∧_∧_):=⟨hS3 trivial,own_only (own_below ho hB1) hO3 hsb,(hO.trans (Only.of_below hB1)).trans hO3⟩
    clear hS3 ho hO hO3 hdo hS hS1 hB1 Bz hc0 hc1 hc2
    go_wp2
    go_roundw
    case rel=>exact ⟨k + 1,nx,D,by omega,by go_num,RR.out.1,hn8,by omega,⟨HN.out.1,HN.out.2,HU'.out⟩,RR.out.2.1,RR.out.2.2⟩
    case measure=>simp [intOf];omega
   ·have HU' : Hid (unR xs zs=(D ++ [⟨z1,hasI cur z1,valI cur z1⟩]) ++ unR nx (zs.drop (k + 1))):=by
     have:=HU.out
     rw [if_neg h4] at this
     show _=_
     simpa [unA] using this
    have hn4:(z0 != 4)=true:=by simpa using h4
    have hlook:∀ (w:World) (_:ShelfAt w sb cur) (ops:Array Oper) (rest:List Oper) (o:Oper) (a:Act) (Q:Exit→Act→World→Prop) (hg:o.guard=none) (m x:Operand) (hop:o.op=Op.lookup 143 m x true) (hm:a.eval m=.map (some sb)) (hx:a.eval x=.int .i64 z1) (hK:wpList Tryz.prog ops Q rest (a.put o.dst (.tuple #[.int .i64 (valI cur z1),.bool (hasI cur z1)])) w),wpList Tryz.prog ops Q (o :: rest) a w:=
     fun w h ops rest o a Q hg m x hop hm hx hK=>wpList_shelf_ok w hg m x hop sb cur hm h z1 hx (by omega) hK
    clear h4 HU
    generalize valI cur z1=c at hlook HU'
    generalize hasI cur z1=t at hlook HU'
    have ho2:((wr.alloc (.cells #[.int .i64 z0,.int .i64 z1,.int .i64 z2] 146)).alloc (.cells #[.int .i64 z1,.bool t,.int .i64 c] 185)).ownsRow w.heap.size 185 3 (.slice a1 D.length c1) D.length (undoCells D):=own_below (own_below ho hB1) (by go_grown)
    have hB2:Below wr.heap.size wr ((wr.alloc (.cells #[.int .i64 z0,.int .i64 z1,.int .i64 z2] 146)).alloc (.cells #[.int .i64 z1,.bool t,.int .i64 c] 185)):=by go_grown
    have Bz2:=Bz.below (w' := (wr.alloc (.cells #[.int .i64 z0,.int .i64 z1,.int .i64 z2] 146)).alloc (.cells #[.int .i64 z1,.bool t,.int .i64 c] 185)) (by go_grown)
    have hnz:=own_not3 ho (b:=wr.heap.size) (Or.inr (Nat.le_refl _))
    go_wp2_with (first | (at_lookup;refine hlook _ hS1 _ _ _ _ _ rfl _ _ rfl rfl rfl ?_) | (at_builtin;refine wpList_append_own _ rfl _ _ 118 rfl w.heap.size 185 i0 (.agg #[.int .i64 0,.bool false,.int .i64 0]) 3 24 Tryz.underlying118 hi hz0 hz1 hz2 rfl (by decide) _ D.length (undoCells D) rfl ho2 ⟨wr.heap.size + 1,0,none⟩ 1 1 [.int .i64 z1,.bool t,.int .i64 c] rfl rfl ?c1 ?c2 ?c3 ?c4 ?c5 ?_))
    all_goals try (case c1=>intro j u hj;match j,hj with | 0,hj=>simp at hj;subst hj;simp [Addr.add] | 1,hj=>simp at hj;subst hj;simp [Addr.add] | 2,hj=>simp at hj;subst hj;simp [Addr.add])
    all_goals try (case c2=>first | rfl | exact ⟨rfl,rfl,rfl⟩ | (intro u hu;simp at hu;rcases hu with rfl | rfl | rfl <;> rfl))
    all_goals try (case c3=>unfold maxLen;omega)
    all_goals try (case c4=>omega)
    all_goals try (case c5=>first | omega | (simp;omega))
    intro v' w3 hown hgrow _
    obtain ⟨a2,c2,rfl⟩:=own_shape hown
    have hW3:Below w.heap.size wr w3:=(hB2.mono hsz).grown hgrow (by simp;omega) (fun j hj=>(ho.lt j hj).1)
    have hO3:Only sb (sb + 1) w w3:=⟨hW3.os.trans hO.os,hW3.tape.trans hO.tape,hW3.output.trans hO.output,Nat.le_trans hO.size hW3.size,fun j hj hc=>(hW3.block j hj).trans (hO.block j hj hc)⟩
    have hS3:=hS.under hW3 hsb
    have Bz3:=Bz2.grown hgrow hnz
    have q0:=Bz3.cell 0 _ rfl
    have q1:=Bz3.cell 1 _ rfl
    have q2:=Bz3.cell 2 _ rfl
    clear hgrow ho2 hB2 Bz2 hS1 hB1 Bz hc0 hc1 hc2 hO ho hS Bz3 hW3 hlook
    go_wp2_with fail
    refine (hdo _ hS3).mono ?_
    rintro e w4 ⟨rfl,hS4,hO4⟩
    have RR:Hid (_∧_∧_):=⟨hS4 trivial,own_only hown hO4 hsb,hO3.trans hO4⟩
    clear hS4 hown hO4 hO3 hdo q0 q1 q2 hS3
    go_wp2
    go_roundw
    case rel=>
     refine ⟨k + 1,nx,D ++ [⟨z1,t,c⟩],by omega,by go_num,RR.out.1,hn8,by simp;omega,⟨HN.out.1,HN.out.2,HU'.out⟩,?_,RR.out.2.2⟩
     rw [undoCells_snoc]
     simpa using RR.out.2.1
    case measure=>simp [intOf];omega
  ·have hkl:k=zs.length:=by omega
   subst hkl
   have e:unR xs zs=D:=by
    have:=HG.out.2.2
    rw [List.drop_length] at this
    simpa [unR] using this
   go_wp2
   go_ret
   rw [e]
   exact ⟨_,_,rfl,ho,hO⟩

end Go.Proofs.YtfdkcbafpiojkaaGreatDoor
namespace Go.Proofs.YtfdkcbafpiojkaaGreatDoor
open Go.RowKit
set_option maxRecDepth 100000
/-- No two of the three lie in one block. -/
structure Apart3 (s1 s2 s3:Value):Prop where
 a12:s1.ownBlock=none∨s1.ownBlock≠s2.ownBlock
 a13:s1.ownBlock=none∨s1.ownBlock≠s3.ownBlock
 a23:s2.ownBlock=none∨s2.ownBlock≠s3.ownBlock

theorem ne_swap {s t:Value} (h:s.ownBlock=none∨s.ownBlock≠t.ownBlock):t.ownBlock=none∨t.ownBlock≠s.ownBlock:=by
 rcases h with h | h
 ·cases ht:t.ownBlock with
  | none=>exact Or.inl rfl
  | some g=>right;rw [h];simp
 ·exact Or.inr (fun e=>h e.symm)

structure OwnA (lo hi:Nat) (w:World) (s1 s2 s3:Value) (cs vs:List Int) (ys:List ItemD):Prop where
 o1:OwnS 2 1 lo hi w s1 cs.length (cs.map (Value.int .i64))
 o2:OwnS 2 1 lo hi w s2 vs.length (vs.map (Value.int .i64))
 o3:OwnS 134 2 lo hi w s3 ys.length (itemCells ys)
 ap:Apart3 s1 s2 s3

/-- The three lists read so. -/
structure RowA (w:World) (a1 a2 a3:Option Addr) (cs vs:List Int) (ys:List ItemD):Prop where
 r1:Row .i64 w a1 cs
 r2:Row .i64 w a2 vs
 r3:ItemRow w a3 ys

theorem OwnA.below {lo hi:Nat} {w w' : World} {s1 s2 s3:Value} {cs vs:List Int} {ys:List ItemD} (h:OwnA lo hi w s1 s2 s3 cs vs ys) (hb:Below w.heap.size w w'):OwnA lo hi w' s1 s2 s3 cs vs ys:=⟨h.o1.below hb,h.o2.below hb,h.o3.below hb,h.ap⟩

theorem OwnA.only {lo hi lo' hi' : Nat} {w w' : World} {s1 s2 s3:Value} {cs vs:List Int} {ys:List ItemD} (h:OwnA lo hi w s1 s2 s3 cs vs ys) (ho:Only lo' hi' w w') (hh:hi' ≤ lo):OwnA lo hi w' s1 s2 s3 cs vs ys:=⟨h.o1.only ho hh,h.o2.only ho hh,h.o3.only ho hh,h.ap⟩

theorem OwnA.row {lo hi c1 c2 c3:Nat} {w:World} {a1 a2 a3:Option Addr} {cs vs:List Int} {ys:List ItemD} (h:OwnA lo hi w (.slice a1 cs.length c1) (.slice a2 vs.length c2) (.slice a3 ys.length c3) cs vs ys):RowA w a1 a2 a3 cs vs ys:=⟨Row.own h.o1.1,Row.own h.o2.1,Lies.own h.o3.1⟩

theorem RowA.below {w w' : World} {a1 a2 a3:Option Addr} {cs vs:List Int} {ys:List ItemD} (h:RowA w a1 a2 a3 cs vs ys) (hb:Below w.heap.size w w'):RowA w' a1 a2 a3 cs vs ys:=⟨h.r1.below hb,h.r2.below hb,h.r3.below hb⟩

/-- The three lists hold their marks. -/
structure MarkA (w:World) (a1 a2 a3:Option Addr) (n1 n2 n3:Nat):Prop where
 r1:Row .i64 w a1 (marks .i64 1 n1)
 r2:Row .i64 w a2 (marks .i64 (1 + (n1:Int)) n2)
 r3:ItemRow w a3 (itemMarks (1 + (n1:Int) + (n2:Int)) n3)

theorem MarkA.below {w w' : World} {a1 a2 a3:Option Addr} {n1 n2 n3:Nat} (h:MarkA w a1 a2 a3 n1 n2 n3) (hb:Below w.heap.size w w'):MarkA w' a1 a2 a3 n1 n2 n3:=⟨h.r1.below hb,h.r2.below hb,h.r3.below hb⟩

end Go.Proofs.YtfdkcbafpiojkaaGreatDoor
namespace Go.Proofs.YtfdkcbafpiojkaaGreatDoor
open Go.RowKit
set_option maxRecDepth 100000
structure OwnU (lo hi:Nat) (w:World) (s1 s2:Value) (us:List UndoD) (ys:List ItemD):Prop where
 o1:OwnS 185 3 lo hi w s1 us.length (undoCells us)
 o2:OwnS 134 2 lo hi w s2 ys.length (itemCells ys)
 ap:s1.ownBlock=none∨s1.ownBlock≠s2.ownBlock

/-- The two lists read so. -/
structure RowU (w:World) (a1 a2:Option Addr) (us:List UndoD) (ys:List ItemD):Prop where
 r1:UndoRow w a1 us
 r2:ItemRow w a2 ys

theorem OwnU.below {lo hi:Nat} {w w' : World} {s1 s2:Value} {us:List UndoD} {ys:List ItemD} (h:OwnU lo hi w s1 s2 us ys) (hb:Below w.heap.size w w'):OwnU lo hi w' s1 s2 us ys:=⟨h.o1.below hb,h.o2.below hb,h.ap⟩

theorem OwnU.only {lo hi lo' hi' : Nat} {w w' : World} {s1 s2:Value} {us:List UndoD} {ys:List ItemD} (h:OwnU lo hi w s1 s2 us ys) (ho:Only lo' hi' w w') (hh:hi' ≤ lo):OwnU lo hi w' s1 s2 us ys:=⟨h.o1.only ho hh,h.o2.only ho hh,h.ap⟩

theorem OwnU.row {lo hi c1 c2:Nat} {w:World} {a1 a2:Option Addr} {us:List UndoD} {ys:List ItemD} (h:OwnU lo hi w (.slice a1 us.length c1) (.slice a2 ys.length c2) us ys):RowU w a1 a2 us ys:=⟨Lies.own h.o1.1,Lies.own h.o2.1⟩

theorem RowU.below {w w' : World} {a1 a2:Option Addr} {us:List UndoD} {ys:List ItemD} (h:RowU w a1 a2 us ys) (hb:Below w.heap.size w w'):RowU w' a1 a2 us ys:=⟨h.r1.below hb,h.r2.below hb⟩

/-- The two lists hold their marks. -/
structure MarkU (w:World) (a1 a2:Option Addr) (n1 n2:Nat):Prop where
 r1:UndoRow w a1 (undoMarks 1 n1)
 r2:ItemRow w a2 (itemMarks (1 + ((n1 * 3:Nat):Int)) n2)

theorem MarkU.below {w w' : World} {a1 a2:Option Addr} {n1 n2:Nat} (h:MarkU w a1 a2 n1 n2) (hb:Below w.heap.size w w'):MarkU w' a1 a2 n1 n2:=⟨h.r1.below hb,h.r2.below hb⟩

end Go.Proofs.YtfdkcbafpiojkaaGreatDoor
namespace Go.Proofs.YtfdkcbafpiojkaaGreatDoor
open Go.RowKit Go.Maps Go.Sort Go.Shelf
open Go.BigFrame
set_option maxRecDepth 100000
theorem ex_zero {xs:List ItemD} {i s q:Int} {zs:List ActD} (h:exC xs i s q zs=0):itemsF xs=0∧txnF i s q zs=0∧(runA xs zs).1=0:=by
 by_cases h1:itemsF xs=0
 ·by_cases h2:txnF i s q zs=0
  ·refine ⟨h1,h2,?_⟩
   simpa [exC,h1,h2] using h
  ·simp [exC,h1,h2] at h
 ·simp [exC,h1] at h

theorem ex_not {xs:List ItemD} {i s q:Int} {zs:List ActD} (h:exC xs i s q zs≠0):exV xs i s q zs=0∧exR xs i s q zs=[]∧duU xs i s q zs=[]:=by
 simp [exV,exR,duU,h]

set_option maxRecDepth 100000 in
set_option maxHeartbeats 4000000 in
theorem implDoUndo_any (a:Option Addr) (cap:Nat) (xs:List ItemD) (i s q:Int) (ta:Option Addr) (tc:Nat) (zs:List ActD) (w:World) (h:ItemRow w a xs) (ht:ActRow w ta zs) (hl:xs.length≤1048576) (hl2:zs.length≤1048576) :
  Calls Tryz.prog 116 #[.slice a xs.length cap,.agg #[.int .i64 i,.int .i64 s,.int .i64 q,.slice ta zs.length tc]] w fun e w' => ∃ b c b2 c2,e=.returned (.agg #[.int .i64 (exC xs i s q zs),.int .i64 (exV xs i s q zs),.slice b (duU xs i s q zs).length c,.slice b2 (exR xs i s q zs).length c2]) ∧
   OwnU w.heap.size w'.heap.size w' (.slice b (duU xs i s q zs).length c) (.slice b2 (exR xs i s q zs).length c2) (duU xs i s q zs) (exR xs i s q zs)∧Below w.heap.size w w' := by
 have hE:=fun w h ht=>implExecTxn_any a cap xs i s q ta tc zs w h ht hl hl2
 have hb0:Below w.heap.size w ((w.alloc (.cells #[.int .i64 i,.int .i64 s,.int .i64 q,.slice ta zs.length tc] 49)).alloc (.cells #[.int .i64 0,.int .i64 0,.slice none 0 0,.slice none 0 0] 179)):=by go_grown
 have Bt:=(Blk.new w 49 #[.int .i64 i,.int .i64 s,.int .i64 q,.slice ta zs.length tc]).below (w' := (w.alloc (.cells #[.int .i64 i,.int .i64 s,.int .i64 q,.slice ta zs.length tc] 49)).alloc (.cells #[.int .i64 0,.int .i64 0,.slice none 0 0,.slice none 0 0] 179)) (by go_grown)
 have Br:=Blk.new (w.alloc (.cells #[.int .i64 i,.int .i64 s,.int .i64 q,.slice ta zs.length tc] 49)) 179 #[.int .i64 0,.int .i64 0,.slice none 0 0,.slice none 0 0]
 rw [World.size_alloc] at Br
 by_cases h0:exC xs i s q zs=0
 case neg=>
  obtain ⟨e1,e2,e3⟩:=ex_not h0
  have hne:(exC xs i s q zs != 0)=true:=by simpa using h0
  rw [e1,e2,e3]
  rw [e1,e2] at hE
  clear e1 e2 e3 h0
  generalize exC xs i s q zs=r at hE hne
  go_enter Tryz.func116,Tryz.ntmps116
  have p0:=Bt.cell 0 _ rfl
  have p1:=Bt.cell 1 _ rfl
  have p2:=Bt.cell 2 _ rfl
  have p3:=Bt.cell 3 _ rfl
  go_wp2_with fail
  clear p0 p1 p2 p3
  have hs0:=Br.lt
  have hge0:=hb0.size
  generalize (w.alloc (.cells #[.int .i64 i,.int .i64 s,.int .i64 q,.slice ta zs.length tc] 49)).alloc (.cells #[.int .i64 0,.int .i64 0,.slice none 0 0,.slice none 0 0] 179)=W0 at hb0 Bt Br hs0 hge0
  refine (hE _ (h.below hb0) (ht.below hb0)).mono ?_
  rintro e w1 ⟨ib,ic,rfl,o1,hb⟩
  replace Bt:=Bt.below hb
  replace Br:=Br.below hb
  replace hb0:=hb0.trans (hb.mono hb0.size)
  have hs1:=hb.size
  clear hb
  have hb:Below w1.heap.size w1 (w1.alloc (.cells #[.int .i64 r,.int .i64 0,.slice ib 0 ic] 68)):=by go_grown
  replace Br:=Br.below hb
  replace hb0:=hb0.trans (hb.mono hb0.size)
  have p0:=Br.cell 0 _ rfl
  have p1:=Br.cell 1 _ rfl
  have p2:=Br.cell 2 _ rfl
  have p3:=Br.cell 3 _ rfl
  have f0:=Br.frozen 0
  have f1:=Br.frozen 1
  have f2:=Br.frozen 2
  have f3:=Br.frozen 3
  clear hb
  go_wp2
  refine bodyPost_ret (v:=.agg #[.int .i64 r,.int .i64 0,.slice none 0 0,.slice none 0 0]) (by simp [results,Tryz.results116,go_sem,p0,p1,p2,p3]) rfl ⟨_,_,_,_,rfl,⟨OwnS.of (World.ownsRow_nil _ _ _ _),OwnS.of (World.ownsRow_nil _ _ _ _),Or.inl rfl⟩,?_⟩
  repeat' (refine Below.setCell ?_ (by dsimp only;omega) _)
  exact hb0
 case pos=>
  obtain ⟨z1,z2,z3⟩:=ex_zero h0
  obtain ⟨h8,g⟩:=good_of_F z1
  obtain ⟨⟨hz1,hz4⟩,hact⟩:=acts_of_F z2
  have hsh:=fun w h=>shelfOf_any a cap xs w h h8 g
  have hdu:duU xs i s q zs=unR xs zs:=by simp [duU,h0]
  have hta:∃ b off,ta=some ⟨b,off,none⟩∧b < w.heap.size:=by
   obtain ⟨b,off,e,hlt,_⟩:=ht.at 0 (by omega)
   exact ⟨b,off,e,hlt⟩
  have hun:=fun sb w hS ht hap=>undosOf_any sb xs ta tc zs w hS h8 g ht hap hz4 hact z3
  rw [hdu,h0]
  rw [h0] at hE
  clear hact z1 z2 z3 hdu h0 g
  generalize exV xs i s q zs=V at hE ⊢
  generalize exR xs i s q zs=R at hE ⊢
  generalize unR xs zs=U at hun ⊢
  go_enter Tryz.func116,Tryz.ntmps116
  have p0:=Bt.cell 0 _ rfl
  have p1:=Bt.cell 1 _ rfl
  have p2:=Bt.cell 2 _ rfl
  have p3:=Bt.cell 3 _ rfl
  go_wp2_with fail
  clear p0 p1 p2 p3
  have hs0:=Br.lt
  have hge0:=hb0.size
  generalize (w.alloc (.cells #[.int .i64 i,.int .i64 s,.int .i64 q,.slice ta zs.length tc] 49)).alloc (.cells #[.int .i64 0,.int .i64 0,.slice none 0 0,.slice none 0 0] 179)=W0 at hb0 Bt Br hs0 hge0
  refine (hE _ (h.below hb0) (ht.below hb0)).mono ?_
  rintro e w1 ⟨ib,ic,rfl,o1,hb⟩
  replace Bt:=Bt.below hb
  replace Br:=Br.below hb
  replace hb0:=hb0.trans (hb.mono hb0.size)
  have hs1:=hb.size
  clear hb
  have hb:Below w1.heap.size w1 (w1.alloc (.cells #[.int .i64 0,.int .i64 V,.slice ib R.length ic] 68)):=by go_grown
  have Bd:=Blk.new w1 68 #[.int .i64 0,.int .i64 V,.slice ib R.length ic]
  replace Br:=Br.below hb
  replace Bt:=Bt.below hb
  replace o1:=own_below o1 hb
  replace hb0:=hb0.trans (hb.mono hb0.size)
  have hs2:=hb.size
  clear hb
  go_wp2_with fail
  generalize w1.alloc (.cells #[.int .i64 0,.int .i64 V,.slice ib R.length ic] 68)=W2 at hb0 Bt Br Bd o1 hs2
  have hs3:=hb0.size
  have hW:Below W2.heap.size W2 W2.drew:=(Below.refl _ _).drew
  have hne:Nonempty (Lat W2):=⟨⟨W2,Below.refl _ _⟩⟩
  have k1:=Bd.lat 1 _ rfl
  have k2:=Bd.lat 2 _ rfl
  have k3:=Bt.lat 3 _ rfl
  refine beginX (S:=fun w' => ∃ u:Lat W2,w' = u.val) (R:=fun _ _=>False) 10 (by kernel_rfl) (fun _ _ _ _ h=>h.elim) ?_
  refine segX [(0,3),(4,2),(7,2)] 4 (by kernel_rfl) (by kernel_rfl) (by kernel_rfl) (by kernel_rfl) (by kernel_rfl) ⟨⟨_,hW⟩,rfl⟩ ?_
  simp only [pickR,List.toList_toArray,List.flatMap_cons,List.flatMap_nil,List.drop_succ_cons,List.drop_zero,List.take_succ_cons,List.take_zero,List.cons_append,List.nil_append,List.append_nil]
  repeat go_big_quiet_step (fail)
  refine wpQuiet_nil ?_
  refine callX 3 (some 18) 87 #[.slice a xs.length cap] 3 (by kernel_rfl) (by kernel_rfl) (by kernel_rfl) (by kernel_rfl) (by kernel_rfl) rfl ?_
  refine (hsh _ (h.below (hb0.trans (hW.mono hb0.size)))).mono ?_
  rintro e w3 ⟨rfl,hS,hb⟩
  have hwz:=hW.size
  replace hW:=hW.trans (hb.mono hW.size)
  have hsz3:=hb.size
  clear hb
  refine Or.inl ⟨_,rfl,⟨⟨_,hW⟩,rfl⟩,?_⟩
  simp only [Act.put,List.getElem_toArray,List.getElem_cons_succ,List.getElem_cons_zero,List.setIfInBounds_toArray,List.set_cons_zero,List.set_cons_succ]
  generalize W2.drew.heap.size=sb at hS hwz hsz3 ⊢
  refine callX 6 (some 21) 164 #[.map (some sb),.slice ta zs.length tc] 2 (by kernel_rfl) (by kernel_rfl) (by kernel_rfl) (by kernel_rfl) (by kernel_rfl) rfl ?_
  refine (hun _ _ hS (ht.below (hb0.trans (hW.mono hb0.size))) (fun b off e=>?_)).mono ?_
  ·obtain ⟨b',off',e',hlt⟩:=hta
   rw [e] at e'
   simp only [Option.some.injEq,Addr.mk.injEq,and_true] at e'
   omega
  rintro e w4 ⟨ub,uc,rfl,o4,hO⟩
  replace hW:=below_only hW hO hwz (by omega)
  clear hO hS
  refine Or.inl ⟨_,rfl,⟨⟨_,hW⟩,rfl⟩,?_⟩
  simp only [Act.put,List.getElem_toArray,List.getElem_cons_succ,List.getElem_cons_zero,List.setIfInBounds_toArray,List.set_cons_zero,List.set_cons_succ]
  refine oneX 9 _ 1 (by kernel_rfl) rfl (by kernel_rfl) ?_
  go_wp2
  refine ThenX.to ⟨Or.inr ⟨⟨_,hW⟩,rfl⟩,?_⟩
  refine oneX 10 _ 0 (by kernel_rfl) rfl (by kernel_rfl) ?_
  have hbr:=Br.lt
  have hap:=own_apart3' o1 o4 (by omega)
  replace Br:=Br.below hW
  replace o1:=own_below o1 hW
  replace hb0:=hb0.trans (hW.mono hb0.size)
  have p0:=Br.cell 0 _ rfl
  have p1:=Br.cell 1 _ rfl
  have p2:=Br.cell 2 _ rfl
  have p3:=Br.cell 3 _ rfl
  have f0:=Br.frozen 0
  have f1:=Br.frozen 1
  have f2:=Br.frozen 2
  have f3:=Br.frozen 3
  go_wp2
  refine ThenX.to ⟨Or.inl (by kernel_rfl),?_⟩
  refine endX (by kernel_rfl) ?_
  go_wp2
  have n1:∀ k,(Value.slice ub U.length uc).ownBlock=some k→k≠w.heap.size + 1:=fun k hk=>by have:=(o4.lt k hk).1;omega
  have n2:∀ k,(Value.slice ib R.length ic).ownBlock=some k→k≠w.heap.size + 1:=fun k hk=>by have:=(o1.lt k hk).1;omega
  refine bodyPost_ret (v:=.agg #[.int .i64 0,.int .i64 V,.slice ub U.length uc,.slice ib R.length ic]) (by simp [results,Tryz.results116,go_sem,p0,p1,p2,p3]) rfl ⟨_,_,_,_,rfl,⟨OwnS.of (own_base (own_set_other (own_set_other (own_set_other (own_set_other o4 n1) n1) n1) n1) (by omega)),OwnS.of (own_base (own_set_other (own_set_other (own_set_other (own_set_other o1 n2) n2) n2) n2) (by omega)),hap⟩,?_⟩
  repeat' (refine Below.setCell ?_ (by dsimp only;omega) _)
  exact hb0

end Go.Proofs.YtfdkcbafpiojkaaGreatDoor
namespace Go.Proofs.YtfdkcbafpiojkaaGreatDoor
open Go.RowKit Go.Maps
open Go.BigFrame
set_option maxRecDepth 100000
end Go.Proofs.YtfdkcbafpiojkaaGreatDoor
namespace Go.Proofs.YtfdkcbafpiojkaaGreatDoor
open Go.RowKit Go.Maps
set_option maxRecDepth 100000
end Go.Proofs.YtfdkcbafpiojkaaGreatDoor
namespace Go.Proofs.YtfdkcbafpiojkaaGreatDoor
open Go.RowKit Go.Maps
open Go.BigFrame
set_option maxRecDepth 100000
end Go.Proofs.YtfdkcbafpiojkaaGreatDoor
namespace Go.Proofs.YtfdkcbafpiojkaaGreatDoor
open Go.RowKit
set_option maxRecDepth 100000
def putAll:Act→List (Option Tmp)→List Value→Act
 | a,d :: ds,v :: vs=>putAll (a.put d v) ds vs
 | a,_,_=>a

section
variable {P:Program} {ops:Array Oper} {Q:Exit→Act→World→Prop}
theorem region_vals {id:Nat} {a:Act} {w:World} (ds:List (Option Tmp)) (R:List Value→World→Prop)
  (hreg:(Code.region id ops true).wp P (fun e a' w' => e=.normal∧∃ vs,R vs w' ∧ a' = putAll a ds vs) a w) (himp:∀ vs w',R vs w' → Q .normal (putAll a ds vs) w'):(Code.region id ops true).wp P Q a w:=by
 refine Code.wp_mono ?_ hreg
 rintro e a' w' ⟨rfl,vs,hR,rfl⟩
 exact himp vs w' hR

end
end Go.Proofs.YtfdkcbafpiojkaaGreatDoor
