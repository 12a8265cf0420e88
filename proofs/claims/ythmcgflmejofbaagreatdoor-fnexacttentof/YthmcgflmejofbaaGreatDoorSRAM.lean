/- Texts joined, with what the law reaches alone. -/
import Derived.Test.YthmcgflmejofbaaGreatDoorSRAK
import Derived.Test.YthmcgflmejofbaaGreatDoorSRAF
import Derived.Test.YthmcgflmejofbaaGreatDoorSRAL
import Derived.Test.YthmcgflmejofbaaGreatDoorSRAG
set_option linter.unusedVariables false
set_option linter.unusedSimpArgs false
namespace Go.Proofs.YthmcgflmejofbaaGreatDoor
open Go.RowKit
open Go.BigFrame
set_option maxRecDepth 100000
/-- A list of undos, and where it lies. -/
structure USP where
 d:List UndoD
 a:Option Addr
 cap:Nat

def USP.sl (p:USP):Value:=.slice p.a p.d.length p.cap

def usCells (ps:List USP):List Value:=ps.map USP.sl

def uspNo:USP:=⟨[],none,0⟩

theorem usCells_length (ps:List USP):(usCells ps).length=ps.length:=by simp [usCells]

theorem usCells_get (ps:List USP) (i:Nat) (h:i < ps.length):(usCells ps)[i]? = some (ps.getD i uspNo).sl:=by simp [usCells,List.getD,h]

/-- v is a slice that reads as these lists. -/
def UssAt (w:World) (v:Value) (ds:List (List UndoD)):Prop:=
 ∃ a cap ps,v=.slice a ds.length cap∧ps.map USP.d=ds∧Lies w a (usCells ps)∧∀ p∈ps,UndoRow w p.a p.d

theorem UssAt.below {w w' : World} {v:Value} {ds:List (List UndoD)} (h:UssAt w v ds) (hb:Below w.heap.size w w'):UssAt w' v ds:=by
 obtain ⟨a,cap,ps,e,hd,hL,hA⟩:=h
 exact ⟨a,cap,ps,e,hd,hL.below hb,fun p hp=>(hA p hp).below hb⟩

theorem UssAt.shape {w:World} {v:Value} {ds:List (List UndoD)} (h:UssAt w v ds):∃ a cap,v=.slice a ds.length cap:=by
 obtain ⟨a,cap,_,e,_⟩:=h
 exact ⟨a,cap,e⟩

theorem UssAt.at {w:World} {a:Option Addr} {n cap:Nat} {ds:List (List UndoD)} (h:UssAt w (.slice a n cap) ds) (i:Nat) (hi:i < ds.length) :
  ∃ b off aa cc,a=some ⟨b,off,none⟩∧b < w.heap.size∧w.cell? ⟨b,off + i,none⟩=some (.slice aa (ds.getD i []).length cc)∧UndoRow w aa (ds.getD i []):=by
 obtain ⟨a',cap',ps,e,hd,hL,hA⟩:=h
 simp only [Value.slice.injEq] at e
 obtain ⟨rfl,_,_⟩:=e
 have hl:ps.length=ds.length:=by rw [← hd];simp
 have h1:=usCells_get ps i (by omega)
 have hp:(ps.getD i uspNo).d=ds.getD i []:=by
  rw [← hd]
  simp [List.getD,show i < ps.length by omega]
 have hm:ps.getD i uspNo∈ps:=by simp [List.getD,show i < ps.length by omega]
 rcases hL with h | ⟨b,off,ha,hlt,hc⟩
 ·have:=usCells_length ps
  rw [h] at this
  simp at this
  omega
 ·have hAA:=hA _ hm
  rw [hp] at hAA
  refine ⟨b,off,(ps.getD i uspNo).a,(ps.getD i uspNo).cap,ha,hlt,?_,hAA⟩
  rw [hc _ _ h1]
  simp only [USP.sl,hp]

/-- v is a slice of lists, all of whose memory lies in blocks from lo up to hi, and is its own. -/
def OwnUss (lo hi:Nat) (w:World) (v:Value) (ds:List (List UndoD)):Prop:=
 ∃ g cap ps,v=.slice (some ⟨g,0,none⟩) ds.length cap∧g < hi∧ps.map USP.d=ds∧w.ownsRow lo 110 1 (.slice (some ⟨g,0,none⟩) ds.length cap) ds.length (usCells ps) ∧
  ∀ p∈ps,w.ownsRow lo 193 3 p.sl p.d.length (undoCells p.d)∧∀ k,p.sl.ownBlock=some k→k < hi∧k≠g

theorem OwnUss.row {lo hi:Nat} {w:World} {v:Value} {ds:List (List UndoD)} (h:OwnUss lo hi w v ds):UssAt w v ds:=by
 obtain ⟨g,cap,ps,e,_,hd,ho,hp⟩:=h
 exact ⟨_,cap,ps,e,hd,Lies.own ho,fun p hm=>Lies.own (hp p hm).1⟩

theorem OwnUss.below {lo hi:Nat} {w w' : World} {v:Value} {ds:List (List UndoD)} (h:OwnUss lo hi w v ds) (hb:Below w.heap.size w w'):OwnUss lo hi w' v ds:=by
 obtain ⟨g,cap,ps,e,hg,hd,ho,hp⟩:=h
 exact ⟨g,cap,ps,e,hg,hd,own_below ho hb,fun p hm=>⟨own_below (hp p hm).1 hb,(hp p hm).2⟩⟩

theorem OwnUss.only {lo hi lo' hi' : Nat} {w w' : World} {v:Value} {ds:List (List UndoD)} (h:OwnUss lo hi w v ds) (ho:Only lo' hi' w w') (hh:hi' ≤ lo):OwnUss lo hi w' v ds:=by
 obtain ⟨g,cap,ps,e,hg,hd,o,hp⟩:=h
 exact ⟨g,cap,ps,e,hg,hd,own_only o ho hh,fun p hm=>⟨own_only (hp p hm).1 ho hh,(hp p hm).2⟩⟩

end Go.Proofs.YthmcgflmejofbaaGreatDoor
namespace Go.Proofs.YthmcgflmejofbaaGreatDoor
open Go.RowKit
set_option maxRecDepth 100000
end Go.Proofs.YthmcgflmejofbaaGreatDoor
namespace Go.Proofs.YthmcgflmejofbaaGreatDoor
open Go.RowKit Go.Maps Go.Sort Go.Shelf
set_option maxRecDepth 100000
theorem ShelfAt.under {w w' : World} {B b:Nat} {xs:List ItemD} (h:ShelfAt w b xs) (hb:Below B w w') (hlt:b < B):ShelfAt w' b xs:=by
 obtain ⟨es,clock,hh,r⟩:=h
 exact ⟨es,clock,(hb.block b hlt).trans hh,r⟩

theorem only_cell {w w' : World} {lo hi b j:Nat} {v:Value} (h:w.cell? ⟨b,j,none⟩=some v) (ho:Only lo hi w w') (hb:b < lo∨hi≤b):w'.cell? ⟨b,j,none⟩=some v:=by
 have hlt:=World.block_lt_of_cell? w _ h
 have e:=ho.block b hlt hb
 simp only [World.cell?] at h ⊢
 rw [e]
 exact h

theorem undoCells_snoc (xs:List UndoD) (z:UndoD):undoCells (xs ++ [z])=undoCells xs ++ [.int .i64 z.key,.bool z.was,.int .i64 z.val]:=by simp [undoCells,UndoD.cells]

theorem unR_cons (xs:List ItemD) (a:ActD) (r:List ActD):unR xs (a :: r)=(if a.kind=4 then [] else [unA xs a]) ++ unR (actN xs a) r:=rfl

set_option maxRecDepth 100000 in
set_option maxHeartbeats 2000000 in
theorem undosOf_any (sb:Nat) (xs:List ItemD) (ta:Option Addr) (tc:Nat) (zs:List ActD) (w:World) (h:ShelfAt w sb xs) (h8:xs.length≤8) (g:Good xs) (ht:ActRow w ta zs) (hap:∀ b off,ta=some ⟨b,off,none⟩→b≠sb) (hz4:zs.length≤4) (hact:∀ a∈zs,actF a=0) (hrun:(runA xs zs).1=0) :
  Calls Tryz.prog 171 #[.map (some sb),.slice ta zs.length tc] w fun e w' => ∃ b c,e=.returned (.slice b (unR xs zs).length c) ∧
   w'.ownsRow w.heap.size 193 3 (.slice b (unR xs zs).length c) (unR xs zs).length (undoCells (unR xs zs))∧Only sb (sb + 1) w w' := by
 obtain ⟨i0,hi,hz0,hz1,hz2⟩:=info_parts infoUndo
 have hsb:=h.lt
 have HA:Hid (∀ a∈zs,actF a=0):=hact
 have HR0:Hid ((runA xs zs).1=0):=hrun
 clear hact hrun
 go_enter Tryz.func171,Tryz.ntmps171
 go_wp2
 go_loopw [5,12] (fun v j wr=>∃ (k:Nat) (cur:List ItemD) (D:List UndoD),k≤zs.length∧j=.int .i64 k∧ShelfAt wr sb cur∧cur.length≤8∧D.length≤k∧Hid (Good cur∧(runA cur (zs.drop k)).1=0∧unR xs zs=D ++ unR cur (zs.drop k))∧wr.ownsRow w.heap.size 193 3 v D.length (undoCells D)∧Only sb (sb + 1) w wr) (fun _ j _=>zs.length - (intOf j).toNat)
 case atStart=>exact ⟨0,xs,[],Nat.zero_le _,rfl,h,h8,Nat.zero_le _,⟨g,by simpa using HR0.out,by simp⟩,World.ownsRow_nil _ _ _ _,Only.refl _ _ _⟩
 case round=>
  obtain ⟨k,cur,D,hk,rfl,hS,hc8,hD,HG,ho,hO⟩:=hrel
  obtain ⟨a1,c1,rfl⟩:=own_shape ho
  have hsz:w.heap.size≤wr.heap.size:=hO.size
  by_cases hlt:k < zs.length
  ·obtain ⟨b,off,rfl,hbs,hc0,hc1,hc2⟩:=ht.at k hlt
   have hne:=hap b off rfl
   replace hc0:=only_cell hc0 hO (by omega)
   replace hc1:=only_cell hc1 hO (by omega)
   replace hc2:=only_cell hc2 hO (by omega)
   have haz:=HA.out (zs.getD k actNo) (by simp [List.getD,hlt])
   obtain ⟨_,hy20,_⟩:=actF_zero haz
   have hrun:=HG.out.2.1
   have hun:=HG.out.2.2
   rw [drop_act hlt,runA_cons] at hrun
   rw [drop_act hlt,unR_cons] at hun
   have hF:actC cur (zs.getD k actNo)=0:=by
    by_cases hF:actC cur (zs.getD k actNo)=0
    ·exact hF
    ·rw [if_neg hF] at hrun;exact absurd hrun hF
   rw [if_pos hF] at hrun
   obtain ⟨hn8,hng⟩:=act_good hc8 HG.out.1 haz hF
   have hdo:=fun w h=>do_any sb cur (zs.getD k actNo).kind (zs.getD k actNo).key (zs.getD k actNo).val w h hc8 HG.out.1 haz
   change ∀ w h,Calls _ _ _ _ fun e w' => e=.returned (.int .i64 (actC cur (zs.getD k actNo)))∧(actC cur (zs.getD k actNo)=0→ShelfAt w' sb (actN cur (zs.getD k actNo)))∧_ at hdo
   rw [hF] at hdo
   have HN:Hid (Good (actN cur (zs.getD k actNo))∧(runA (actN cur (zs.getD k actNo)) (zs.drop (k + 1))).1=0):=⟨hng,hrun⟩
   have HU:Hid (unR xs zs=D ++ ((if (zs.getD k actNo).kind=4 then [] else [unA cur (zs.getD k actNo)]) ++ unR (actN cur (zs.getD k actNo)) (zs.drop (k + 1)))):=hun
   clear hrun hun hng haz HG hF
   generalize actN cur (zs.getD k actNo)=nx at hdo HN HU hn8
   generalize zs.getD k actNo=z at hc0 hc1 hc2 hdo HU hy20
   obtain ⟨z0,z1,z2⟩:=z
   dsimp only at hc0 hc1 hc2 hdo HU hy20
   have hS1:ShelfAt (wr.alloc (.cells #[.int .i64 z0,.int .i64 z1,.int .i64 z2] 135)) sb cur:=hS.below (by go_grown)
   have hB1:Below wr.heap.size wr (wr.alloc (.cells #[.int .i64 z0,.int .i64 z1,.int .i64 z2] 135)):=by go_grown
   have Bz:=Blk.new wr 135 #[.int .i64 z0,.int .i64 z1,.int .i64 z2]
   by_cases h4:z0=4
   ·subst h4
    have HU' : Hid (unR xs zs=D ++ unR nx (zs.drop (k + 1))):=by
     show _=_
     simpa using HU.out
    have hn4:((4:Int) != 4)=false:=by decide
    go_wp2_with fail
    refine (hdo _ hS1).mono ?_
    rintro e w3 ⟨rfl,hS3,hO3⟩
    have RR:Hid (_∧_∧_):=⟨hS3 trivial,own_only (own_below ho hB1) hO3 hsb,(hO.trans (Only.of_below hB1)).trans hO3⟩
    clear hS3 ho hO hO3 hdo hS hS1 hB1 Bz hc0 hc1 hc2
    go_wp2
    go_roundw
    case rel=>exact ⟨k + 1,nx,D,by omega,by go_num,RR.out.1,hn8,by omega,⟨HN.out.1,HN.out.2,HU'.out⟩,RR.out.2.1,RR.out.2.2⟩
    case measure=>simp [intOf];omega
   ·have HU' : Hid (unR xs zs=(D ++ [⟨z1,hasI cur z1,valI cur z1⟩]) ++ unR nx (zs.drop (k + 1))):=by
     have:=HU.out
     rw [if_neg h4] at this
     show _=_
     simpa [unA] using this
    have hn4:(z0 != 4)=true:=by simpa using h4
    have hlook:∀ (w:World) (_:ShelfAt w sb cur) (ops:Array Oper) (rest:List Oper) (o:Oper) (a:Act) (Q:Exit→Act→World→Prop) (hg:o.guard=none) (m x:Operand) (hop:o.op=Op.lookup 132 m x true) (hm:a.eval m=.map (some sb)) (hx:a.eval x=.int .i64 z1) (hK:wpList Tryz.prog ops Q rest (a.put o.dst (.tuple #[.int .i64 (valI cur z1),.bool (hasI cur z1)])) w),wpList Tryz.prog ops Q (o :: rest) a w:=
     fun w h ops rest o a Q hg m x hop hm hx hK=>wpList_shelf_ok w hg m x hop sb cur hm h z1 hx (by omega) hK
    clear h4 HU
    generalize valI cur z1=c at hlook HU'
    generalize hasI cur z1=t at hlook HU'
    have ho2:((wr.alloc (.cells #[.int .i64 z0,.int .i64 z1,.int .i64 z2] 135)).alloc (.cells #[.int .i64 z1,.bool t,.int .i64 c] 193)).ownsRow w.heap.size 193 3 (.slice a1 D.length c1) D.length (undoCells D):=own_below (own_below ho hB1) (by go_grown)
    have hB2:Below wr.heap.size wr ((wr.alloc (.cells #[.int .i64 z0,.int .i64 z1,.int .i64 z2] 135)).alloc (.cells #[.int .i64 z1,.bool t,.int .i64 c] 193)):=by go_grown
    have Bz2:=Bz.below (w' := (wr.alloc (.cells #[.int .i64 z0,.int .i64 z1,.int .i64 z2] 135)).alloc (.cells #[.int .i64 z1,.bool t,.int .i64 c] 193)) (by go_grown)
    have hnz:=own_not3 ho (b:=wr.heap.size) (Or.inr (Nat.le_refl _))
    go_wp2_with (first | (at_lookup;refine hlook _ hS1 _ _ _ _ _ rfl _ _ rfl rfl rfl ?_) | (at_builtin;refine wpList_append_own _ rfl _ _ 110 rfl w.heap.size 193 i0 (.agg #[.int .i64 0,.bool false,.int .i64 0]) 3 24 Tryz.underlying110 hi hz0 hz1 hz2 rfl (by decide) _ D.length (undoCells D) rfl ho2 ⟨wr.heap.size + 1,0,none⟩ 1 1 [.int .i64 z1,.bool t,.int .i64 c] rfl rfl ?c1 ?c2 ?c3 ?c4 ?c5 ?_))
    all_goals try (case c1=>intro j u hj;match j,hj with | 0,hj=>simp at hj;subst hj;simp [Addr.add] | 1,hj=>simp at hj;subst hj;simp [Addr.add] | 2,hj=>simp at hj;subst hj;simp [Addr.add])
    all_goals try (case c2=>first | rfl | exact ⟨rfl,rfl,rfl⟩ | (intro u hu;simp at hu;rcases hu with rfl | rfl | rfl <;> rfl))
    all_goals try (case c3=>unfold maxLen;omega)
    all_goals try (case c4=>omega)
    all_goals try (case c5=>first | omega | (simp;omega))
    intro v' w3 hown hgrow _
    obtain ⟨a2,c2,rfl⟩:=own_shape hown
    have hW3:Below w.heap.size wr w3:=(hB2.mono hsz).grown hgrow (by simp;omega) (fun j hj=>(ho.lt j hj).1)
    have hO3:Only sb (sb + 1) w w3:=⟨hW3.os.trans hO.os,hW3.tape.trans hO.tape,hW3.output.trans hO.output,Nat.le_trans hO.size hW3.size,fun j hj hc=>(hW3.block j hj).trans (hO.block j hj hc)⟩
    have hS3:=hS.under hW3 hsb
    have Bz3:=Bz2.grown hgrow hnz
    have q0:=Bz3.cell 0 _ rfl
    have q1:=Bz3.cell 1 _ rfl
    have q2:=Bz3.cell 2 _ rfl
    clear hgrow ho2 hB2 Bz2 hS1 hB1 Bz hc0 hc1 hc2 hO ho hS Bz3 hW3 hlook
    go_wp2_with fail
    refine (hdo _ hS3).mono ?_
    rintro e w4 ⟨rfl,hS4,hO4⟩
    have RR:Hid (_∧_∧_):=⟨hS4 trivial,own_only hown hO4 hsb,hO3.trans hO4⟩
    clear hS4 hown hO4 hO3 hdo q0 q1 q2 hS3
    go_wp2
    go_roundw
    case rel=>
     refine ⟨k + 1,nx,D ++ [⟨z1,t,c⟩],by omega,by go_num,RR.out.1,hn8,by simp;omega,⟨HN.out.1,HN.out.2,HU'.out⟩,?_,RR.out.2.2⟩
     rw [undoCells_snoc]
     simpa using RR.out.2.1
    case measure=>simp [intOf];omega
  ·have hkl:k=zs.length:=by omega
   subst hkl
   have e:unR xs zs=D:=by
    have:=HG.out.2.2
    rw [List.drop_length] at this
    simpa [unR] using this
   go_wp2
   go_ret
   rw [e]
   exact ⟨_,_,rfl,ho,hO⟩

end Go.Proofs.YthmcgflmejofbaaGreatDoor
namespace Go.Proofs.YthmcgflmejofbaaGreatDoor
open Go.RowKit
set_option maxRecDepth 100000
/-- No two of the three lie in one block. -/
structure Apart3 (s1 s2 s3:Value):Prop where
 a12:s1.ownBlock=none∨s1.ownBlock≠s2.ownBlock
 a13:s1.ownBlock=none∨s1.ownBlock≠s3.ownBlock
 a23:s2.ownBlock=none∨s2.ownBlock≠s3.ownBlock

theorem ne_swap {s t:Value} (h:s.ownBlock=none∨s.ownBlock≠t.ownBlock):t.ownBlock=none∨t.ownBlock≠s.ownBlock:=by
 rcases h with h | h
 ·cases ht:t.ownBlock with
  | none=>exact Or.inl rfl
  | some g=>right;rw [h];simp
 ·exact Or.inr (fun e=>h e.symm)

structure OwnA (lo hi:Nat) (w:World) (s1 s2 s3:Value) (cs vs:List Int) (ys:List ItemD):Prop where
 o1:OwnS 2 1 lo hi w s1 cs.length (cs.map (Value.int .i64))
 o2:OwnS 2 1 lo hi w s2 vs.length (vs.map (Value.int .i64))
 o3:OwnS 121 2 lo hi w s3 ys.length (itemCells ys)
 ap:Apart3 s1 s2 s3

/-- The three lists read so. -/
structure RowA (w:World) (a1 a2 a3:Option Addr) (cs vs:List Int) (ys:List ItemD):Prop where
 r1:Row .i64 w a1 cs
 r2:Row .i64 w a2 vs
 r3:ItemRow w a3 ys

theorem OwnA.below {lo hi:Nat} {w w' : World} {s1 s2 s3:Value} {cs vs:List Int} {ys:List ItemD} (h:OwnA lo hi w s1 s2 s3 cs vs ys) (hb:Below w.heap.size w w'):OwnA lo hi w' s1 s2 s3 cs vs ys:=⟨h.o1.below hb,h.o2.below hb,h.o3.below hb,h.ap⟩

theorem OwnA.only {lo hi lo' hi' : Nat} {w w' : World} {s1 s2 s3:Value} {cs vs:List Int} {ys:List ItemD} (h:OwnA lo hi w s1 s2 s3 cs vs ys) (ho:Only lo' hi' w w') (hh:hi' ≤ lo):OwnA lo hi w' s1 s2 s3 cs vs ys:=⟨h.o1.only ho hh,h.o2.only ho hh,h.o3.only ho hh,h.ap⟩

theorem OwnA.row {lo hi c1 c2 c3:Nat} {w:World} {a1 a2 a3:Option Addr} {cs vs:List Int} {ys:List ItemD} (h:OwnA lo hi w (.slice a1 cs.length c1) (.slice a2 vs.length c2) (.slice a3 ys.length c3) cs vs ys):RowA w a1 a2 a3 cs vs ys:=⟨Row.own h.o1.1,Row.own h.o2.1,Lies.own h.o3.1⟩

theorem RowA.below {w w' : World} {a1 a2 a3:Option Addr} {cs vs:List Int} {ys:List ItemD} (h:RowA w a1 a2 a3 cs vs ys) (hb:Below w.heap.size w w'):RowA w' a1 a2 a3 cs vs ys:=⟨h.r1.below hb,h.r2.below hb,h.r3.below hb⟩

/-- The three lists hold their marks. -/
structure MarkA (w:World) (a1 a2 a3:Option Addr) (n1 n2 n3:Nat):Prop where
 r1:Row .i64 w a1 (marks .i64 1 n1)
 r2:Row .i64 w a2 (marks .i64 (1 + (n1:Int)) n2)
 r3:ItemRow w a3 (itemMarks (1 + (n1:Int) + (n2:Int)) n3)

theorem MarkA.below {w w' : World} {a1 a2 a3:Option Addr} {n1 n2 n3:Nat} (h:MarkA w a1 a2 a3 n1 n2 n3) (hb:Below w.heap.size w w'):MarkA w' a1 a2 a3 n1 n2 n3:=⟨h.r1.below hb,h.r2.below hb,h.r3.below hb⟩

end Go.Proofs.YthmcgflmejofbaaGreatDoor
namespace Go.Proofs.YthmcgflmejofbaaGreatDoor
open Go.RowKit
set_option maxRecDepth 100000
structure OwnU (lo hi:Nat) (w:World) (s1 s2:Value) (us:List UndoD) (ys:List ItemD):Prop where
 o1:OwnS 193 3 lo hi w s1 us.length (undoCells us)
 o2:OwnS 121 2 lo hi w s2 ys.length (itemCells ys)
 ap:s1.ownBlock=none∨s1.ownBlock≠s2.ownBlock

/-- The two lists read so. -/
structure RowU (w:World) (a1 a2:Option Addr) (us:List UndoD) (ys:List ItemD):Prop where
 r1:UndoRow w a1 us
 r2:ItemRow w a2 ys

theorem OwnU.below {lo hi:Nat} {w w' : World} {s1 s2:Value} {us:List UndoD} {ys:List ItemD} (h:OwnU lo hi w s1 s2 us ys) (hb:Below w.heap.size w w'):OwnU lo hi w' s1 s2 us ys:=⟨h.o1.below hb,h.o2.below hb,h.ap⟩

theorem OwnU.only {lo hi lo' hi' : Nat} {w w' : World} {s1 s2:Value} {us:List UndoD} {ys:List ItemD} (h:OwnU lo hi w s1 s2 us ys) (ho:Only lo' hi' w w') (hh:hi' ≤ lo):OwnU lo hi w' s1 s2 us ys:=⟨h.o1.only ho hh,h.o2.only ho hh,h.ap⟩

theorem OwnU.row {lo hi c1 c2:Nat} {w:World} {a1 a2:Option Addr} {us:List UndoD} {ys:List ItemD} (h:OwnU lo hi w (.slice a1 us.length c1) (.slice a2 ys.length c2) us ys):RowU w a1 a2 us ys:=⟨Lies.own h.o1.1,Lies.own h.o2.1⟩

theorem RowU.below {w w' : World} {a1 a2:Option Addr} {us:List UndoD} {ys:List ItemD} (h:RowU w a1 a2 us ys) (hb:Below w.heap.size w w'):RowU w' a1 a2 us ys:=⟨h.r1.below hb,h.r2.below hb⟩

/-- The two lists hold their marks. -/
structure MarkU (w:World) (a1 a2:Option Addr) (n1 n2:Nat):Prop where
 r1:UndoRow w a1 (undoMarks 1 n1)
 r2:ItemRow w a2 (itemMarks (1 + ((n1 * 3:Nat):Int)) n2)

theorem MarkU.below {w w' : World} {a1 a2:Option Addr} {n1 n2:Nat} (h:MarkU w a1 a2 n1 n2) (hb:Below w.heap.size w w'):MarkU w' a1 a2 n1 n2:=⟨h.r1.below hb,h.r2.below hb⟩

end Go.Proofs.YthmcgflmejofbaaGreatDoor
