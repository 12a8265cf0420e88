/- Texts joined, with what the laws reach alone. -/
import Derived.Test.YtpmkhnakgeillaaGreatDoorSNAX
import Derived.Test.YtpmkhnakgeillaaGreatDoorSNAK
set_option linter.unusedVariables false
set_option linter.unusedSimpArgs false
namespace Go.Proofs.YtpmkhnakgeillaaGreatDoor
open Go.RowKit Go.Maps
open Go.BigFrame
set_option maxRecDepth 100000
def runU (xs:List ItemD) (zs:List ActD):List UndoD:=if (runA xs zs).1=0 then unR xs zs else []

theorem lies_same {w w' : World} {a:Option Addr} {cs:List Value} (h:Lies w a cs) (hs:w.heap.size≤w'.heap.size) (hb:∀ x off,a=some ⟨x,off,none⟩→x < w.heap.size→w'.heap[x]? = w.heap[x]?):Lies w' a cs:=by
 rcases h with h | ⟨b,off,ha,hlt,hc⟩
 ·exact Or.inl h
 ·refine Or.inr ⟨b,off,ha,by omega,?_⟩
  intro i x hx
  have h1:=hc i x hx
  have e:=hb b off ha hlt
  simp only [World.cell?] at h1 ⊢
  rw [e]
  exact h1

theorem ItB.below {w w' : World} {a:Option Addr} (h:ItB w a) (hb:Below w.heap.size w w'):ItB w' a:=by
 intro x off e
 obtain ⟨cs,hc⟩:=h x off e
 exact ⟨cs,(hb.block x (Array.getElem?_eq_some_iff.1 hc).1).trans hc⟩

set_option maxRecDepth 100000 in
set_option maxHeartbeats 8000000 in
theorem l4Do_any (a:Option Addr) (cap:Nat) (xs:List ItemD) (tb tof:Nat) (i s q:Int) (ta:Option Addr) (tc:Nat) (zs:List ActD) (w:World) (h:ItemRow w a xs) (hN:Nice a xs.length cap) (hB:Box4 w tb tof (.int .i64 i) (.int .i64 s) (.int .i64 q) (.slice ta zs.length tc)) (ht:ActRow w ta zs) (h8:xs.length≤8) (g:Good xs) (h2:txnF i s q zs=0) :
  Calls Tryz.prog 237 #[.slice a xs.length cap,.pointer (some ⟨tb,tof,none⟩)] w fun e w' => ∃ b c b2 c2,e=.returned (.agg #[.int .i64 (runA xs zs).1,.int .i64 (runV xs zs),.slice b (runU xs zs).length c,.slice b2 (runR xs zs).length c2]) ∧
   OwnU w.heap.size w'.heap.size w' (.slice b (runU xs zs).length c) (.slice b2 (runR xs zs).length c2) (runU xs zs) (runR xs zs)∧Below w.heap.size w w' := by
 obtain ⟨⟨hz1,hz4⟩,hact⟩:=acts_of_F h2
 have HA:Hid (∀ a∈zs,actF a=0):=hact
 clear h2 hact
 have B0:=Blk.new w 231 #[.int .i64 0,.int .i64 0,.slice none 0 0,.slice none 0 0]
 have hbE:Below w.heap.size w ((w.alloc (.cells #[.int .i64 0,.int .i64 0,.slice none 0 0,.slice none 0 0] 231)).alloc (.cells #[] 119)):=by go_grown
 have B0E:=B0.below (w' := (w.alloc (.cells #[.int .i64 0,.int .i64 0,.slice none 0 0,.slice none 0 0] 231)).alloc (.cells #[] 119)) (by go_grown)
 have hoE:=World.ownsRow_lit (size:=2) (e:=119) (w.alloc (.cells #[.int .i64 0,.int .i64 0,.slice none 0 0,.slice none 0 0] 231)) #[] 0 (Nat.le_refl _) (by decide) rfl
 rw [World.size_alloc] at hoE
 have hcp:∀ (ops:Array Oper) (rest:List Oper) (o:Oper) (act:Act) (Q:Exit→Act→World→Prop) (hgd:o.guard=none) (sx x:Operand) (ho:o.op=.call { callee:=.builtin .append,args:=#[sx,x],argTypes:=#[26,26] }) (hs:act.eval sx=.slice (some ⟨w.heap.size + 1,0,none⟩) 0 0) (hx:act.eval x=.slice a xs.length cap)
   (hh:∀ a' c' w',w'.ownsRow (w.heap.size + 1) 119 2 (.slice a' xs.length c') xs.length (itemCells xs)→Below (w.heap.size + 1) ((w.alloc (.cells #[.int .i64 0,.int .i64 0,.slice none 0 0,.slice none 0 0] 231)).alloc (.cells #[] 119)) w' → wpList Tryz.prog ops Q rest (act.put o.dst (.slice a' xs.length c')) w'),wpList Tryz.prog ops Q (o :: rest) act ((w.alloc (.cells #[.int .i64 0,.int .i64 0,.slice none 0 0,.slice none 0 0] 231)).alloc (.cells #[] 119)):=
  fun ops rest o act Q hgd sx x ho hs hx hh=>wpList_copy_items _ hgd sx x ho (w.heap.size + 1) (w.heap.size + 1) hs hoE a xs cap hx (h.below hbE) hN (by omega) (by simp) hh
 go_enter Tryz.func237,Tryz.ntmps237
 go_wp2_with (at_builtin;refine hcp _ _ _ _ _ rfl _ _ rfl rfl rfl ?_)
 intro a1 c1 w2 hown hbc
 have hb2:Below w.heap.size w w2:=hbE.trans (hbc.mono (by omega))
 replace B0:Blk w2 _ _ _:=(hbc.block _ (by omega)).trans B0E
 clear hcp hoE B0E hbE hbc
 have hs0:w.heap.size < w2.heap.size:=B0.lt
 have hN1:=nice_own hown
 have hb3:Below w2.heap.size w2 (w2.alloc (.cells #[.int .i64 0,.int .i64 0,.slice none 0 0,.slice none 0 0] 231)):=by go_grown
 have hR1:ItemRow (w2.alloc (.cells #[.int .i64 0,.int .i64 0,.slice none 0 0,.slice none 0 0] 231)) a1 xs:=Lies.below (Lies.own hown) hb3
 have hI1:=(own_itb hown).below hb3
 have Bo:=Blk.new w2 231 #[.int .i64 0,.int .i64 0,.slice none 0 0,.slice none 0 0]
 replace B0:=B0.below hb3
 have hb03:Below w.heap.size w (w2.alloc (.cells #[.int .i64 0,.int .i64 0,.slice none 0 0,.slice none 0 0] 231)):=hb2.trans (hb3.mono hb2.size)
 obtain ⟨b0,b1,b2,b3⟩:=hB
 have htl:tb < w.heap.size:=World.block_lt_of_cell? w ⟨tb,tof,none⟩ b0
 have c3:(w2.alloc (.cells #[.int .i64 0,.int .i64 0,.slice none 0 0,.slice none 0 0] 231)).cell? ⟨tb,tof + 3,none⟩=_:=(hb03.cell (p:=⟨tb,tof + 3,none⟩) htl).trans b3
 have ht3:ActRow (w2.alloc (.cells #[.int .i64 0,.int .i64 0,.slice none 0 0,.slice none 0 0] 231)) ta zs:=ht.below hb03
 have hrow:∀ k,k < zs.length→∃ b off,ta=some ⟨b,off,none⟩∧b < w.heap.size:=fun k hk=>by
  obtain ⟨b,off,e,hbs,_⟩:=ht.at k hk
  exact ⟨b,off,e,hbs⟩
 have hs3:(w2.alloc (.cells #[.int .i64 0,.int .i64 0,.slice none 0 0,.slice none 0 0] 231)).heap.size=w2.heap.size + 1:=by simp
 clear h hN hown b0 b1 b2 b3 ht hb3 hb2
 go_wp2
 generalize w2.alloc (.cells #[.int .i64 0,.int .i64 0,.slice none 0 0,.slice none 0 0] 231)=w3 at *
 generalize w2.heap.size=bo at *
 go_loopw [5,7] (fun v j wr=>∃ (k:Nat) (cur:List ItemD) (b:Option Addr) (c:Nat) (D:List UndoD) (ua:Option Addr) (uc:Nat),k≤zs.length∧j=.int .i64 k∧v=.slice b cur.length c∧ItemRow wr b cur∧Nice b cur.length c∧ItB wr b∧cur.length≤8∧D.length≤k∧Hid (Good cur∧runA cur (zs.drop k)=runA xs zs∧unR xs zs=D ++ unR cur (zs.drop k)) ∧
  Blk wr bo 231 #[.int .i64 0,.int .i64 0,.slice ua D.length uc,.slice none 0 0]∧wr.ownsRow (bo + 1) 216 3 (.slice ua D.length uc) D.length (undoCells D)∧Below bo w3 wr) (fun _ j _=>zs.length - (intOf j).toNat)
 case atStart=>exact ⟨0,xs,a1,c1,[],none,0,Nat.zero_le _,rfl,rfl,hR1,hN1,hI1,h8,Nat.zero_le _,⟨g,by simp,by simp⟩,Bo,World.ownsRow_nil _ _ _ _,Below.refl _ _⟩
 case round=>
  clear hR1 hN1 hI1 Bo
  obtain ⟨k,cur,nb,nc,D,ua,uc,hk,rfl,rfl,hR,hNn,hI,hc8,hD,HG,Bo,ho,hb⟩:=hrel
  have hszr:=Bo.lt
  have d3:wr.cell? ⟨tb,tof + 3,none⟩=_:=(hb.cell (p:=⟨tb,tof + 3,none⟩) (by dsimp only;omega)).trans c3
  by_cases hlt:k < zs.length
  ·obtain ⟨b,off,rfl,hbs⟩:=hrow k hlt
   obtain ⟨b',off',e,_,hc0,hc1,hc2⟩:=ht3.at k hlt
   simp only [Option.some.injEq,Addr.mk.injEq,and_true] at e
   obtain ⟨rfl,rfl⟩:=e
   replace hc0:wr.cell? ⟨b,off + k * 3,none⟩=_:=(hb.cell (p:=⟨b,off + k * 3,none⟩) (by dsimp only;omega)).trans hc0
   replace hc1:wr.cell? ⟨b,off + k * 3 + 1,none⟩=_:=(hb.cell (p:=⟨b,off + k * 3 + 1,none⟩) (by dsimp only;omega)).trans hc1
   replace hc2:wr.cell? ⟨b,off + k * 3 + 2,none⟩=_:=(hb.cell (p:=⟨b,off + k * 3 + 2,none⟩) (by dsimp only;omega)).trans hc2
   have haz:=HA.out (zs.getD k actNo) (by simp [List.getD,hlt])
   have hdo:=fun w hR c0 c1 c2=>l3Act_any nb nc cur b (off + k * 3) (zs.getD k actNo).kind (zs.getD k actNo).key (zs.getD k actNo).val w hR hNn hc8 HG.out.1 haz c0 c1 c2
   change ∀ w hR c0 c1 c2,Calls _ _ _ _ (ActPost w nb cur (zs.getD k actNo)) at hdo
   unfold ActPost at hdo
   have HD:Hid (runA cur (zs.getD k actNo :: zs.drop (k + 1))=runA xs zs∧unR xs zs=D ++ unR cur (zs.getD k actNo :: zs.drop (k + 1))):=by
    have:=HG.out.2
    rw [drop_act hlt] at this
    exact this
   have HU0:Hid (unA cur (zs.getD k actNo)=⟨(zs.getD k actNo).key,hasI cur (zs.getD k actNo).key,valI cur (zs.getD k actNo).key⟩):=rfl
   have hvl:=fun w h=>l3Value_any nb nc cur (zs.getD k actNo).key w h (by omega)
   have hat0:=fun w h=>l3At_any nb nc cur (zs.getD k actNo).key w h (by omega)
   by_cases hF:actC cur (zs.getD k actNo)=0
   ·obtain ⟨hn8,hng⟩:=act_good hc8 HG.out.1 haz hF
    have HR2:Hid (Good (actN cur (zs.getD k actNo))∧runA (actN cur (zs.getD k actNo)) (zs.drop (k + 1))=runA xs zs∧unR xs zs=D ++ ((if (zs.getD k actNo).kind=4 then [] else [unA cur (zs.getD k actNo)]) ++ unR (actN cur (zs.getD k actNo)) (zs.drop (k + 1)))):=⟨hng,by
     have:=HD.out.1
     rw [runA_cons,if_pos hF] at this
     exact this,by
     have:=HD.out.2
     rw [unR_cons] at this
     exact this⟩
    rw [hF] at hdo
    clear HD hng HG haz hF
    generalize actN cur (zs.getD k actNo)=nx at hdo HR2 hn8
    generalize unA cur (zs.getD k actNo)=uu at HR2 HU0
    generalize zs.getD k actNo=z at hc0 hc1 hc2 hdo HR2 HU0 hvl hat0
    obtain ⟨z0,z1,z2⟩:=z
    dsimp only at hc0 hc1 hc2 hdo HR2 HU0 hvl hat0
    generalize valI cur z1=c at hvl HU0 hat0
    generalize hasI cur z1=t at HU0 hat0
    go_wp2_with fail
    refine region_vals [some 31,some 32,some 33,some 34,some 35,some 36,some 37,some 38,some 39,some 40,some 41,some 42,some 43,some 44,some 45,some 46,some 47,some 48,some 9] (fun vs w' => ∃ (r:Int) (bx:Nat),vs=[.pointer (some ⟨b,off + k * 3,none⟩),.pointer (some ⟨b,off + k * 3,none⟩),.pointer (some ⟨b,off + k * 3 + 1,none⟩),.int .i64 z1,.slice nb cur.length nc,.pointer (some ⟨b,off + k * 3,none⟩),.pointer (some ⟨b,off + k * 3,none⟩),.pointer (some ⟨b,off + k * 3 + 1,none⟩),.int .i64 z1,.int .i64 r,.bool t,.slice nb cur.length nc,.pointer (some ⟨b,off + k * 3,none⟩),.pointer (some ⟨b,off + k * 3,none⟩),.pointer (some ⟨b,off + k * 3 + 1,none⟩),.int .i64 z1,.int .i64 c,.agg #[.int .i64 z1,.bool t,.int .i64 c],.pointer (some ⟨bx,0,none⟩)]∧wr.heap.size≤bx∧Blk w' bx 216 #[.int .i64 z1,.bool t,.int .i64 c]∧Below wr.heap.size wr w') ?_ ?_
    ·cases t
     ·have hat:∀ (w:World) (h:ItemRow w nb cur),Calls Tryz.prog 267 #[.slice nb cur.length nc,.int .i64 z1] w fun e w' => e=.returned (.int .i64 (-1))∧w' = w:=fun w h=>(hat0 w h).mono (by
       rintro e w' ⟨r,rfl,⟨rfl,_⟩ | ⟨j,rfl,_,hq,_⟩,rfl⟩
       ·exact ⟨rfl,rfl⟩
       ·exact absurd hq (by decide))
      have hW:Below wr.heap.size wr wr.drew:=(Below.refl _ _).drew
      have hne:Nonempty (Lat wr):=⟨⟨wr,Below.refl _ _⟩⟩
      have kk1:=lat_cell hc1
      refine text_begin (S:=fun w' => ∃ u:Lat wr,w' = u.val) (by kernel_rfl) ?_
      refine seg_range [(0,9),(11,5)] 6 (by kernel_rfl) (by kernel_rfl) (by kernel_rfl) (by kernel_rfl) (by kernel_rfl) ⟨⟨_,hW⟩,rfl⟩ ?_
      simp only [pickR,List.toList_toArray,List.flatMap_cons,List.flatMap_nil,List.drop_succ_cons,List.drop_zero,List.take_succ_cons,List.take_zero,List.cons_append,List.nil_append,List.append_nil]
      repeat go_big_quiet_step (fail)
      refine wpQuiet_nil ?_
      clear kk1
      have hsd:Hid (wr.drew.heap.size=wr.heap.size):=(rfl:wr.drew.heap.size=wr.heap.size)
      generalize wr.drew=wd at hW hsd ⊢
      refine two_at 9 18 5 (by kernel_rfl) (by kernel_rfl) ?_ ?_
      ·skip
       refine op_call 9 (some 40) 267 #[.slice nb cur.length nc,.int .i64 z1] (by kernel_rfl) (by kernel_rfl) (by kernel_rfl) ?_
       refine (hat _ (hR.below hW)).mono ?_
       rintro e w' ⟨rfl,hw⟩
       replace hw:=hw.symm
       subst hw
       refine ⟨_,rfl,⟨⟨_,hW⟩,rfl⟩,?_⟩
       try simp only [Act.put,List.getElem_toArray,List.getElem_cons_succ,List.getElem_cons_zero,List.setIfInBounds_toArray,List.set_cons_zero,List.set_cons_succ]
       refine seg_range [(10,1)] 4 (by kernel_rfl) (by kernel_rfl) (by kernel_rfl) (by kernel_rfl) (by kernel_rfl) ⟨⟨_,hW⟩,rfl⟩ ?_
       simp only [pickR,List.toList_toArray,List.flatMap_cons,List.flatMap_nil,List.drop_succ_cons,List.drop_zero,List.take_succ_cons,List.take_zero,List.cons_append,List.nil_append,List.append_nil]
       repeat go_big_quiet_step (fail)
       refine wpQuiet_nil ?_
       refine two_at 16 18 3 (by kernel_rfl) (by kernel_rfl) ?_ ?_
       ·skip
        refine op_call 16 (some 47) 230 #[.slice nb cur.length nc,.int .i64 z1] (by kernel_rfl) (by kernel_rfl) (by kernel_rfl) ?_
        refine (hvl _ (hR.below hW)).mono ?_
        rintro e w' ⟨rfl,hw⟩
        replace hw:=hw.symm
        subst hw
        refine ⟨_,rfl,⟨⟨_,hW⟩,rfl⟩,?_⟩
        simp only [Act.put,List.getElem_toArray,List.getElem_cons_succ,List.getElem_cons_zero,List.setIfInBounds_toArray,List.set_cons_zero,List.set_cons_succ]
        refine seg_range [(17,1)] 2 (by kernel_rfl) (by kernel_rfl) (by kernel_rfl) (by kernel_rfl) (by kernel_rfl) ⟨⟨_,hW⟩,rfl⟩ ?_
        simp only [pickR,List.toList_toArray,List.flatMap_cons,List.flatMap_nil,List.drop_succ_cons,List.drop_zero,List.take_succ_cons,List.take_zero,List.cons_append,List.nil_append,List.append_nil]
        repeat go_big_quiet_step (fail)
        refine wpQuiet_nil ?_
        refine one_at 18 _ 1 (by kernel_rfl) rfl (by kernel_rfl) ?_
        have hbz:Below wd.heap.size wd (wd.alloc (.cells #[.int .i64 0,.bool false,.int .i64 0] 216)):=by go_grown
        have Bz:=Blk.new wd 216 #[.int .i64 0,.bool false,.int .i64 0]
        replace hW:=hW.trans (hbz.mono hW.size)
        clear hbz
        go_wp2
        refine ThenGo.to ⟨⟨⟨_,hW⟩,rfl⟩,?_⟩
        generalize wd.alloc (.cells #[.int .i64 0,.bool false,.int .i64 0] 216)=Y at hW Bz ⊢
        refine one_at 19 _ 0 (by kernel_rfl) rfl (by kernel_rfl) ?_
        have p0:=Bz.cell 0 _ rfl
        have p1:=Bz.cell 1 _ rfl
        have p2:=Bz.cell 2 _ rfl
        have f0:=Bz.frozen 0
        have f1:=Bz.frozen 1
        have f2:=Bz.frozen 2
        have hW9:=((hW.setCell (p:=⟨wd.heap.size,0,none⟩) (by have:=hsd.out;dsimp only;omega) (.int .i64 z1)).setCell (p:=⟨wd.heap.size,1,none⟩) (by have:=hsd.out;dsimp only;omega) (.bool false)).setCell (p:=⟨wd.heap.size,2,none⟩) (by have:=hsd.out;dsimp only;omega) (.int .i64 c)
        have Bz9:=((Bz.set 0 (.int .i64 z1)).set 1 (.bool false)).set 2 (.int .i64 c)
        clear hne
        go_wp2
        refine ThenGo.to ⟨⟨⟨_,hW9⟩,rfl⟩,?_⟩
        refine text_end (by kernel_rfl) ?_
        exact ⟨rfl,_,⟨-1,_,rfl,(by have:=hsd.out;omega),Bz9,hW9⟩,by kernel_rfl⟩
       ·skip
        refine op_one 18 _ rfl ?_
        have hbz:Below wd.heap.size wd (wd.alloc (.cells #[.int .i64 0,.bool false,.int .i64 0] 216)):=by go_grown
        have Bz:=Blk.new wd 216 #[.int .i64 0,.bool false,.int .i64 0]
        replace hW:=hW.trans (hbz.mono hW.size)
        clear hbz
        go_wp2
        refine ThenGo.to ⟨⟨⟨_,hW⟩,rfl⟩,?_⟩
        generalize wd.alloc (.cells #[.int .i64 0,.bool false,.int .i64 0] 216)=Y at hW Bz ⊢
        refine call_at 16 (some 47) 230 #[.slice nb cur.length nc,.int .i64 z1] 2 (by kernel_rfl) (by kernel_rfl) (by kernel_rfl) (by kernel_rfl) (by kernel_rfl) ?_
        refine (hvl _ (hR.below hW)).mono ?_
        rintro e w' ⟨rfl,hw⟩
        replace hw:=hw.symm
        subst hw
        refine ⟨_,rfl,⟨⟨_,hW⟩,rfl⟩,?_⟩
        simp only [Act.put,List.getElem_toArray,List.getElem_cons_succ,List.getElem_cons_zero,List.setIfInBounds_toArray,List.set_cons_zero,List.set_cons_succ]
        refine seg_range [(17,1)] 1 (by kernel_rfl) (by kernel_rfl) (by kernel_rfl) (by kernel_rfl) (by kernel_rfl) ⟨⟨_,hW⟩,rfl⟩ ?_
        simp only [pickR,List.toList_toArray,List.flatMap_cons,List.flatMap_nil,List.drop_succ_cons,List.drop_zero,List.take_succ_cons,List.take_zero,List.cons_append,List.nil_append,List.append_nil]
        repeat go_big_quiet_step (fail)
        refine wpQuiet_nil ?_
        refine one_at 19 _ 0 (by kernel_rfl) rfl (by kernel_rfl) ?_
        have p0:=Bz.cell 0 _ rfl
        have p1:=Bz.cell 1 _ rfl
        have p2:=Bz.cell 2 _ rfl
        have f0:=Bz.frozen 0
        have f1:=Bz.frozen 1
        have f2:=Bz.frozen 2
        have hW9:=((hW.setCell (p:=⟨wd.heap.size,0,none⟩) (by have:=hsd.out;dsimp only;omega) (.int .i64 z1)).setCell (p:=⟨wd.heap.size,1,none⟩) (by have:=hsd.out;dsimp only;omega) (.bool false)).setCell (p:=⟨wd.heap.size,2,none⟩) (by have:=hsd.out;dsimp only;omega) (.int .i64 c)
        have Bz9:=((Bz.set 0 (.int .i64 z1)).set 1 (.bool false)).set 2 (.int .i64 c)
        clear hne
        go_wp2
        refine ThenGo.to ⟨⟨⟨_,hW9⟩,rfl⟩,?_⟩
        refine text_end (by kernel_rfl) ?_
        exact ⟨rfl,_,⟨-1,_,rfl,(by have:=hsd.out;omega),Bz9,hW9⟩,by kernel_rfl⟩
      ·skip
       refine op_one 18 _ rfl ?_
       have hbz:Below wd.heap.size wd (wd.alloc (.cells #[.int .i64 0,.bool false,.int .i64 0] 216)):=by go_grown
       have Bz:=Blk.new wd 216 #[.int .i64 0,.bool false,.int .i64 0]
       replace hW:=hW.trans (hbz.mono hW.size)
       clear hbz
       go_wp2
       refine ThenGo.to ⟨⟨⟨_,hW⟩,rfl⟩,?_⟩
       generalize wd.alloc (.cells #[.int .i64 0,.bool false,.int .i64 0] 216)=Y at hW Bz ⊢
       refine call_at 9 (some 40) 267 #[.slice nb cur.length nc,.int .i64 z1] 4 (by kernel_rfl) (by kernel_rfl) (by kernel_rfl) (by kernel_rfl) (by kernel_rfl) ?_
       refine (hat _ (hR.below hW)).mono ?_
       rintro e w' ⟨rfl,hw⟩
       replace hw:=hw.symm
       subst hw
       refine ⟨_,rfl,⟨⟨_,hW⟩,rfl⟩,?_⟩
       try simp only [Act.put,List.getElem_toArray,List.getElem_cons_succ,List.getElem_cons_zero,List.setIfInBounds_toArray,List.set_cons_zero,List.set_cons_succ]
       refine seg_range [(10,1)] 3 (by kernel_rfl) (by kernel_rfl) (by kernel_rfl) (by kernel_rfl) (by kernel_rfl) ⟨⟨_,hW⟩,rfl⟩ ?_
       simp only [pickR,List.toList_toArray,List.flatMap_cons,List.flatMap_nil,List.drop_succ_cons,List.drop_zero,List.take_succ_cons,List.take_zero,List.cons_append,List.nil_append,List.append_nil]
       repeat go_big_quiet_step (fail)
       refine wpQuiet_nil ?_
       refine call_at 16 (some 47) 230 #[.slice nb cur.length nc,.int .i64 z1] 2 (by kernel_rfl) (by kernel_rfl) (by kernel_rfl) (by kernel_rfl) (by kernel_rfl) ?_
       refine (hvl _ (hR.below hW)).mono ?_
       rintro e w' ⟨rfl,hw⟩
       replace hw:=hw.symm
       subst hw
       refine ⟨_,rfl,⟨⟨_,hW⟩,rfl⟩,?_⟩
       simp only [Act.put,List.getElem_toArray,List.getElem_cons_succ,List.getElem_cons_zero,List.setIfInBounds_toArray,List.set_cons_zero,List.set_cons_succ]
       refine seg_range [(17,1)] 1 (by kernel_rfl) (by kernel_rfl) (by kernel_rfl) (by kernel_rfl) (by kernel_rfl) ⟨⟨_,hW⟩,rfl⟩ ?_
       simp only [pickR,List.toList_toArray,List.flatMap_cons,List.flatMap_nil,List.drop_succ_cons,List.drop_zero,List.take_succ_cons,List.take_zero,List.cons_append,List.nil_append,List.append_nil]
       repeat go_big_quiet_step (fail)
       refine wpQuiet_nil ?_
       refine one_at 19 _ 0 (by kernel_rfl) rfl (by kernel_rfl) ?_
       have p0:=Bz.cell 0 _ rfl
       have p1:=Bz.cell 1 _ rfl
       have p2:=Bz.cell 2 _ rfl
       have f0:=Bz.frozen 0
       have f1:=Bz.frozen 1
       have f2:=Bz.frozen 2
       have hW9:=((hW.setCell (p:=⟨wd.heap.size,0,none⟩) (by have:=hsd.out;dsimp only;omega) (.int .i64 z1)).setCell (p:=⟨wd.heap.size,1,none⟩) (by have:=hsd.out;dsimp only;omega) (.bool false)).setCell (p:=⟨wd.heap.size,2,none⟩) (by have:=hsd.out;dsimp only;omega) (.int .i64 c)
       have Bz9:=((Bz.set 0 (.int .i64 z1)).set 1 (.bool false)).set 2 (.int .i64 c)
       clear hne
       go_wp2
       refine ThenGo.to ⟨⟨⟨_,hW9⟩,rfl⟩,?_⟩
       refine text_end (by kernel_rfl) ?_
       exact ⟨rfl,_,⟨-1,_,rfl,(by have:=hsd.out;omega),Bz9,hW9⟩,by kernel_rfl⟩
     ·have hat:∀ (w:World) (h:ItemRow w nb cur),Calls Tryz.prog 267 #[.slice nb cur.length nc,.int .i64 z1] w fun e w' => ∃ jj:Nat,e=.returned (.int .i64 jj)∧w' = w:=fun w h=>(hat0 w h).mono (by
       rintro e w' ⟨r,rfl,⟨_,hq,_⟩ | ⟨j,rfl,_,hq,_⟩,rfl⟩
       ·exact absurd hq (by decide)
       ·exact ⟨j,rfl,rfl⟩)
      have hW:Below wr.heap.size wr wr.drew:=(Below.refl _ _).drew
      have hne:Nonempty (Lat wr):=⟨⟨wr,Below.refl _ _⟩⟩
      have kk1:=lat_cell hc1
      refine text_begin (S:=fun w' => ∃ u:Lat wr,w' = u.val) (by kernel_rfl) ?_
      refine seg_range [(0,9),(11,5)] 6 (by kernel_rfl) (by kernel_rfl) (by kernel_rfl) (by kernel_rfl) (by kernel_rfl) ⟨⟨_,hW⟩,rfl⟩ ?_
      simp only [pickR,List.toList_toArray,List.flatMap_cons,List.flatMap_nil,List.drop_succ_cons,List.drop_zero,List.take_succ_cons,List.take_zero,List.cons_append,List.nil_append,List.append_nil]
      repeat go_big_quiet_step (fail)
      refine wpQuiet_nil ?_
      clear kk1
      have hsd:Hid (wr.drew.heap.size=wr.heap.size):=(rfl:wr.drew.heap.size=wr.heap.size)
      generalize wr.drew=wd at hW hsd ⊢
      refine two_at 9 18 5 (by kernel_rfl) (by kernel_rfl) ?_ ?_
      ·skip
       refine op_call 9 (some 40) 267 #[.slice nb cur.length nc,.int .i64 z1] (by kernel_rfl) (by kernel_rfl) (by kernel_rfl) ?_
       refine (hat _ (hR.below hW)).mono ?_
       rintro e w' ⟨jj,rfl,hw⟩
       replace hw:=hw.symm
       subst hw
       refine ⟨_,rfl,⟨⟨_,hW⟩,rfl⟩,?_⟩
       try simp only [Act.put,List.getElem_toArray,List.getElem_cons_succ,List.getElem_cons_zero,List.setIfInBounds_toArray,List.set_cons_zero,List.set_cons_succ]
       refine seg_range [(10,1)] 4 (by kernel_rfl) (by kernel_rfl) (by kernel_rfl) (by kernel_rfl) (by kernel_rfl) ⟨⟨_,hW⟩,rfl⟩ ?_
       simp only [pickR,List.toList_toArray,List.flatMap_cons,List.flatMap_nil,List.drop_succ_cons,List.drop_zero,List.take_succ_cons,List.take_zero,List.cons_append,List.nil_append,List.append_nil]
       repeat go_big_quiet_step (fail)
       refine wpQuiet_nil ?_
       refine two_at 16 18 3 (by kernel_rfl) (by kernel_rfl) ?_ ?_
       ·skip
        refine op_call 16 (some 47) 230 #[.slice nb cur.length nc,.int .i64 z1] (by kernel_rfl) (by kernel_rfl) (by kernel_rfl) ?_
        refine (hvl _ (hR.below hW)).mono ?_
        rintro e w' ⟨rfl,hw⟩
        replace hw:=hw.symm
        subst hw
        refine ⟨_,rfl,⟨⟨_,hW⟩,rfl⟩,?_⟩
        simp only [Act.put,List.getElem_toArray,List.getElem_cons_succ,List.getElem_cons_zero,List.setIfInBounds_toArray,List.set_cons_zero,List.set_cons_succ]
        refine seg_range [(17,1)] 2 (by kernel_rfl) (by kernel_rfl) (by kernel_rfl) (by kernel_rfl) (by kernel_rfl) ⟨⟨_,hW⟩,rfl⟩ ?_
        simp only [pickR,List.toList_toArray,List.flatMap_cons,List.flatMap_nil,List.drop_succ_cons,List.drop_zero,List.take_succ_cons,List.take_zero,List.cons_append,List.nil_append,List.append_nil]
        repeat go_big_quiet_step (fail)
        refine wpQuiet_nil ?_
        refine one_at 18 _ 1 (by kernel_rfl) rfl (by kernel_rfl) ?_
        have hbz:Below wd.heap.size wd (wd.alloc (.cells #[.int .i64 0,.bool false,.int .i64 0] 216)):=by go_grown
        have Bz:=Blk.new wd 216 #[.int .i64 0,.bool false,.int .i64 0]
        replace hW:=hW.trans (hbz.mono hW.size)
        clear hbz
        go_wp2
        refine ThenGo.to ⟨⟨⟨_,hW⟩,rfl⟩,?_⟩
        generalize wd.alloc (.cells #[.int .i64 0,.bool false,.int .i64 0] 216)=Y at hW Bz ⊢
        refine one_at 19 _ 0 (by kernel_rfl) rfl (by kernel_rfl) ?_
        have p0:=Bz.cell 0 _ rfl
        have p1:=Bz.cell 1 _ rfl
        have p2:=Bz.cell 2 _ rfl
        have f0:=Bz.frozen 0
        have f1:=Bz.frozen 1
        have f2:=Bz.frozen 2
        have hW9:=((hW.setCell (p:=⟨wd.heap.size,0,none⟩) (by have:=hsd.out;dsimp only;omega) (.int .i64 z1)).setCell (p:=⟨wd.heap.size,1,none⟩) (by have:=hsd.out;dsimp only;omega) (.bool true)).setCell (p:=⟨wd.heap.size,2,none⟩) (by have:=hsd.out;dsimp only;omega) (.int .i64 c)
        have Bz9:=((Bz.set 0 (.int .i64 z1)).set 1 (.bool true)).set 2 (.int .i64 c)
        clear hne
        go_wp2
        refine ThenGo.to ⟨⟨⟨_,hW9⟩,rfl⟩,?_⟩
        refine text_end (by kernel_rfl) ?_
        exact ⟨rfl,_,⟨(jj:Int),_,rfl,(by have:=hsd.out;omega),Bz9,hW9⟩,by kernel_rfl⟩
       ·skip
        refine op_one 18 _ rfl ?_
        have hbz:Below wd.heap.size wd (wd.alloc (.cells #[.int .i64 0,.bool false,.int .i64 0] 216)):=by go_grown
        have Bz:=Blk.new wd 216 #[.int .i64 0,.bool false,.int .i64 0]
        replace hW:=hW.trans (hbz.mono hW.size)
        clear hbz
        go_wp2
        refine ThenGo.to ⟨⟨⟨_,hW⟩,rfl⟩,?_⟩
        generalize wd.alloc (.cells #[.int .i64 0,.bool false,.int .i64 0] 216)=Y at hW Bz ⊢
        refine call_at 16 (some 47) 230 #[.slice nb cur.length nc,.int .i64 z1] 2 (by kernel_rfl) (by kernel_rfl) (by kernel_rfl) (by kernel_rfl) (by kernel_rfl) ?_
        refine (hvl _ (hR.below hW)).mono ?_
        rintro e w' ⟨rfl,hw⟩
        replace hw:=hw.symm
        subst hw
        refine ⟨_,rfl,⟨⟨_,hW⟩,rfl⟩,?_⟩
        simp only [Act.put,List.getElem_toArray,List.getElem_cons_succ,List.getElem_cons_zero,List.setIfInBounds_toArray,List.set_cons_zero,List.set_cons_succ]
        refine seg_range [(17,1)] 1 (by kernel_rfl) (by kernel_rfl) (by kernel_rfl) (by kernel_rfl) (by kernel_rfl) ⟨⟨_,hW⟩,rfl⟩ ?_
        simp only [pickR,List.toList_toArray,List.flatMap_cons,List.flatMap_nil,List.drop_succ_cons,List.drop_zero,List.take_succ_cons,List.take_zero,List.cons_append,List.nil_append,List.append_nil]
        repeat go_big_quiet_step (fail)
        refine wpQuiet_nil ?_
        refine one_at 19 _ 0 (by kernel_rfl) rfl (by kernel_rfl) ?_
        have p0:=Bz.cell 0 _ rfl
        have p1:=Bz.cell 1 _ rfl
        have p2:=Bz.cell 2 _ rfl
        have f0:=Bz.frozen 0
        have f1:=Bz.frozen 1
        have f2:=Bz.frozen 2
        have hW9:=((hW.setCell (p:=⟨wd.heap.size,0,none⟩) (by have:=hsd.out;dsimp only;omega) (.int .i64 z1)).setCell (p:=⟨wd.heap.size,1,none⟩) (by have:=hsd.out;dsimp only;omega) (.bool true)).setCell (p:=⟨wd.heap.size,2,none⟩) (by have:=hsd.out;dsimp only;omega) (.int .i64 c)
        have Bz9:=((Bz.set 0 (.int .i64 z1)).set 1 (.bool true)).set 2 (.int .i64 c)
        clear hne
        go_wp2
        refine ThenGo.to ⟨⟨⟨_,hW9⟩,rfl⟩,?_⟩
        refine text_end (by kernel_rfl) ?_
        exact ⟨rfl,_,⟨(jj:Int),_,rfl,(by have:=hsd.out;omega),Bz9,hW9⟩,by kernel_rfl⟩
      ·skip
       refine op_one 18 _ rfl ?_
       have hbz:Below wd.heap.size wd (wd.alloc (.cells #[.int .i64 0,.bool false,.int .i64 0] 216)):=by go_grown
       have Bz:=Blk.new wd 216 #[.int .i64 0,.bool false,.int .i64 0]
       replace hW:=hW.trans (hbz.mono hW.size)
       clear hbz
       go_wp2
       refine ThenGo.to ⟨⟨⟨_,hW⟩,rfl⟩,?_⟩
       generalize wd.alloc (.cells #[.int .i64 0,.bool false,.int .i64 0] 216)=Y at hW Bz ⊢
       refine call_at 9 (some 40) 267 #[.slice nb cur.length nc,.int .i64 z1] 4 (by kernel_rfl) (by kernel_rfl) (by kernel_rfl) (by kernel_rfl) (by kernel_rfl) ?_
       refine (hat _ (hR.below hW)).mono ?_
       rintro e w' ⟨jj,rfl,hw⟩
       replace hw:=hw.symm
       subst hw
       refine ⟨_,rfl,⟨⟨_,hW⟩,rfl⟩,?_⟩
       try simp only [Act.put,List.getElem_toArray,List.getElem_cons_succ,List.getElem_cons_zero,List.setIfInBounds_toArray,List.set_cons_zero,List.set_cons_succ]
       refine seg_range [(10,1)] 3 (by kernel_rfl) (by kernel_rfl) (by kernel_rfl) (by kernel_rfl) (by kernel_rfl) ⟨⟨_,hW⟩,rfl⟩ ?_
       simp only [pickR,List.toList_toArray,List.flatMap_cons,List.flatMap_nil,List.drop_succ_cons,List.drop_zero,List.take_succ_cons,List.take_zero,List.cons_append,List.nil_append,List.append_nil]
       repeat go_big_quiet_step (fail)
       refine wpQuiet_nil ?_
       refine call_at 16 (some 47) 230 #[.slice nb cur.length nc,.int .i64 z1] 2 (by kernel_rfl) (by kernel_rfl) (by kernel_rfl) (by kernel_rfl) (by kernel_rfl) ?_
       refine (hvl _ (hR.below hW)).mono ?_
       rintro e w' ⟨rfl,hw⟩
       replace hw:=hw.symm
       subst hw
       refine ⟨_,rfl,⟨⟨_,hW⟩,rfl⟩,?_⟩
       simp only [Act.put,List.getElem_toArray,List.getElem_cons_succ,List.getElem_cons_zero,List.setIfInBounds_toArray,List.set_cons_zero,List.set_cons_succ]
       refine seg_range [(17,1)] 1 (by kernel_rfl) (by kernel_rfl) (by kernel_rfl) (by kernel_rfl) (by kernel_rfl) ⟨⟨_,hW⟩,rfl⟩ ?_
       simp only [pickR,List.toList_toArray,List.flatMap_cons,List.flatMap_nil,List.drop_succ_cons,List.drop_zero,List.take_succ_cons,List.take_zero,List.cons_append,List.nil_append,List.append_nil]
       repeat go_big_quiet_step (fail)
       refine wpQuiet_nil ?_
       refine one_at 19 _ 0 (by kernel_rfl) rfl (by kernel_rfl) ?_
       have p0:=Bz.cell 0 _ rfl
       have p1:=Bz.cell 1 _ rfl
       have p2:=Bz.cell 2 _ rfl
       have f0:=Bz.frozen 0
       have f1:=Bz.frozen 1
       have f2:=Bz.frozen 2
       have hW9:=((hW.setCell (p:=⟨wd.heap.size,0,none⟩) (by have:=hsd.out;dsimp only;omega) (.int .i64 z1)).setCell (p:=⟨wd.heap.size,1,none⟩) (by have:=hsd.out;dsimp only;omega) (.bool true)).setCell (p:=⟨wd.heap.size,2,none⟩) (by have:=hsd.out;dsimp only;omega) (.int .i64 c)
       have Bz9:=((Bz.set 0 (.int .i64 z1)).set 1 (.bool true)).set 2 (.int .i64 c)
       clear hne
       go_wp2
       refine ThenGo.to ⟨⟨⟨_,hW9⟩,rfl⟩,?_⟩
       refine text_end (by kernel_rfl) ?_
       exact ⟨rfl,_,⟨(jj:Int),_,rfl,(by have:=hsd.out;omega),Bz9,hW9⟩,by kernel_rfl⟩
    rintro vs w6 ⟨r,bx,rfl,hbx,Bu,hW⟩
    simp only [putAll,Act.put,List.setIfInBounds_toArray,List.set_cons_zero,List.set_cons_succ]
    clear hat0 hvl
    have hwl:b < wr.heap.size:=by omega
    replace hc0:=(hW.cell (p:=⟨b,off + k * 3,none⟩) hwl).trans hc0
    replace hc1:=(hW.cell (p:=⟨b,off + k * 3 + 1,none⟩) hwl).trans hc1
    replace hc2:=(hW.cell (p:=⟨b,off + k * 3 + 2,none⟩) hwl).trans hc2
    have hsz6:=hW.size
    go_wp2_with fail
    refine (hdo _ (hR.below hW) hc0 hc1 hc2).mono ?_
    rintro e w7 ⟨b5,n5,c5,rfl,hN5,hb5⟩
    obtain ⟨rfl,hR5,hNc5,hI5⟩:=hN5 (by first | trivial | rfl)
    have hbl:b < w6.heap.size:=by omega
    replace hc0:=(hb5.cell (p:=⟨b,off + k * 3,none⟩) hbl).trans hc0
    replace hI:=(hI.below hW).below hb5
    have hI7:ItB w7 b5:=by
     rcases hI5 with e | h
     ·rw [e];exact hI
     ·exact h
    replace Bo:=(Bo.below hW).below hb5
    have hbu:=Bu.lt
    replace Bu:=Bu.below hb5
    replace ho:=own_below (own_below ho hW) hb5
    replace hb:=(hb.trans (hW.mono (by omega))).trans (hb5.mono (by omega))
    have hsz7:=hb5.size
    clear hI5 hN5 hdo hW hb5 hR d3 hI hc1 hc2
    by_cases h4:z0=4
    ·subst h4
     have hn4:((4:Int) != 4)=false:=by decide
     have HR3:Hid (Good nx∧runA nx (zs.drop (k + 1))=runA xs zs∧unR xs zs=D ++ unR nx (zs.drop (k + 1))):=⟨HR2.out.1,HR2.out.2.1,by simpa using HR2.out.2.2⟩
     have RR:Hid (_∧_∧_∧_∧_∧_):=⟨hR5,hNc5,hI7,Bo,ho,hb⟩
     clear hR5 hNc5 hI7 Bo ho hb Bu
     go_wp2
     go_roundw
     case rel=>exact ⟨k + 1,nx,b5,c5,D,ua,uc,by omega,by go_num,rfl,RR.out.1,RR.out.2.1,RR.out.2.2.1,hn8,by omega,HR3,RR.out.2.2.2.1,RR.out.2.2.2.2.1,RR.out.2.2.2.2.2⟩
     case measure=>simp [intOf];omega
    ·have hn4:(z0 != 4)=true:=by simpa using h4
     have HR3:Hid (Good nx∧runA nx (zs.drop (k + 1))=runA xs zs∧unR xs zs=(D ++ [⟨z1,t,c⟩]) ++ unR nx (zs.drop (k + 1))):=⟨HR2.out.1,HR2.out.2.1,by
      have:=HR2.out.2.2
      rw [if_neg h4,HU0.out] at this
      simpa using this⟩
     clear HR2 HU0 h4
     obtain ⟨i0,hi,hz0,hz1,hz2⟩:=info_parts infoUndo
     have hbA:Below w7.heap.size w7 (w7.alloc (.cells #[.int .i64 z1,.bool t,.int .i64 c] 216)):=by go_grown
     have ho2:=own_below ho hbA
     have BoA:=Bo.below hbA
     have hR5A:=hR5.below hbA
     have hI7A:=hI7.below hbA
     have hsA:(w7.alloc (.cells #[.int .i64 z1,.bool t,.int .i64 c] 216)).heap.size=w7.heap.size + 1:=by simp
     have p2:=Bo.cell 2 _ rfl
     have q0:=Bu.cell 0 _ rfl
     have q1:=Bu.cell 1 _ rfl
     have q2:=Bu.cell 2 _ rfl
     go_wp2_with (at_builtin;refine wpList_append_own _ rfl _ _ 161 rfl (bo + 1) 216 i0 (.agg #[.int .i64 0,.bool false,.int .i64 0]) 3 24 Tryz.underlying161 hi hz0 hz1 hz2 rfl (by decide) _ D.length (undoCells D) rfl ho2 ⟨w7.heap.size,0,none⟩ 1 1 [.int .i64 z1,.bool t,.int .i64 c] rfl rfl ?c1 ?c2 ?c3 ?c4 ?c5 ?_)
     all_goals try (case c1=>intro j u hj;match j,hj with | 0,hj=>simp at hj;subst hj;simp [Addr.add] | 1,hj=>simp at hj;subst hj;simp [Addr.add] | 2,hj=>simp at hj;subst hj;simp [Addr.add])
     all_goals try (case c2=>first | rfl | exact ⟨rfl,rfl,rfl⟩ | (intro u hu;simp at hu;rcases hu with rfl | rfl | rfl <;> rfl))
     all_goals try (case c3=>unfold maxLen;omega)
     all_goals try (case c4=>omega)
     all_goals try (case c5=>first | omega | (simp;omega))
     intro v' w8 hown hgrow _
     obtain ⟨a2,c2,rfl⟩:=own_shape hown
     clear p2 q0 q1 q2
     have hnbo:=own_not3 ho2 (b:=bo) (Or.inl (by omega))
     have Bo8:=BoA.grown hgrow hnbo
     have hW8:Below bo w7 w8:=(hbA.mono (by omega)).grown hgrow (by omega) (fun j hj=>by have:=(ho2.lt j hj).1;omega)
     have hlv:∀ x off,b5=some ⟨x,off,none⟩→x < (w7.alloc (.cells #[.int .i64 z1,.bool t,.int .i64 c] 216)).heap.size→w8.heap[x]? = (w7.alloc (.cells #[.int .i64 z1,.bool t,.int .i64 c] 216)).heap[x]? := by
      intro x off e hx
      refine hgrow.block x hx ?_
      intro e2
      obtain ⟨cs,hcs⟩:=hI7A x off e
      rcases ho2.2 with ⟨hv,_⟩ | ⟨g',cap',cur',hv,_,hh,_⟩
      ·rw [hv] at e2;simp [Value.ownBlock] at e2
      ·rw [hv] at e2
       simp only [Value.ownBlock,Option.some.injEq] at e2
       subst e2
       rw [hcs] at hh
       simp at hh
     have hR8:ItemRow w8 b5 nx:=lies_same hR5A hgrow.size hlv
     have hI8:ItB w8 b5:=by
      intro x off e
      obtain ⟨cs,hcs⟩:=hI7A x off e
      exact ⟨cs,(hlv x off e (Array.getElem?_eq_some_iff.1 hcs).1).trans hcs⟩
     have hxb:∀ x off,b5=some ⟨x,off,none⟩→x≠bo:=by
      intro x off e e2
      obtain ⟨cs,hcs⟩:=hI8 x off e
      subst e2
      have:=Bo8
      unfold Blk at this
      rw [hcs] at this
      simp at this
     have hR9:ItemRow (w8.setCell ⟨bo,2,none⟩ (.slice a2 (D.length + 1) c2)) b5 nx:=lies_same hR8 (by simp [World.setCell]) (fun x off e hx=>Below.heap_setCell _ _ _ _ (by have:=hxb x off e;dsimp only;omega))
     have hI9:ItB (w8.setCell ⟨bo,2,none⟩ (.slice a2 (D.length + 1) c2)) b5:=by
      intro x off e
      obtain ⟨cs,hcs⟩:=hI8 x off e
      exact ⟨cs,(Below.heap_setCell _ _ _ _ (by have:=hxb x off e;dsimp only;omega)).trans hcs⟩
     have Bo9:=Bo8.set 2 (.slice a2 (D.length + 1) c2)
     have ho9:=ownsRow_setCell_below (a:=⟨bo,2,none⟩) hown (by dsimp only;omega) (.slice a2 (D.length + 1) c2)
     have hb9:=(hb.trans hW8).setCell (p:=⟨bo,2,none⟩) (Nat.le_refl _) (.slice a2 (D.length + 1) c2)
     have p2:=Bo8.cell 2 _ rfl
     have f2:=Bo8.frozen 2
     have RR:Hid (_∧_∧_∧_∧_∧_):=⟨hR9,hNc5,hI9,Bo9,ho9,hb9⟩
     clear hR9 hNc5 hI9 Bo9 ho9 hb9 hR8 hI8 hR5 hI7 Bo ho hb Bu BoA ho2 hR5A hI7A hW8 hlv hxb hgrow hown Bo8 hbA hnbo
     go_wp2
     go_roundw
     case rel=>
      refine ⟨k + 1,nx,b5,c5,D ++ [⟨z1,t,c⟩],a2,c2,by omega,by go_num,rfl,RR.out.1,RR.out.2.1,RR.out.2.2.1,hn8,by simp;omega,HR3,?_,?_,RR.out.2.2.2.2.2⟩
      ·simpa using RR.out.2.2.2.1
      ·rw [undoCells_snoc]
       simpa using RR.out.2.2.2.2.1
     case measure=>simp [intOf];omega
   ·have HE:Hid ((runA xs zs).1=actC cur (zs.getD k actNo)∧runR xs zs=[]∧runV xs zs=0∧runU xs zs=[]):=by
     have hh:=HD.out.1
     rw [runA_cons,if_neg hF] at hh
     refine ⟨by rw [← hh],?_,?_,?_⟩
     ·unfold runR;rw [← hh];exact if_neg hF
     ·unfold runV;rw [← hh];exact if_neg hF
     ·unfold runU;rw [← hh];exact if_neg hF
    have hne:(actC cur (zs.getD k actNo) != 0)=true:=by simpa using hF
    clear HD HG haz hF HU0
    generalize actC cur (zs.getD k actNo)=rc at hdo HE hne
    generalize zs.getD k actNo=z at hc0 hc1 hc2 hdo hvl hat0
    obtain ⟨z0,z1,z2⟩:=z
    dsimp only at hc0 hc1 hc2 hdo hvl hat0
    generalize valI cur z1=c at hvl hat0
    generalize hasI cur z1=t at hat0
    have hneR:=hne
    clear hne
    go_wp2_with fail
    refine region_vals [some 31,some 32,some 33,some 34,some 35,some 36,some 37,some 38,some 39,some 40,some 41,some 42,some 43,some 44,some 45,some 46,some 47,some 48,some 9] (fun vs w' => ∃ (r:Int) (bx:Nat),vs=[.pointer (some ⟨b,off + k * 3,none⟩),.pointer (some ⟨b,off + k * 3,none⟩),.pointer (some ⟨b,off + k * 3 + 1,none⟩),.int .i64 z1,.slice nb cur.length nc,.pointer (some ⟨b,off + k * 3,none⟩),.pointer (some ⟨b,off + k * 3,none⟩),.pointer (some ⟨b,off + k * 3 + 1,none⟩),.int .i64 z1,.int .i64 r,.bool t,.slice nb cur.length nc,.pointer (some ⟨b,off + k * 3,none⟩),.pointer (some ⟨b,off + k * 3,none⟩),.pointer (some ⟨b,off + k * 3 + 1,none⟩),.int .i64 z1,.int .i64 c,.agg #[.int .i64 z1,.bool t,.int .i64 c],.pointer (some ⟨bx,0,none⟩)]∧wr.heap.size≤bx∧Blk w' bx 216 #[.int .i64 z1,.bool t,.int .i64 c]∧Below wr.heap.size wr w') ?_ ?_
    ·cases t
     ·have hat:∀ (w:World) (h:ItemRow w nb cur),Calls Tryz.prog 267 #[.slice nb cur.length nc,.int .i64 z1] w fun e w' => e=.returned (.int .i64 (-1))∧w' = w:=fun w h=>(hat0 w h).mono (by
       rintro e w' ⟨r,rfl,⟨rfl,_⟩ | ⟨j,rfl,_,hq,_⟩,rfl⟩
       ·exact ⟨rfl,rfl⟩
       ·exact absurd hq (by decide))
      have hW:Below wr.heap.size wr wr.drew:=(Below.refl _ _).drew
      have hne:Nonempty (Lat wr):=⟨⟨wr,Below.refl _ _⟩⟩
      have kk1:=lat_cell hc1
      refine text_begin (S:=fun w' => ∃ u:Lat wr,w' = u.val) (by kernel_rfl) ?_
      refine seg_range [(0,9),(11,5)] 6 (by kernel_rfl) (by kernel_rfl) (by kernel_rfl) (by kernel_rfl) (by kernel_rfl) ⟨⟨_,hW⟩,rfl⟩ ?_
      simp only [pickR,List.toList_toArray,List.flatMap_cons,List.flatMap_nil,List.drop_succ_cons,List.drop_zero,List.take_succ_cons,List.take_zero,List.cons_append,List.nil_append,List.append_nil]
      repeat go_big_quiet_step (fail)
      refine wpQuiet_nil ?_
      clear kk1
      have hsd:Hid (wr.drew.heap.size=wr.heap.size):=(rfl:wr.drew.heap.size=wr.heap.size)
      generalize wr.drew=wd at hW hsd ⊢
      refine two_at 9 18 5 (by kernel_rfl) (by kernel_rfl) ?_ ?_
      ·skip
       refine op_call 9 (some 40) 267 #[.slice nb cur.length nc,.int .i64 z1] (by kernel_rfl) (by kernel_rfl) (by kernel_rfl) ?_
       refine (hat _ (hR.below hW)).mono ?_
       rintro e w' ⟨rfl,hw⟩
       replace hw:=hw.symm
       subst hw
       refine ⟨_,rfl,⟨⟨_,hW⟩,rfl⟩,?_⟩
       try simp only [Act.put,List.getElem_toArray,List.getElem_cons_succ,List.getElem_cons_zero,List.setIfInBounds_toArray,List.set_cons_zero,List.set_cons_succ]
       refine seg_range [(10,1)] 4 (by kernel_rfl) (by kernel_rfl) (by kernel_rfl) (by kernel_rfl) (by kernel_rfl) ⟨⟨_,hW⟩,rfl⟩ ?_
       simp only [pickR,List.toList_toArray,List.flatMap_cons,List.flatMap_nil,List.drop_succ_cons,List.drop_zero,List.take_succ_cons,List.take_zero,List.cons_append,List.nil_append,List.append_nil]
       repeat go_big_quiet_step (fail)
       refine wpQuiet_nil ?_
       refine two_at 16 18 3 (by kernel_rfl) (by kernel_rfl) ?_ ?_
       ·skip
        refine op_call 16 (some 47) 230 #[.slice nb cur.length nc,.int .i64 z1] (by kernel_rfl) (by kernel_rfl) (by kernel_rfl) ?_
        refine (hvl _ (hR.below hW)).mono ?_
        rintro e w' ⟨rfl,hw⟩
        replace hw:=hw.symm
        subst hw
        refine ⟨_,rfl,⟨⟨_,hW⟩,rfl⟩,?_⟩
        simp only [Act.put,List.getElem_toArray,List.getElem_cons_succ,List.getElem_cons_zero,List.setIfInBounds_toArray,List.set_cons_zero,List.set_cons_succ]
        refine seg_range [(17,1)] 2 (by kernel_rfl) (by kernel_rfl) (by kernel_rfl) (by kernel_rfl) (by kernel_rfl) ⟨⟨_,hW⟩,rfl⟩ ?_
        simp only [pickR,List.toList_toArray,List.flatMap_cons,List.flatMap_nil,List.drop_succ_cons,List.drop_zero,List.take_succ_cons,List.take_zero,List.cons_append,List.nil_append,List.append_nil]
        repeat go_big_quiet_step (fail)
        refine wpQuiet_nil ?_
        refine one_at 18 _ 1 (by kernel_rfl) rfl (by kernel_rfl) ?_
        have hbz:Below wd.heap.size wd (wd.alloc (.cells #[.int .i64 0,.bool false,.int .i64 0] 216)):=by go_grown
        have Bz:=Blk.new wd 216 #[.int .i64 0,.bool false,.int .i64 0]
        replace hW:=hW.trans (hbz.mono hW.size)
        clear hbz
        go_wp2
        refine ThenGo.to ⟨⟨⟨_,hW⟩,rfl⟩,?_⟩
        generalize wd.alloc (.cells #[.int .i64 0,.bool false,.int .i64 0] 216)=Y at hW Bz ⊢
        refine one_at 19 _ 0 (by kernel_rfl) rfl (by kernel_rfl) ?_
        have p0:=Bz.cell 0 _ rfl
        have p1:=Bz.cell 1 _ rfl
        have p2:=Bz.cell 2 _ rfl
        have f0:=Bz.frozen 0
        have f1:=Bz.frozen 1
        have f2:=Bz.frozen 2
        have hW9:=((hW.setCell (p:=⟨wd.heap.size,0,none⟩) (by have:=hsd.out;dsimp only;omega) (.int .i64 z1)).setCell (p:=⟨wd.heap.size,1,none⟩) (by have:=hsd.out;dsimp only;omega) (.bool false)).setCell (p:=⟨wd.heap.size,2,none⟩) (by have:=hsd.out;dsimp only;omega) (.int .i64 c)
        have Bz9:=((Bz.set 0 (.int .i64 z1)).set 1 (.bool false)).set 2 (.int .i64 c)
        clear hne
        go_wp2
        refine ThenGo.to ⟨⟨⟨_,hW9⟩,rfl⟩,?_⟩
        refine text_end (by kernel_rfl) ?_
        exact ⟨rfl,_,⟨-1,_,rfl,(by have:=hsd.out;omega),Bz9,hW9⟩,by kernel_rfl⟩
       ·skip
        refine op_one 18 _ rfl ?_
        have hbz:Below wd.heap.size wd (wd.alloc (.cells #[.int .i64 0,.bool false,.int .i64 0] 216)):=by go_grown
        have Bz:=Blk.new wd 216 #[.int .i64 0,.bool false,.int .i64 0]
        replace hW:=hW.trans (hbz.mono hW.size)
        clear hbz
        go_wp2
        refine ThenGo.to ⟨⟨⟨_,hW⟩,rfl⟩,?_⟩
        generalize wd.alloc (.cells #[.int .i64 0,.bool false,.int .i64 0] 216)=Y at hW Bz ⊢
        refine call_at 16 (some 47) 230 #[.slice nb cur.length nc,.int .i64 z1] 2 (by kernel_rfl) (by kernel_rfl) (by kernel_rfl) (by kernel_rfl) (by kernel_rfl) ?_
        refine (hvl _ (hR.below hW)).mono ?_
        rintro e w' ⟨rfl,hw⟩
        replace hw:=hw.symm
        subst hw
        refine ⟨_,rfl,⟨⟨_,hW⟩,rfl⟩,?_⟩
        simp only [Act.put,List.getElem_toArray,List.getElem_cons_succ,List.getElem_cons_zero,List.setIfInBounds_toArray,List.set_cons_zero,List.set_cons_succ]
        refine seg_range [(17,1)] 1 (by kernel_rfl) (by kernel_rfl) (by kernel_rfl) (by kernel_rfl) (by kernel_rfl) ⟨⟨_,hW⟩,rfl⟩ ?_
        simp only [pickR,List.toList_toArray,List.flatMap_cons,List.flatMap_nil,List.drop_succ_cons,List.drop_zero,List.take_succ_cons,List.take_zero,List.cons_append,List.nil_append,List.append_nil]
        repeat go_big_quiet_step (fail)
        refine wpQuiet_nil ?_
        refine one_at 19 _ 0 (by kernel_rfl) rfl (by kernel_rfl) ?_
        have p0:=Bz.cell 0 _ rfl
        have p1:=Bz.cell 1 _ rfl
        have p2:=Bz.cell 2 _ rfl
        have f0:=Bz.frozen 0
        have f1:=Bz.frozen 1
        have f2:=Bz.frozen 2
        have hW9:=((hW.setCell (p:=⟨wd.heap.size,0,none⟩) (by have:=hsd.out;dsimp only;omega) (.int .i64 z1)).setCell (p:=⟨wd.heap.size,1,none⟩) (by have:=hsd.out;dsimp only;omega) (.bool false)).setCell (p:=⟨wd.heap.size,2,none⟩) (by have:=hsd.out;dsimp only;omega) (.int .i64 c)
        have Bz9:=((Bz.set 0 (.int .i64 z1)).set 1 (.bool false)).set 2 (.int .i64 c)
        clear hne
        go_wp2
        refine ThenGo.to ⟨⟨⟨_,hW9⟩,rfl⟩,?_⟩
        refine text_end (by kernel_rfl) ?_
        exact ⟨rfl,_,⟨-1,_,rfl,(by have:=hsd.out;omega),Bz9,hW9⟩,by kernel_rfl⟩
      ·skip
       refine op_one 18 _ rfl ?_
       have hbz:Below wd.heap.size wd (wd.alloc (.cells #[.int .i64 0,.bool false,.int .i64 0] 216)):=by go_grown
       have Bz:=Blk.new wd 216 #[.int .i64 0,.bool false,.int .i64 0]
       replace hW:=hW.trans (hbz.mono hW.size)
       clear hbz
       go_wp2
       refine ThenGo.to ⟨⟨⟨_,hW⟩,rfl⟩,?_⟩
       generalize wd.alloc (.cells #[.int .i64 0,.bool false,.int .i64 0] 216)=Y at hW Bz ⊢
       refine call_at 9 (some 40) 267 #[.slice nb cur.length nc,.int .i64 z1] 4 (by kernel_rfl) (by kernel_rfl) (by kernel_rfl) (by kernel_rfl) (by kernel_rfl) ?_
       refine (hat _ (hR.below hW)).mono ?_
       rintro e w' ⟨rfl,hw⟩
       replace hw:=hw.symm
       subst hw
       refine ⟨_,rfl,⟨⟨_,hW⟩,rfl⟩,?_⟩
       try simp only [Act.put,List.getElem_toArray,List.getElem_cons_succ,List.getElem_cons_zero,List.setIfInBounds_toArray,List.set_cons_zero,List.set_cons_succ]
       refine seg_range [(10,1)] 3 (by kernel_rfl) (by kernel_rfl) (by kernel_rfl) (by kernel_rfl) (by kernel_rfl) ⟨⟨_,hW⟩,rfl⟩ ?_
       simp only [pickR,List.toList_toArray,List.flatMap_cons,List.flatMap_nil,List.drop_succ_cons,List.drop_zero,List.take_succ_cons,List.take_zero,List.cons_append,List.nil_append,List.append_nil]
       repeat go_big_quiet_step (fail)
       refine wpQuiet_nil ?_
       refine call_at 16 (some 47) 230 #[.slice nb cur.length nc,.int .i64 z1] 2 (by kernel_rfl) (by kernel_rfl) (by kernel_rfl) (by kernel_rfl) (by kernel_rfl) ?_
       refine (hvl _ (hR.below hW)).mono ?_
       rintro e w' ⟨rfl,hw⟩
       replace hw:=hw.symm
       subst hw
       refine ⟨_,rfl,⟨⟨_,hW⟩,rfl⟩,?_⟩
       simp only [Act.put,List.getElem_toArray,List.getElem_cons_succ,List.getElem_cons_zero,List.setIfInBounds_toArray,List.set_cons_zero,List.set_cons_succ]
       refine seg_range [(17,1)] 1 (by kernel_rfl) (by kernel_rfl) (by kernel_rfl) (by kernel_rfl) (by kernel_rfl) ⟨⟨_,hW⟩,rfl⟩ ?_
       simp only [pickR,List.toList_toArray,List.flatMap_cons,List.flatMap_nil,List.drop_succ_cons,List.drop_zero,List.take_succ_cons,List.take_zero,List.cons_append,List.nil_append,List.append_nil]
       repeat go_big_quiet_step (fail)
       refine wpQuiet_nil ?_
       refine one_at 19 _ 0 (by kernel_rfl) rfl (by kernel_rfl) ?_
       have p0:=Bz.cell 0 _ rfl
       have p1:=Bz.cell 1 _ rfl
       have p2:=Bz.cell 2 _ rfl
       have f0:=Bz.frozen 0
       have f1:=Bz.frozen 1
       have f2:=Bz.frozen 2
       have hW9:=((hW.setCell (p:=⟨wd.heap.size,0,none⟩) (by have:=hsd.out;dsimp only;omega) (.int .i64 z1)).setCell (p:=⟨wd.heap.size,1,none⟩) (by have:=hsd.out;dsimp only;omega) (.bool false)).setCell (p:=⟨wd.heap.size,2,none⟩) (by have:=hsd.out;dsimp only;omega) (.int .i64 c)
       have Bz9:=((Bz.set 0 (.int .i64 z1)).set 1 (.bool false)).set 2 (.int .i64 c)
       clear hne
       go_wp2
       refine ThenGo.to ⟨⟨⟨_,hW9⟩,rfl⟩,?_⟩
       refine text_end (by kernel_rfl) ?_
       exact ⟨rfl,_,⟨-1,_,rfl,(by have:=hsd.out;omega),Bz9,hW9⟩,by kernel_rfl⟩
     ·have hat:∀ (w:World) (h:ItemRow w nb cur),Calls Tryz.prog 267 #[.slice nb cur.length nc,.int .i64 z1] w fun e w' => ∃ jj:Nat,e=.returned (.int .i64 jj)∧w' = w:=fun w h=>(hat0 w h).mono (by
       rintro e w' ⟨r,rfl,⟨_,hq,_⟩ | ⟨j,rfl,_,hq,_⟩,rfl⟩
       ·exact absurd hq (by decide)
       ·exact ⟨j,rfl,rfl⟩)
      have hW:Below wr.heap.size wr wr.drew:=(Below.refl _ _).drew
      have hne:Nonempty (Lat wr):=⟨⟨wr,Below.refl _ _⟩⟩
      have kk1:=lat_cell hc1
      refine text_begin (S:=fun w' => ∃ u:Lat wr,w' = u.val) (by kernel_rfl) ?_
      refine seg_range [(0,9),(11,5)] 6 (by kernel_rfl) (by kernel_rfl) (by kernel_rfl) (by kernel_rfl) (by kernel_rfl) ⟨⟨_,hW⟩,rfl⟩ ?_
      simp only [pickR,List.toList_toArray,List.flatMap_cons,List.flatMap_nil,List.drop_succ_cons,List.drop_zero,List.take_succ_cons,List.take_zero,List.cons_append,List.nil_append,List.append_nil]
      repeat go_big_quiet_step (fail)
      refine wpQuiet_nil ?_
      clear kk1
      have hsd:Hid (wr.drew.heap.size=wr.heap.size):=(rfl:wr.drew.heap.size=wr.heap.size)
      generalize wr.drew=wd at hW hsd ⊢
      refine two_at 9 18 5 (by kernel_rfl) (by kernel_rfl) ?_ ?_
      ·skip
       refine op_call 9 (some 40) 267 #[.slice nb cur.length nc,.int .i64 z1] (by kernel_rfl) (by kernel_rfl) (by kernel_rfl) ?_
       refine (hat _ (hR.below hW)).mono ?_
       rintro e w' ⟨jj,rfl,hw⟩
       replace hw:=hw.symm
       subst hw
       refine ⟨_,rfl,⟨⟨_,hW⟩,rfl⟩,?_⟩
       try simp only [Act.put,List.getElem_toArray,List.getElem_cons_succ,List.getElem_cons_zero,List.setIfInBounds_toArray,List.set_cons_zero,List.set_cons_succ]
       refine seg_range [(10,1)] 4 (by kernel_rfl) (by kernel_rfl) (by kernel_rfl) (by kernel_rfl) (by kernel_rfl) ⟨⟨_,hW⟩,rfl⟩ ?_
       simp only [pickR,List.toList_toArray,List.flatMap_cons,List.flatMap_nil,List.drop_succ_cons,List.drop_zero,List.take_succ_cons,List.take_zero,List.cons_append,List.nil_append,List.append_nil]
       repeat go_big_quiet_step (fail)
       refine wpQuiet_nil ?_
       refine two_at 16 18 3 (by kernel_rfl) (by kernel_rfl) ?_ ?_
       ·skip
        refine op_call 16 (some 47) 230 #[.slice nb cur.length nc,.int .i64 z1] (by kernel_rfl) (by kernel_rfl) (by kernel_rfl) ?_
        refine (hvl _ (hR.below hW)).mono ?_
        rintro e w' ⟨rfl,hw⟩
        replace hw:=hw.symm
        subst hw
        refine ⟨_,rfl,⟨⟨_,hW⟩,rfl⟩,?_⟩
        simp only [Act.put,List.getElem_toArray,List.getElem_cons_succ,List.getElem_cons_zero,List.setIfInBounds_toArray,List.set_cons_zero,List.set_cons_succ]
        refine seg_range [(17,1)] 2 (by kernel_rfl) (by kernel_rfl) (by kernel_rfl) (by kernel_rfl) (by kernel_rfl) ⟨⟨_,hW⟩,rfl⟩ ?_
        simp only [pickR,List.toList_toArray,List.flatMap_cons,List.flatMap_nil,List.drop_succ_cons,List.drop_zero,List.take_succ_cons,List.take_zero,List.cons_append,List.nil_append,List.append_nil]
        repeat go_big_quiet_step (fail)
        refine wpQuiet_nil ?_
        refine one_at 18 _ 1 (by kernel_rfl) rfl (by kernel_rfl) ?_
        have hbz:Below wd.heap.size wd (wd.alloc (.cells #[.int .i64 0,.bool false,.int .i64 0] 216)):=by go_grown
        have Bz:=Blk.new wd 216 #[.int .i64 0,.bool false,.int .i64 0]
        replace hW:=hW.trans (hbz.mono hW.size)
        clear hbz
        go_wp2
        refine ThenGo.to ⟨⟨⟨_,hW⟩,rfl⟩,?_⟩
        generalize wd.alloc (.cells #[.int .i64 0,.bool false,.int .i64 0] 216)=Y at hW Bz ⊢
        refine one_at 19 _ 0 (by kernel_rfl) rfl (by kernel_rfl) ?_
        have p0:=Bz.cell 0 _ rfl
        have p1:=Bz.cell 1 _ rfl
        have p2:=Bz.cell 2 _ rfl
        have f0:=Bz.frozen 0
        have f1:=Bz.frozen 1
        have f2:=Bz.frozen 2
        have hW9:=((hW.setCell (p:=⟨wd.heap.size,0,none⟩) (by have:=hsd.out;dsimp only;omega) (.int .i64 z1)).setCell (p:=⟨wd.heap.size,1,none⟩) (by have:=hsd.out;dsimp only;omega) (.bool true)).setCell (p:=⟨wd.heap.size,2,none⟩) (by have:=hsd.out;dsimp only;omega) (.int .i64 c)
        have Bz9:=((Bz.set 0 (.int .i64 z1)).set 1 (.bool true)).set 2 (.int .i64 c)
        clear hne
        go_wp2
        refine ThenGo.to ⟨⟨⟨_,hW9⟩,rfl⟩,?_⟩
        refine text_end (by kernel_rfl) ?_
        exact ⟨rfl,_,⟨(jj:Int),_,rfl,(by have:=hsd.out;omega),Bz9,hW9⟩,by kernel_rfl⟩
       ·skip
        refine op_one 18 _ rfl ?_
        have hbz:Below wd.heap.size wd (wd.alloc (.cells #[.int .i64 0,.bool false,.int .i64 0] 216)):=by go_grown
        have Bz:=Blk.new wd 216 #[.int .i64 0,.bool false,.int .i64 0]
        replace hW:=hW.trans (hbz.mono hW.size)
        clear hbz
        go_wp2
        refine ThenGo.to ⟨⟨⟨_,hW⟩,rfl⟩,?_⟩
        generalize wd.alloc (.cells #[.int .i64 0,.bool false,.int .i64 0] 216)=Y at hW Bz ⊢
        refine call_at 16 (some 47) 230 #[.slice nb cur.length nc,.int .i64 z1] 2 (by kernel_rfl) (by kernel_rfl) (by kernel_rfl) (by kernel_rfl) (by kernel_rfl) ?_
        refine (hvl _ (hR.below hW)).mono ?_
        rintro e w' ⟨rfl,hw⟩
        replace hw:=hw.symm
        subst hw
        refine ⟨_,rfl,⟨⟨_,hW⟩,rfl⟩,?_⟩
        simp only [Act.put,List.getElem_toArray,List.getElem_cons_succ,List.getElem_cons_zero,List.setIfInBounds_toArray,List.set_cons_zero,List.set_cons_succ]
        refine seg_range [(17,1)] 1 (by kernel_rfl) (by kernel_rfl) (by kernel_rfl) (by kernel_rfl) (by kernel_rfl) ⟨⟨_,hW⟩,rfl⟩ ?_
        simp only [pickR,List.toList_toArray,List.flatMap_cons,List.flatMap_nil,List.drop_succ_cons,List.drop_zero,List.take_succ_cons,List.take_zero,List.cons_append,List.nil_append,List.append_nil]
        repeat go_big_quiet_step (fail)
        refine wpQuiet_nil ?_
        refine one_at 19 _ 0 (by kernel_rfl) rfl (by kernel_rfl) ?_
        have p0:=Bz.cell 0 _ rfl
        have p1:=Bz.cell 1 _ rfl
        have p2:=Bz.cell 2 _ rfl
        have f0:=Bz.frozen 0
        have f1:=Bz.frozen 1
        have f2:=Bz.frozen 2
        have hW9:=((hW.setCell (p:=⟨wd.heap.size,0,none⟩) (by have:=hsd.out;dsimp only;omega) (.int .i64 z1)).setCell (p:=⟨wd.heap.size,1,none⟩) (by have:=hsd.out;dsimp only;omega) (.bool true)).setCell (p:=⟨wd.heap.size,2,none⟩) (by have:=hsd.out;dsimp only;omega) (.int .i64 c)
        have Bz9:=((Bz.set 0 (.int .i64 z1)).set 1 (.bool true)).set 2 (.int .i64 c)
        clear hne
        go_wp2
        refine ThenGo.to ⟨⟨⟨_,hW9⟩,rfl⟩,?_⟩
        refine text_end (by kernel_rfl) ?_
        exact ⟨rfl,_,⟨(jj:Int),_,rfl,(by have:=hsd.out;omega),Bz9,hW9⟩,by kernel_rfl⟩
      ·skip
       refine op_one 18 _ rfl ?_
       have hbz:Below wd.heap.size wd (wd.alloc (.cells #[.int .i64 0,.bool false,.int .i64 0] 216)):=by go_grown
       have Bz:=Blk.new wd 216 #[.int .i64 0,.bool false,.int .i64 0]
       replace hW:=hW.trans (hbz.mono hW.size)
       clear hbz
       go_wp2
       refine ThenGo.to ⟨⟨⟨_,hW⟩,rfl⟩,?_⟩
       generalize wd.alloc (.cells #[.int .i64 0,.bool false,.int .i64 0] 216)=Y at hW Bz ⊢
       refine call_at 9 (some 40) 267 #[.slice nb cur.length nc,.int .i64 z1] 4 (by kernel_rfl) (by kernel_rfl) (by kernel_rfl) (by kernel_rfl) (by kernel_rfl) ?_
       refine (hat _ (hR.below hW)).mono ?_
       rintro e w' ⟨jj,rfl,hw⟩
       replace hw:=hw.symm
       subst hw
       refine ⟨_,rfl,⟨⟨_,hW⟩,rfl⟩,?_⟩
       try simp only [Act.put,List.getElem_toArray,List.getElem_cons_succ,List.getElem_cons_zero,List.setIfInBounds_toArray,List.set_cons_zero,List.set_cons_succ]
       refine seg_range [(10,1)] 3 (by kernel_rfl) (by kernel_rfl) (by kernel_rfl) (by kernel_rfl) (by kernel_rfl) ⟨⟨_,hW⟩,rfl⟩ ?_
       simp only [pickR,List.toList_toArray,List.flatMap_cons,List.flatMap_nil,List.drop_succ_cons,List.drop_zero,List.take_succ_cons,List.take_zero,List.cons_append,List.nil_append,List.append_nil]
       repeat go_big_quiet_step (fail)
       refine wpQuiet_nil ?_
       refine call_at 16 (some 47) 230 #[.slice nb cur.length nc,.int .i64 z1] 2 (by kernel_rfl) (by kernel_rfl) (by kernel_rfl) (by kernel_rfl) (by kernel_rfl) ?_
       refine (hvl _ (hR.below hW)).mono ?_
       rintro e w' ⟨rfl,hw⟩
       replace hw:=hw.symm
       subst hw
       refine ⟨_,rfl,⟨⟨_,hW⟩,rfl⟩,?_⟩
       simp only [Act.put,List.getElem_toArray,List.getElem_cons_succ,List.getElem_cons_zero,List.setIfInBounds_toArray,List.set_cons_zero,List.set_cons_succ]
       refine seg_range [(17,1)] 1 (by kernel_rfl) (by kernel_rfl) (by kernel_rfl) (by kernel_rfl) (by kernel_rfl) ⟨⟨_,hW⟩,rfl⟩ ?_
       simp only [pickR,List.toList_toArray,List.flatMap_cons,List.flatMap_nil,List.drop_succ_cons,List.drop_zero,List.take_succ_cons,List.take_zero,List.cons_append,List.nil_append,List.append_nil]
       repeat go_big_quiet_step (fail)
       refine wpQuiet_nil ?_
       refine one_at 19 _ 0 (by kernel_rfl) rfl (by kernel_rfl) ?_
       have p0:=Bz.cell 0 _ rfl
       have p1:=Bz.cell 1 _ rfl
       have p2:=Bz.cell 2 _ rfl
       have f0:=Bz.frozen 0
       have f1:=Bz.frozen 1
       have f2:=Bz.frozen 2
       have hW9:=((hW.setCell (p:=⟨wd.heap.size,0,none⟩) (by have:=hsd.out;dsimp only;omega) (.int .i64 z1)).setCell (p:=⟨wd.heap.size,1,none⟩) (by have:=hsd.out;dsimp only;omega) (.bool true)).setCell (p:=⟨wd.heap.size,2,none⟩) (by have:=hsd.out;dsimp only;omega) (.int .i64 c)
       have Bz9:=((Bz.set 0 (.int .i64 z1)).set 1 (.bool true)).set 2 (.int .i64 c)
       clear hne
       go_wp2
       refine ThenGo.to ⟨⟨⟨_,hW9⟩,rfl⟩,?_⟩
       refine text_end (by kernel_rfl) ?_
       exact ⟨rfl,_,⟨(jj:Int),_,rfl,(by have:=hsd.out;omega),Bz9,hW9⟩,by kernel_rfl⟩
    rintro vs w6 ⟨r,bx,rfl,hbx,Bu,hW⟩
    simp only [putAll,Act.put,List.setIfInBounds_toArray,List.set_cons_zero,List.set_cons_succ]
    clear hat0 hvl Bu
    have hwl:b < wr.heap.size:=by omega
    replace hc0:=(hW.cell (p:=⟨b,off + k * 3,none⟩) hwl).trans hc0
    replace hc1:=(hW.cell (p:=⟨b,off + k * 3 + 1,none⟩) hwl).trans hc1
    replace hc2:=(hW.cell (p:=⟨b,off + k * 3 + 2,none⟩) hwl).trans hc2
    go_wp2_with fail
    refine (hdo _ (hR.below hW) hc0 hc1 hc2).mono ?_
    rintro e w7 ⟨b5,n5,c5,rfl,_,hb5⟩
    have hsz6:=hW.size
    have hb7:=(hb.trans (hW.mono (by omega))).trans (hb5.mono (by omega))
    have B07:Blk w7 _ _ _:=(hb7.block _ hs0).trans B0
    have hbf:Below w.heap.size w w7:=hb03.trans (hb7.mono (by omega))
    have p0:=B07.cell 0 _ rfl
    have p1:=B07.cell 1 _ rfl
    have p2:=B07.cell 2 _ rfl
    have p3:=B07.cell 3 _ rfl
    have f0:=B07.frozen 0
    have f1:=B07.frozen 1
    have f2:=B07.frozen 2
    have f3:=B07.frozen 3
    clear hdo hb hb5 d3 B0 B07 hW hb7 hR Bo ho
    go_wp2
    refine bodyPost_ret (v:=.agg #[.int .i64 rc,.int .i64 0,.slice none 0 0,.slice none 0 0]) (by simp [results,Tryz.results237,go_sem,p0,p1,p2,p3]) rfl ?_
    rw [HE.out.1,HE.out.2.1,HE.out.2.2.1,HE.out.2.2.2]
    refine ⟨_,_,_,_,rfl,⟨OwnS.of (World.ownsRow_nil _ _ _ _),OwnS.of (World.ownsRow_nil _ _ _ _),Or.inl rfl⟩,?_⟩
    repeat' (refine Below.setCell ?_ (by dsimp only;omega) _)
    exact hbf
  ·have hkl:k=zs.length:=by omega
   have HC:Hid (runA xs zs=(0,cur)∧unR xs zs=D):=by
    have:=HG.out.2
    rw [hkl,List.drop_length] at this
    exact ⟨this.1.symm,by simpa [unR] using this.2⟩
   subst hkl
   obtain ⟨n,hn⟩:∃ n,zs.length=n + 1:=⟨zs.length - 1,by omega⟩
   obtain ⟨b,off,rfl,hbs⟩:=hrow n (by omega)
   obtain ⟨b',off',e,_,hc0,hc1,hc2⟩:=ht3.at n (by omega)
   simp only [Option.some.injEq,Addr.mk.injEq,and_true] at e
   obtain ⟨rfl,rfl⟩:=e
   replace hc1:wr.cell? ⟨b,off + n * 3 + 1,none⟩=_:=(hb.cell (p:=⟨b,off + n * 3 + 1,none⟩) (by dsimp only;omega)).trans hc1
   have HL:Hid (lastK zs=(zs.getD n actNo).key):=by
    show _=_
    unfold lastK
    rw [hn,Nat.add_sub_cancel]
   generalize (zs.getD n actNo).key=kk at hc1 HL
   have hvl:=fun w h=>l3Value_any nb nc cur kk w h (by omega)
   have HE:Hid ((runA xs zs).1=0∧runR xs zs=cur∧runV xs zs=valI cur kk∧runU xs zs=D):=by
    have hh:=HC.out.1
    refine ⟨by rw [hh],?_,?_,?_⟩
    ·unfold runR;rw [hh];exact if_pos rfl
    ·unfold runV;rw [hh,HL.out];exact if_pos rfl
    ·unfold runU;rw [hh,HC.out.2];exact if_pos rfl
   generalize valI cur kk=vv at hvl HE
   have hsub:(zs.length:Int) - 1=(n:Int):=by omega
   have hnl:n < zs.length:=by omega
   have hW:Below wr.heap.size wr wr.drew:=(Below.refl _ _).drew
   have hne:Nonempty (Lat wr):=⟨⟨wr,Below.refl _ _⟩⟩
   have k0:=lat_cell hc1
   have k1:=lat_cell d3
   clear hn hc0 hc2 hc1 HC HG HL c3
   go_wp2_with fail
   refine beginX (S:=fun w' => ∃ u:Lat wr,w' = u.val) (R:=fun _ _=>False) 16 (by kernel_rfl) (fun _ _ _ _ h=>h.elim) ?_
   refine segX [(0,9)] 8 (by kernel_rfl) (by kernel_rfl) (by kernel_rfl) (by kernel_rfl) (by kernel_rfl) ⟨⟨_,hW⟩,rfl⟩ ?_
   simp only [pickR,List.toList_toArray,List.flatMap_cons,List.flatMap_nil,List.drop_succ_cons,List.drop_zero,List.take_succ_cons,List.take_zero,List.cons_append,List.nil_append,List.append_nil]
   repeat go_big_quiet_step (fail)
   refine wpQuiet_nil ?_
   generalize wr.drew=wd at hW ⊢
   refine oneX 9 _ 7 (by kernel_rfl) rfl (by kernel_rfl) ?_
   go_wp2
   refine ThenX.to ⟨Or.inr ⟨⟨_,hW⟩,rfl⟩,?_⟩
   refine segX [(10,4)] 3 (by kernel_rfl) (by kernel_rfl) (by kernel_rfl) (by kernel_rfl) (by kernel_rfl) ⟨⟨_,hW⟩,rfl⟩ ?_
   simp only [pickR,List.toList_toArray,List.flatMap_cons,List.flatMap_nil,List.drop_succ_cons,List.drop_zero,List.take_succ_cons,List.take_zero,List.cons_append,List.nil_append,List.append_nil]
   repeat go_big_quiet_step (fail)
   refine wpQuiet_nil ?_
   clear k0 k1 hsub
   refine callX 14 (some 85) 230 #[.slice nb cur.length nc,.int .i64 kk] 2 (by kernel_rfl) (by kernel_rfl) (by kernel_rfl) (by kernel_rfl) (by kernel_rfl) rfl ?_
   refine (hvl _ (hR.below hW)).mono ?_
   rintro e w' ⟨rfl,hw⟩
   replace hw:=hw.symm
   subst hw
   refine Or.inl ⟨_,rfl,⟨⟨_,hW⟩,rfl⟩,?_⟩
   simp only [Act.put,List.getElem_toArray,List.getElem_cons_succ,List.getElem_cons_zero,List.setIfInBounds_toArray,List.set_cons_zero,List.set_cons_succ]
   refine oneX 15 _ 1 (by kernel_rfl) rfl (by kernel_rfl) ?_
   go_wp2
   refine ThenX.to ⟨Or.inr ⟨⟨_,hW⟩,rfl⟩,?_⟩
   refine oneX 16 _ 0 (by kernel_rfl) rfl (by kernel_rfl) ?_
   replace Bo:=Bo.below hW
   replace ho:=own_below ho hW
   replace hR:=hR.below hW
   replace hI:=hI.below hW
   replace hb:=hb.trans (hW.mono (by omega))
   have p1:=Bo.cell 1 _ rfl
   have f1:=Bo.frozen 1
   go_wp2
   refine ThenX.to ⟨Or.inl (by kernel_rfl),?_⟩
   refine endX (by kernel_rfl) ?_
   clear p1 f1 hW hne hvl d3
   have hxb:∀ x off,nb=some ⟨x,off,none⟩→x≠bo:=by
    intro x off e e2
    obtain ⟨cs,hcs⟩:=hI x off e
    subst e2
    have:=Bo
    unfold Blk at this
    rw [hcs] at this
    simp at this
   replace hR:ItemRow (wd.setCell ⟨bo,1,none⟩ (.int .i64 vv)) nb cur:=lies_same hR (by simp [World.setCell]) (fun x off e hx=>Below.heap_setCell _ _ _ _ (by have:=hxb x off e;dsimp only;omega))
   replace Bo:=Bo.set 1 (.int .i64 vv)
   replace ho:=ownsRow_setCell_below (a:=⟨bo,1,none⟩) ho (by dsimp only;omega) (.int .i64 vv)
   replace hb:=hb.setCell (p:=⟨bo,1,none⟩) (Nat.le_refl _) (.int .i64 vv)
   clear hI hxb
   generalize wd.setCell ⟨bo,1,none⟩ (.int .i64 vv)=w5 at hR Bo ho hb ⊢
   have hs5:=Bo.lt
   have hbF:Below w5.heap.size w5 (w5.alloc (.cells #[] 119)):=by go_grown
   have hoF:=World.ownsRow_lit (size:=2) (e:=119) w5 #[] 0 (Nat.le_refl _) (by decide) rfl
   have hcq:∀ (ops:Array Oper) (rest:List Oper) (o:Oper) (act:Act) (Q:Exit→Act→World→Prop) (hgd:o.guard=none) (sx x:Operand) (ho:o.op=.call { callee:=.builtin .append,args:=#[sx,x],argTypes:=#[26,26] }) (hs:act.eval sx=.slice (some ⟨w5.heap.size,0,none⟩) 0 0) (hx:act.eval x=.slice nb cur.length nc)
     (hh:∀ a' c' w',w'.ownsRow w5.heap.size 119 2 (.slice a' cur.length c') cur.length (itemCells cur)→Below w5.heap.size (w5.alloc (.cells #[] 119)) w' → wpList Tryz.prog ops Q rest (act.put o.dst (.slice a' cur.length c')) w'),wpList Tryz.prog ops Q (o :: rest) act (w5.alloc (.cells #[] 119)):=
    fun ops rest o act Q hgd sx x ho hs hx hh=>wpList_copy_items _ hgd sx x ho w5.heap.size w5.heap.size hs hoF nb cur nc hx (hR.below hbF) hNn (by omega) (by simp) hh
   go_wp2_with (at_builtin;refine hcq _ _ _ _ _ rfl _ _ rfl rfl rfl ?_)
   intro a7 c7 w7 o7 hbc7
   have hb7:Below w5.heap.size w5 w7:=hbF.trans hbc7
   have hap:=own_apart3 ho o7 (Nat.le_refl _)
   replace Bo:=Bo.below hb7
   replace ho:=own_below ho hb7
   replace hb:=hb.trans (hb7.mono (by omega))
   have B07:Blk w7 _ _ _:=(hb.block _ hs0).trans B0
   have hbf:Below w.heap.size w w7:=hb03.trans (hb.mono (by omega))
   have hs7:=hb7.size
   clear hcq hoF hbF hbc7 hb7 hb hR B0 hb03
   have nU:∀ j,(Value.slice ua D.length uc).ownBlock=some j→j≠bo:=fun j hj=>by have:=(ho.lt j hj).1;omega
   have nU0:∀ j,(Value.slice ua D.length uc).ownBlock=some j→j≠w.heap.size:=fun j hj=>by have:=(ho.lt j hj).1;omega
   have nI:∀ j,(Value.slice a7 cur.length c7).ownBlock=some j→j≠bo:=fun j hj=>by have:=(o7.lt j hj).1;omega
   have nI0:∀ j,(Value.slice a7 cur.length c7).ownBlock=some j→j≠w.heap.size:=fun j hj=>by have:=(o7.lt j hj).1;omega
   have p3:=Bo.cell 3 _ rfl
   have f3:=Bo.frozen 3
   have q0:=Bo.cell 0 _ rfl
   have q1:=Bo.cell 1 _ rfl
   have q2:=Bo.cell 2 _ rfl
   have Bo9:=Bo.set 3 (.slice a7 cur.length c7)
   have B09:Blk (w7.setCell ⟨bo,3,none⟩ (.slice a7 cur.length c7)) w.heap.size 231 #[.int .i64 0,.int .i64 0,.slice none 0 0,.slice none 0 0]:=(Below.heap_setCell _ _ _ _ (by dsimp only;omega)).trans B07
   have ho9:=own_set_other (j:=3) (u:=.slice a7 cur.length c7) ho nU
   have o79:=own_set_other (j:=3) (u:=.slice a7 cur.length c7) o7 nI
   have hbf9:=hbf.setCell (p:=⟨bo,3,none⟩) (by dsimp only;omega) (.slice a7 cur.length c7)
   have r0:=B09.cell 0 _ rfl
   have r1:=B09.cell 1 _ rfl
   have r2:=B09.cell 2 _ rfl
   have r3:=B09.cell 3 _ rfl
   have g0:=B09.frozen 0
   have g1:=B09.frozen 1
   have g2:=B09.frozen 2
   have g3:=B09.frozen 3
   have hlt9:=B09.lt
   have RR:Hid (_∧_∧_):=⟨ho9,o79,hbf9⟩
   clear Bo B07 ho o7 hbf B09 ho9 o79 hbf9 Bo9
   go_wp2
   refine bodyPost_ret (v:=.agg #[.int .i64 0,.int .i64 vv,.slice ua D.length uc,.slice a7 cur.length c7]) (by simp [results,Tryz.results237,go_sem,r0,r1,r2,r3]) rfl ?_
   rw [HE.out.1,HE.out.2.1,HE.out.2.2.1,HE.out.2.2.2]
   refine ⟨_,_,_,_,rfl,⟨OwnS.of (own_base (own_set_other (own_set_other (own_set_other (own_set_other RR.out.1 nU0) nU0) nU0) nU0) (by omega)),OwnS.of (own_base (own_set_other (own_set_other (own_set_other (own_set_other RR.out.2.1 nI0) nI0) nI0) nI0) (by omega)),hap⟩,?_⟩
   refine Below.setCell (Below.setCell (Below.setCell (Below.setCell RR.out.2.2 ?_ _) ?_ _) ?_ _) ?_ _ <;> exact Nat.le_refl _

end Go.Proofs.YtpmkhnakgeillaaGreatDoor
