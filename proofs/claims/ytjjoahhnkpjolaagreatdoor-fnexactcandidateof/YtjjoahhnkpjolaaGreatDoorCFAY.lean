/- Texts joined, with what the laws reach alone. -/
import Derived.Test.YtjjoahhnkpjolaaGreatDoorCFAX
set_option linter.unusedVariables false
set_option linter.unusedSimpArgs false
namespace Go.Proofs.YtjjoahhnkpjolaaGreatDoor
open Go.RowKit Go.Maps
open Go.BigFrame
set_option maxRecDepth 100000
def runU (xs:List ItemD) (zs:List ActD):List UndoD:=if (runA xs zs).1=0 then unR xs zs else []

theorem lies_same {w w' : World} {a:Option Addr} {cs:List Value} (h:Lies w a cs) (hs:w.heap.size≤w'.heap.size) (hb:∀ x off,a=some ⟨x,off,none⟩→x < w.heap.size→w'.heap[x]? = w.heap[x]?):Lies w' a cs:=by
 rcases h with h | ⟨b,off,ha,hlt,hc⟩
 ·exact Or.inl h
 ·refine Or.inr ⟨b,off,ha,by omega,?_⟩
  intro i x hx
  have h1:=hc i x hx
  have e:=hb b off ha hlt
  simp only [World.cell?] at h1 ⊢
  rw [e]
  exact h1

theorem ItB.below {w w' : World} {a:Option Addr} (h:ItB w a) (hb:Below w.heap.size w w'):ItB w' a:=by
 intro x off e
 obtain ⟨cs,hc⟩:=h x off e
 exact ⟨cs,(hb.block x (Array.getElem?_eq_some_iff.1 hc).1).trans hc⟩

set_option maxRecDepth 100000 in
set_option maxHeartbeats 8000000 in
theorem l4Do_any (a:Option Addr) (cap:Nat) (xs:List ItemD) (tb tof:Nat) (i s q:Int) (ta:Option Addr) (tc:Nat) (zs:List ActD) (w:World) (h:ItemRow w a xs) (hN:Nice a xs.length cap) (hB:Box4 w tb tof (.int .i64 i) (.int .i64 s) (.int .i64 q) (.slice ta zs.length tc)) (ht:ActRow w ta zs) (h8:xs.length≤8) (g:Good xs) (h2:txnF i s q zs=0) :
  Calls Tryz.prog 197 #[.slice a xs.length cap,.pointer (some ⟨tb,tof,none⟩)] w fun e w' => ∃ b c b2 c2,e=.returned (.agg #[.int .i64 (runA xs zs).1,.int .i64 (runV xs zs),.slice b (runU xs zs).length c,.slice b2 (runR xs zs).length c2]) ∧
   OwnU w.heap.size w'.heap.size w' (.slice b (runU xs zs).length c) (.slice b2 (runR xs zs).length c2) (runU xs zs) (runR xs zs)∧Below w.heap.size w w' := by
 obtain ⟨⟨hz1,hz4⟩,hact⟩:=acts_of_F h2
 have HA:Hid (∀ a∈zs,actF a=0):=hact
 clear h2 hact
 have B0:=Blk.new w 251 #[.int .i64 0,.int .i64 0,.slice none 0 0,.slice none 0 0]
 have hbE:Below w.heap.size w ((w.alloc (.cells #[.int .i64 0,.int .i64 0,.slice none 0 0,.slice none 0 0] 251)).alloc (.cells #[] 173)):=by go_grown
 have B0E:=B0.below (w' := (w.alloc (.cells #[.int .i64 0,.int .i64 0,.slice none 0 0,.slice none 0 0] 251)).alloc (.cells #[] 173)) (by go_grown)
 have hoE:=World.ownsRow_lit (size:=2) (e:=173) (w.alloc (.cells #[.int .i64 0,.int .i64 0,.slice none 0 0,.slice none 0 0] 251)) #[] 0 (Nat.le_refl _) (by decide) rfl
 rw [World.size_alloc] at hoE
 have hcp:∀ (ops:Array Oper) (rest:List Oper) (o:Oper) (act:Act) (Q:Exit→Act→World→Prop) (hgd:o.guard=none) (sx x:Operand) (ho:o.op=.call { callee:=.builtin .append,args:=#[sx,x],argTypes:=#[53,53] }) (hs:act.eval sx=.slice (some ⟨w.heap.size + 1,0,none⟩) 0 0) (hx:act.eval x=.slice a xs.length cap)
   (hh:∀ a' c' w',w'.ownsRow (w.heap.size + 1) 173 2 (.slice a' xs.length c') xs.length (itemCells xs)→Below (w.heap.size + 1) ((w.alloc (.cells #[.int .i64 0,.int .i64 0,.slice none 0 0,.slice none 0 0] 251)).alloc (.cells #[] 173)) w' → wpList Tryz.prog ops Q rest (act.put o.dst (.slice a' xs.length c')) w'),wpList Tryz.prog ops Q (o :: rest) act ((w.alloc (.cells #[.int .i64 0,.int .i64 0,.slice none 0 0,.slice none 0 0] 251)).alloc (.cells #[] 173)):=
  fun ops rest o act Q hgd sx x ho hs hx hh=>wpList_copy_items _ hgd sx x ho (w.heap.size + 1) (w.heap.size + 1) hs hoE a xs cap hx (h.below hbE) hN (by omega) (by simp) hh
 go_enter Tryz.func197,Tryz.ntmps197
 go_wp2_with (at_builtin;refine hcp _ _ _ _ _ rfl _ _ rfl rfl rfl ?_)
 intro a1 c1 w2 hown hbc
 have hb2:Below w.heap.size w w2:=hbE.trans (hbc.mono (by omega))
 replace B0:Blk w2 _ _ _:=(hbc.block _ (by omega)).trans B0E
 clear hcp hoE B0E hbE hbc
 have hs0:w.heap.size < w2.heap.size:=B0.lt
 have hN1:=nice_own hown
 have hb3:Below w2.heap.size w2 (w2.alloc (.cells #[.int .i64 0,.int .i64 0,.slice none 0 0,.slice none 0 0] 251)):=by go_grown
 have hR1:ItemRow (w2.alloc (.cells #[.int .i64 0,.int .i64 0,.slice none 0 0,.slice none 0 0] 251)) a1 xs:=Lies.below (Lies.own hown) hb3
 have hI1:=(own_itb hown).below hb3
 have Bo:=Blk.new w2 251 #[.int .i64 0,.int .i64 0,.slice none 0 0,.slice none 0 0]
 replace B0:=B0.below hb3
 have hb03:Below w.heap.size w (w2.alloc (.cells #[.int .i64 0,.int .i64 0,.slice none 0 0,.slice none 0 0] 251)):=hb2.trans (hb3.mono hb2.size)
 obtain ⟨b0,b1,b2,b3⟩:=hB
 have htl:tb < w.heap.size:=World.block_lt_of_cell? w ⟨tb,tof,none⟩ b0
 have c3:(w2.alloc (.cells #[.int .i64 0,.int .i64 0,.slice none 0 0,.slice none 0 0] 251)).cell? ⟨tb,tof + 3,none⟩=_:=(hb03.cell (p:=⟨tb,tof + 3,none⟩) htl).trans b3
 have ht3:ActRow (w2.alloc (.cells #[.int .i64 0,.int .i64 0,.slice none 0 0,.slice none 0 0] 251)) ta zs:=ht.below hb03
 have hrow:∀ k,k < zs.length→∃ b off,ta=some ⟨b,off,none⟩∧b < w.heap.size:=fun k hk=>by
  obtain ⟨b,off,e,hbs,_⟩:=ht.at k hk
  exact ⟨b,off,e,hbs⟩
 have hs3:(w2.alloc (.cells #[.int .i64 0,.int .i64 0,.slice none 0 0,.slice none 0 0] 251)).heap.size=w2.heap.size + 1:=by simp
 clear h hN hown b0 b1 b2 b3 ht hb3 hb2
 go_wp2
 generalize w2.alloc (.cells #[.int .i64 0,.int .i64 0,.slice none 0 0,.slice none 0 0] 251)=w3 at *
 generalize w2.heap.size=bo at *
 go_loopw [5,7] (fun v j wr=>∃ (k:Nat) (cur:List ItemD) (b:Option Addr) (c:Nat) (D:List UndoD) (ua:Option Addr) (uc:Nat),k≤zs.length∧j=.int .i64 k∧v=.slice b cur.length c∧ItemRow wr b cur∧Nice b cur.length c∧ItB wr b∧cur.length≤8∧D.length≤k∧Hid (Good cur∧runA cur (zs.drop k)=runA xs zs∧unR xs zs=D ++ unR cur (zs.drop k)) ∧
  Blk wr bo 251 #[.int .i64 0,.int .i64 0,.slice ua D.length uc,.slice none 0 0]∧wr.ownsRow (bo + 1) 223 3 (.slice ua D.length uc) D.length (undoCells D)∧Below bo w3 wr) (fun _ j _=>zs.length - (intOf j).toNat)
 case atStart=>exact ⟨0,xs,a1,c1,[],none,0,Nat.zero_le _,rfl,rfl,hR1,hN1,hI1,h8,Nat.zero_le _,⟨g,by simp,by simp⟩,Bo,World.ownsRow_nil _ _ _ _,Below.refl _ _⟩
 case round=>
  clear hR1 hN1 hI1 Bo
  obtain ⟨k,cur,nb,nc,D,ua,uc,hk,rfl,rfl,hR,hNn,hI,hc8,hD,HG,Bo,ho,hb⟩:=hrel
  have hszr:=Bo.lt
  have d3:wr.cell? ⟨tb,tof + 3,none⟩=_:=(hb.cell (p:=⟨tb,tof + 3,none⟩) (by dsimp only;omega)).trans c3
  by_cases hlt:k < zs.length
  ·obtain ⟨b,off,rfl,hbs⟩:=hrow k hlt
   obtain ⟨b',off',e,_,hc0,hc1,hc2⟩:=ht3.at k hlt
   simp only [Option.some.injEq,Addr.mk.injEq,and_true] at e
   obtain ⟨rfl,rfl⟩:=e
   replace hc0:wr.cell? ⟨b,off + k * 3,none⟩=_:=(hb.cell (p:=⟨b,off + k * 3,none⟩) (by dsimp only;omega)).trans hc0
   replace hc1:wr.cell? ⟨b,off + k * 3 + 1,none⟩=_:=(hb.cell (p:=⟨b,off + k * 3 + 1,none⟩) (by dsimp only;omega)).trans hc1
   replace hc2:wr.cell? ⟨b,off + k * 3 + 2,none⟩=_:=(hb.cell (p:=⟨b,off + k * 3 + 2,none⟩) (by dsimp only;omega)).trans hc2
   have haz:=HA.out (zs.getD k actNo) (by simp [List.getD,hlt])
   have hdo:=fun w hR c0 c1 c2=>l3Act_any nb nc cur b (off + k * 3) (zs.getD k actNo).kind (zs.getD k actNo).key (zs.getD k actNo).val w hR hNn hc8 HG.out.1 haz c0 c1 c2
   change ∀ w hR c0 c1 c2,Calls _ _ _ _ (ActPost w nb cur (zs.getD k actNo)) at hdo
   unfold ActPost at hdo
   have HD:Hid (runA cur (zs.getD k actNo :: zs.drop (k + 1))=runA xs zs∧unR xs zs=D ++ unR cur (zs.getD k actNo :: zs.drop (k + 1))):=by
    have:=HG.out.2
    rw [drop_act hlt] at this
    exact this
   have HU0:Hid (unA cur (zs.getD k actNo)=⟨(zs.getD k actNo).key,hasI cur (zs.getD k actNo).key,valI cur (zs.getD k actNo).key⟩):=rfl
   have hvl:=fun w h=>l3Value_any nb nc cur (zs.getD k actNo).key w h (by omega)
   have hat0:=fun w h=>l3At_any nb nc cur (zs.getD k actNo).key w h (by omega)
   generalize zs.getD k actNo=z at hc0 hc1 hc2 hdo HD haz HU0 hvl hat0
   obtain ⟨z0,z1,z2⟩:=z
   dsimp only at hc0 hc1 hc2 hdo HU0 hvl hat0
   generalize valI cur z1=c at hvl HU0 hat0
   generalize hasI cur z1=t at HU0 hat0
   replace haz:Hid _:=haz
   go_wp2_with fail
   refine region_vals [some 31,some 32,some 33,some 34,some 35,some 36,some 37,some 38,some 39,some 40,some 41,some 42,some 43,some 44,some 45,some 46,some 47,some 48,some 9] (fun vs w' => ∃ (r:Int) (bx:Nat),vs=[.pointer (some ⟨b,off + k * 3,none⟩),.pointer (some ⟨b,off + k * 3,none⟩),.pointer (some ⟨b,off + k * 3 + 1,none⟩),.int .i64 z1,.slice nb cur.length nc,.pointer (some ⟨b,off + k * 3,none⟩),.pointer (some ⟨b,off + k * 3,none⟩),.pointer (some ⟨b,off + k * 3 + 1,none⟩),.int .i64 z1,.int .i64 r,.bool t,.slice nb cur.length nc,.pointer (some ⟨b,off + k * 3,none⟩),.pointer (some ⟨b,off + k * 3,none⟩),.pointer (some ⟨b,off + k * 3 + 1,none⟩),.int .i64 z1,.int .i64 c,.agg #[.int .i64 z1,.bool t,.int .i64 c],.pointer (some ⟨bx,0,none⟩)]∧wr.heap.size≤bx∧Blk w' bx 223 #[.int .i64 z1,.bool t,.int .i64 c]∧Below wr.heap.size wr w') ?_ ?_
   ·have hat:∀ (w:World) (h:ItemRow w nb cur),Calls Tryz.prog 227 #[.slice nb cur.length nc,.int .i64 z1] w fun e w' => ∃ r:Int,e=.returned (.int .i64 r)∧decide (0≤r)=t∧w' = w:=fun w h=>(hat0 w h).mono (by
     rintro e w' ⟨r,rfl,⟨rfl,hq,_⟩ | ⟨j,rfl,_,hq,_⟩,rfl⟩
     ·exact ⟨_,rfl,by rw [hq];rfl,rfl⟩
     ·exact ⟨_,rfl,by rw [hq];simp,rfl⟩)
    clear hat0 hdo HD HU0 haz HG
    have hW:Below wr.heap.size wr wr.drew:=(Below.refl _ _).drew
    have hne:Nonempty (Lat wr):=⟨⟨wr,Below.refl _ _⟩⟩
    have kk1:=lat_cell hc1
    refine text_begin (S:=fun w' => ∃ u:Lat wr,w' = u.val) (by kernel_rfl) ?_
    refine sgr [(0,9),(11,5)] 6 (by kernel_rfl) ⟨⟨_,hW⟩,rfl⟩ ?_
    simp only [pkE]
    repeat go_big_quiet_step (fail)
    refine wpQuiet_nil ?_
    clear kk1
    have hsd:Hid (wr.drew.heap.size=wr.heap.size):=(rfl:wr.drew.heap.size=wr.heap.size)
    generalize wr.drew=wd at hW hsd ⊢
    refine twa 9 18 5 (by kernel_rfl) ?_ ?_
    ·skip
     refine opc 9 (some 40) 227 #[.slice nb cur.length nc,.int .i64 z1] (by kernel_rfl) ?_
     refine (hat _ (hR.below hW)).mono ?_
     rintro e w' ⟨r,rfl,rfl,hw⟩
     replace hw:=hw.symm
     subst hw
     refine ⟨_,rfl,⟨⟨_,hW⟩,rfl⟩,?_⟩
     try simp only [Act.put,pgE,pjE]
     refine sgr [(10,1)] 4 (by kernel_rfl) ⟨⟨_,hW⟩,rfl⟩ ?_
     simp only [pkE]
     repeat go_big_quiet_step (fail)
     refine wpQuiet_nil ?_
     refine twa 16 18 3 (by kernel_rfl) ?_ ?_
     ·skip
      refine opc 16 (some 47) 226 #[.slice nb cur.length nc,.int .i64 z1] (by kernel_rfl) ?_
      refine (hvl _ (hR.below hW)).mono ?_
      rintro e w' ⟨rfl,hw⟩
      replace hw:=hw.symm
      subst hw
      refine ⟨_,rfl,⟨⟨_,hW⟩,rfl⟩,?_⟩
      simp only [Act.put,pgE,pjE]
      refine sgr [(17,1)] 2 (by kernel_rfl) ⟨⟨_,hW⟩,rfl⟩ ?_
      simp only [pkE]
      repeat go_big_quiet_step (fail)
      refine wpQuiet_nil ?_
      refine ona 18 1 rfl (by kernel_rfl) ?_
      have hbz:Below wd.heap.size wd (wd.alloc (.cells #[.int .i64 0,.bool false,.int .i64 0] 223)):=by go_grown
      have Bz:=Blk.new wd 223 #[.int .i64 0,.bool false,.int .i64 0]
      replace hW:=hW.trans (hbz.mono hW.size)
      clear hbz
      go_wp2
      refine ThenGo.to ⟨⟨⟨_,hW⟩,rfl⟩,?_⟩
      generalize wd.alloc (.cells #[.int .i64 0,.bool false,.int .i64 0] 223)=Y at hW Bz ⊢
      refine ona 19 0 rfl (by kernel_rfl) ?_
      obtain ⟨p0,p1,p2⟩:=Bz.cel3
      obtain ⟨f0,f1,f2⟩:=Bz.frz3
      have hW9:=((hW.setCell (p:=⟨wd.heap.size,0,none⟩) (by have:=hsd.out;dsimp only;omega) (.int .i64 z1)).setCell (p:=⟨wd.heap.size,1,none⟩) (by have:=hsd.out;dsimp only;omega) (.bool (decide ((0:Int)≤r)))).setCell (p:=⟨wd.heap.size,2,none⟩) (by have:=hsd.out;dsimp only;omega) (.int .i64 c)
      have Bz9:=((Bz.set 0 (.int .i64 z1)).set 1 (.bool (decide ((0:Int)≤r)))).set 2 (.int .i64 c)
      clear hne
      go_wp2
      refine ThenGo.to ⟨⟨⟨_,hW9⟩,rfl⟩,?_⟩
      refine text_end (by kernel_rfl) ?_
      exact ⟨rfl,_,⟨r,_,rfl,(by have:=hsd.out;omega),Bz9,hW9⟩,by kernel_rfl⟩
     ·skip
      refine op_one 18 _ rfl ?_
      have hbz:Below wd.heap.size wd (wd.alloc (.cells #[.int .i64 0,.bool false,.int .i64 0] 223)):=by go_grown
      have Bz:=Blk.new wd 223 #[.int .i64 0,.bool false,.int .i64 0]
      replace hW:=hW.trans (hbz.mono hW.size)
      clear hbz
      go_wp2
      refine ThenGo.to ⟨⟨⟨_,hW⟩,rfl⟩,?_⟩
      generalize wd.alloc (.cells #[.int .i64 0,.bool false,.int .i64 0] 223)=Y at hW Bz ⊢
      refine cla 16 (some 47) 226 #[.slice nb cur.length nc,.int .i64 z1] 2 (by kernel_rfl) ?_
      refine (hvl _ (hR.below hW)).mono ?_
      rintro e w' ⟨rfl,hw⟩
      replace hw:=hw.symm
      subst hw
      refine ⟨_,rfl,⟨⟨_,hW⟩,rfl⟩,?_⟩
      simp only [Act.put,pgE,pjE]
      refine sgr [(17,1)] 1 (by kernel_rfl) ⟨⟨_,hW⟩,rfl⟩ ?_
      simp only [pkE]
      repeat go_big_quiet_step (fail)
      refine wpQuiet_nil ?_
      refine ona 19 0 rfl (by kernel_rfl) ?_
      obtain ⟨p0,p1,p2⟩:=Bz.cel3
      obtain ⟨f0,f1,f2⟩:=Bz.frz3
      have hW9:=((hW.setCell (p:=⟨wd.heap.size,0,none⟩) (by have:=hsd.out;dsimp only;omega) (.int .i64 z1)).setCell (p:=⟨wd.heap.size,1,none⟩) (by have:=hsd.out;dsimp only;omega) (.bool (decide ((0:Int)≤r)))).setCell (p:=⟨wd.heap.size,2,none⟩) (by have:=hsd.out;dsimp only;omega) (.int .i64 c)
      have Bz9:=((Bz.set 0 (.int .i64 z1)).set 1 (.bool (decide ((0:Int)≤r)))).set 2 (.int .i64 c)
      clear hne
      go_wp2
      refine ThenGo.to ⟨⟨⟨_,hW9⟩,rfl⟩,?_⟩
      refine text_end (by kernel_rfl) ?_
      exact ⟨rfl,_,⟨r,_,rfl,(by have:=hsd.out;omega),Bz9,hW9⟩,by kernel_rfl⟩
    ·skip
     refine op_one 18 _ rfl ?_
     have hbz:Below wd.heap.size wd (wd.alloc (.cells #[.int .i64 0,.bool false,.int .i64 0] 223)):=by go_grown
     have Bz:=Blk.new wd 223 #[.int .i64 0,.bool false,.int .i64 0]
     replace hW:=hW.trans (hbz.mono hW.size)
     clear hbz
     go_wp2
     refine ThenGo.to ⟨⟨⟨_,hW⟩,rfl⟩,?_⟩
     generalize wd.alloc (.cells #[.int .i64 0,.bool false,.int .i64 0] 223)=Y at hW Bz ⊢
     refine cla 9 (some 40) 227 #[.slice nb cur.length nc,.int .i64 z1] 4 (by kernel_rfl) ?_
     refine (hat _ (hR.below hW)).mono ?_
     rintro e w' ⟨r,rfl,rfl,hw⟩
     replace hw:=hw.symm
     subst hw
     refine ⟨_,rfl,⟨⟨_,hW⟩,rfl⟩,?_⟩
     try simp only [Act.put,pgE,pjE]
     refine sgr [(10,1)] 3 (by kernel_rfl) ⟨⟨_,hW⟩,rfl⟩ ?_
     simp only [pkE]
     repeat go_big_quiet_step (fail)
     refine wpQuiet_nil ?_
     refine cla 16 (some 47) 226 #[.slice nb cur.length nc,.int .i64 z1] 2 (by kernel_rfl) ?_
     refine (hvl _ (hR.below hW)).mono ?_
     rintro e w' ⟨rfl,hw⟩
     replace hw:=hw.symm
     subst hw
     refine ⟨_,rfl,⟨⟨_,hW⟩,rfl⟩,?_⟩
     simp only [Act.put,pgE,pjE]
     refine sgr [(17,1)] 1 (by kernel_rfl) ⟨⟨_,hW⟩,rfl⟩ ?_
     simp only [pkE]
     repeat go_big_quiet_step (fail)
     refine wpQuiet_nil ?_
     refine ona 19 0 rfl (by kernel_rfl) ?_
     obtain ⟨p0,p1,p2⟩:=Bz.cel3
     obtain ⟨f0,f1,f2⟩:=Bz.frz3
     have hW9:=((hW.setCell (p:=⟨wd.heap.size,0,none⟩) (by have:=hsd.out;dsimp only;omega) (.int .i64 z1)).setCell (p:=⟨wd.heap.size,1,none⟩) (by have:=hsd.out;dsimp only;omega) (.bool (decide ((0:Int)≤r)))).setCell (p:=⟨wd.heap.size,2,none⟩) (by have:=hsd.out;dsimp only;omega) (.int .i64 c)
     have Bz9:=((Bz.set 0 (.int .i64 z1)).set 1 (.bool (decide ((0:Int)≤r)))).set 2 (.int .i64 c)
     clear hne
     go_wp2
     refine ThenGo.to ⟨⟨⟨_,hW9⟩,rfl⟩,?_⟩
     refine text_end (by kernel_rfl) ?_
     exact ⟨rfl,_,⟨r,_,rfl,(by have:=hsd.out;omega),Bz9,hW9⟩,by kernel_rfl⟩
   rintro vs w6 ⟨r,bx,rfl,hbx,Bu,hW⟩
   simp only [putAll,Act.put,pjE]
   clear hat0 hvl
   have hwl:b < wr.heap.size:=by omega
   replace hc0:=(hW.cell (p:=⟨b,off + k * 3,none⟩) hwl).trans hc0
   replace hc1:=(hW.cell (p:=⟨b,off + k * 3 + 1,none⟩) hwl).trans hc1
   replace hc2:=(hW.cell (p:=⟨b,off + k * 3 + 2,none⟩) hwl).trans hc2
   by_cases hF:actC cur ⟨z0,z1,z2⟩=0
   ·obtain ⟨hn8,hng⟩:=act_good hc8 HG.out.1 haz.out hF
    have HR2:Hid (Good (actN cur ⟨z0,z1,z2⟩)∧runA (actN cur ⟨z0,z1,z2⟩) (zs.drop (k + 1))=runA xs zs∧unR xs zs=D ++ ((if z0=4 then [] else [unA cur ⟨z0,z1,z2⟩]) ++ unR (actN cur ⟨z0,z1,z2⟩) (zs.drop (k + 1)))):=⟨hng,by
     have:=HD.out.1
     rw [runA_cons,if_pos hF] at this
     exact this,by
     have:=HD.out.2
     rw [unR_cons] at this
     exact this⟩
    rw [hF] at hdo
    clear HD hng HG haz hF
    generalize actN cur ⟨z0,z1,z2⟩=nx at hdo HR2 hn8
    generalize unA cur ⟨z0,z1,z2⟩=uu at HR2 HU0
    have hsz6:=hW.size
    go_wp2_with fail
    refine (hdo _ (hR.below hW) hc0 hc1 hc2).mono ?_
    rintro e w7 ⟨b5,n5,c5,rfl,hN5,hb5⟩
    obtain ⟨rfl,hR5,hNc5,hI5⟩:=hN5 (by first | trivial | rfl)
    have hbl:b < w6.heap.size:=by omega
    replace hc0:=(hb5.cell (p:=⟨b,off + k * 3,none⟩) hbl).trans hc0
    replace hI:=(hI.below hW).below hb5
    have hI7:ItB w7 b5:=by
     rcases hI5 with e | h
     ·rw [e];exact hI
     ·exact h
    replace Bo:=(Bo.below hW).below hb5
    have hbu:=Bu.lt
    replace Bu:=Bu.below hb5
    replace ho:=own_below (own_below ho hW) hb5
    replace hb:=(hb.trans (hW.mono (by omega))).trans (hb5.mono (by omega))
    have hsz7:=hb5.size
    clear hI5 hN5 hdo hW hb5 hR d3 hI hc1 hc2
    by_cases h4:z0=4
    ·subst h4
     have hn4:((4:Int) != 4)=false:=by decide
     have HR3:Hid (Good nx∧runA nx (zs.drop (k + 1))=runA xs zs∧unR xs zs=D ++ unR nx (zs.drop (k + 1))):=⟨HR2.out.1,HR2.out.2.1,by simpa using HR2.out.2.2⟩
     have RR:Hid (_∧_∧_∧_∧_∧_):=⟨hR5,hNc5,hI7,Bo,ho,hb⟩
     clear hR5 hNc5 hI7 Bo ho hb Bu
     go_wp2
     go_roundw
     case rel=>exact ⟨k + 1,nx,b5,c5,D,ua,uc,by omega,by go_num,rfl,RR.out.1,RR.out.2.1,RR.out.2.2.1,hn8,by omega,HR3,RR.out.2.2.2.1,RR.out.2.2.2.2.1,RR.out.2.2.2.2.2⟩
     case measure=>simp [intOf];omega
    ·have hn4:(z0 != 4)=true:=by simpa using h4
     have HR3:Hid (Good nx∧runA nx (zs.drop (k + 1))=runA xs zs∧unR xs zs=(D ++ [⟨z1,t,c⟩]) ++ unR nx (zs.drop (k + 1))):=⟨HR2.out.1,HR2.out.2.1,by
      have:=HR2.out.2.2
      rw [if_neg h4,HU0.out] at this
      simpa using this⟩
     clear HR2 HU0 h4
     obtain ⟨i0,hi,hz0,hz1,hz2⟩:=info_parts infoUndo
     have hbA:Below w7.heap.size w7 (w7.alloc (.cells #[.int .i64 z1,.bool t,.int .i64 c] 223)):=by go_grown
     have ho2:=own_below ho hbA
     have BoA:=Bo.below hbA
     have hR5A:=hR5.below hbA
     have hI7A:=hI7.below hbA
     have hsA:(w7.alloc (.cells #[.int .i64 z1,.bool t,.int .i64 c] 223)).heap.size=w7.heap.size + 1:=by simp
     have p2:=Bo.cell 2 _ rfl
     obtain ⟨q0,q1,q2⟩:=Bu.cel3
     go_wp2_with (at_builtin;refine wpList_append_own _ rfl _ _ 175 rfl (bo + 1) 223 i0 (.agg #[.int .i64 0,.bool false,.int .i64 0]) 3 24 Tryz.underlying175 hi hz0 hz1 hz2 rfl (by decide) _ D.length (undoCells D) rfl ho2 ⟨w7.heap.size,0,none⟩ 1 1 [.int .i64 z1,.bool t,.int .i64 c] rfl rfl ?c1 ?c2 ?c3 ?c4 ?c5 ?_)
     all_goals try (case c1=>intro j u hj;match j,hj with | 0,hj=>simp at hj;subst hj;simp [Addr.add] | 1,hj=>simp at hj;subst hj;simp [Addr.add] | 2,hj=>simp at hj;subst hj;simp [Addr.add])
     all_goals try (case c2=>first | rfl | exact ⟨rfl,rfl,rfl⟩ | (intro u hu;simp at hu;rcases hu with rfl | rfl | rfl <;> rfl))
     all_goals try (case c3=>unfold maxLen;omega)
     all_goals try (case c4=>omega)
     all_goals try (case c5=>first | omega | (simp;omega))
     intro v' w8 hown hgrow _
     obtain ⟨a2,c2,rfl⟩:=own_shape hown
     clear p2 q0 q1 q2
     have hnbo:=own_not3 ho2 (b:=bo) (Or.inl (by omega))
     have Bo8:=BoA.grown hgrow hnbo
     have hW8:Below bo w7 w8:=(hbA.mono (by omega)).grown hgrow (by omega) (fun j hj=>by have:=(ho2.lt j hj).1;omega)
     have hlv:∀ x off,b5=some ⟨x,off,none⟩→x < (w7.alloc (.cells #[.int .i64 z1,.bool t,.int .i64 c] 223)).heap.size→w8.heap[x]? = (w7.alloc (.cells #[.int .i64 z1,.bool t,.int .i64 c] 223)).heap[x]? := by
      intro x off e hx
      refine hgrow.block x hx ?_
      intro e2
      obtain ⟨cs,hcs⟩:=hI7A x off e
      rcases ho2.2 with ⟨hv,_⟩ | ⟨g',cap',cur',hv,_,hh,_⟩
      ·rw [hv] at e2;simp [Value.ownBlock] at e2
      ·rw [hv] at e2
       simp only [Value.ownBlock,Option.some.injEq] at e2
       subst e2
       rw [hcs] at hh
       simp at hh
     have hR8:ItemRow w8 b5 nx:=lies_same hR5A hgrow.size hlv
     have hI8:ItB w8 b5:=by
      intro x off e
      obtain ⟨cs,hcs⟩:=hI7A x off e
      exact ⟨cs,(hlv x off e (Array.getElem?_eq_some_iff.1 hcs).1).trans hcs⟩
     have hxb:∀ x off,b5=some ⟨x,off,none⟩→x≠bo:=by
      intro x off e e2
      obtain ⟨cs,hcs⟩:=hI8 x off e
      subst e2
      have:=Bo8
      unfold Blk at this
      rw [hcs] at this
      simp at this
     have hR9:ItemRow (w8.setCell ⟨bo,2,none⟩ (.slice a2 (D.length + 1) c2)) b5 nx:=lies_same hR8 (by simp [World.setCell]) (fun x off e hx=>Below.heap_setCell _ _ _ _ (by have:=hxb x off e;dsimp only;omega))
     have hI9:ItB (w8.setCell ⟨bo,2,none⟩ (.slice a2 (D.length + 1) c2)) b5:=by
      intro x off e
      obtain ⟨cs,hcs⟩:=hI8 x off e
      exact ⟨cs,(Below.heap_setCell _ _ _ _ (by have:=hxb x off e;dsimp only;omega)).trans hcs⟩
     have Bo9:=Bo8.set 2 (.slice a2 (D.length + 1) c2)
     have ho9:=ownsRow_setCell_below (a:=⟨bo,2,none⟩) hown (by dsimp only;omega) (.slice a2 (D.length + 1) c2)
     have hb9:=(hb.trans hW8).setCell (p:=⟨bo,2,none⟩) (Nat.le_refl _) (.slice a2 (D.length + 1) c2)
     have p2:=Bo8.cell 2 _ rfl
     have f2:=Bo8.frozen 2
     have RR:Hid (_∧_∧_∧_∧_∧_):=⟨hR9,hNc5,hI9,Bo9,ho9,hb9⟩
     clear hR9 hNc5 hI9 Bo9 ho9 hb9 hR8 hI8 hR5 hI7 Bo ho hb Bu BoA ho2 hR5A hI7A hW8 hlv hxb hgrow hown Bo8 hbA hnbo
     go_wp2
     go_roundw
     case rel=>
      refine ⟨k + 1,nx,b5,c5,D ++ [⟨z1,t,c⟩],a2,c2,by omega,by go_num,rfl,RR.out.1,RR.out.2.1,RR.out.2.2.1,hn8,by simp;omega,HR3,?_,?_,RR.out.2.2.2.2.2⟩
      ·simpa using RR.out.2.2.2.1
      ·rw [undoCells_snoc]
       simpa using RR.out.2.2.2.2.1
     case measure=>simp [intOf];omega
   ·have HE:Hid ((runA xs zs).1=actC cur ⟨z0,z1,z2⟩∧runR xs zs=[]∧runV xs zs=0∧runU xs zs=[]):=by
     have hh:=HD.out.1
     rw [runA_cons,if_neg hF] at hh
     refine ⟨by rw [← hh],?_,?_,?_⟩
     ·unfold runR;rw [← hh];exact if_neg hF
     ·unfold runV;rw [← hh];exact if_neg hF
     ·unfold runU;rw [← hh];exact if_neg hF
    have hne:(actC cur ⟨z0,z1,z2⟩ != 0)=true:=by simpa using hF
    clear HD HG haz hF HU0 Bu
    generalize actC cur ⟨z0,z1,z2⟩=rc at hdo HE hne
    have hneR:=hne
    clear hne
    go_wp2_with fail
    refine (hdo _ (hR.below hW) hc0 hc1 hc2).mono ?_
    rintro e w7 ⟨b5,n5,c5,rfl,_,hb5⟩
    have hsz6:=hW.size
    have hb7:=(hb.trans (hW.mono (by omega))).trans (hb5.mono (by omega))
    have B07:Blk w7 _ _ _:=(hb7.block _ hs0).trans B0
    have hbf:Below w.heap.size w w7:=hb03.trans (hb7.mono (by omega))
    obtain ⟨p0,p1,p2,p3⟩:=B07.cel4
    obtain ⟨f0,f1,f2,f3⟩:=B07.frz4
    clear hdo hb hb5 d3 B0 B07 hW hb7 hR Bo ho
    go_wp2
    refine bodyPost_ret (v:=.agg #[.int .i64 rc,.int .i64 0,.slice none 0 0,.slice none 0 0]) (by simp [results,Tryz.results197,go_sem,p0,p1,p2,p3]) rfl ?_
    rw [HE.out.1,HE.out.2.1,HE.out.2.2.1,HE.out.2.2.2]
    refine ⟨_,_,_,_,rfl,⟨OwnS.of (World.ownsRow_nil _ _ _ _),OwnS.of (World.ownsRow_nil _ _ _ _),Or.inl rfl⟩,?_⟩
    repeat' (refine Below.setCell ?_ (by dsimp only;omega) _)
    exact hbf
  ·have hkl:k=zs.length:=by omega
   have HC:Hid (runA xs zs=(0,cur)∧unR xs zs=D):=by
    have:=HG.out.2
    rw [hkl,List.drop_length] at this
    exact ⟨this.1.symm,by simpa [unR] using this.2⟩
   subst hkl
   obtain ⟨n,hn⟩:∃ n,zs.length=n + 1:=⟨zs.length - 1,by omega⟩
   obtain ⟨b,off,rfl,hbs⟩:=hrow n (by omega)
   obtain ⟨b',off',e,_,hc0,hc1,hc2⟩:=ht3.at n (by omega)
   simp only [Option.some.injEq,Addr.mk.injEq,and_true] at e
   obtain ⟨rfl,rfl⟩:=e
   replace hc1:wr.cell? ⟨b,off + n * 3 + 1,none⟩=_:=(hb.cell (p:=⟨b,off + n * 3 + 1,none⟩) (by dsimp only;omega)).trans hc1
   have HL:Hid (lastK zs=(zs.getD n actNo).key):=by
    show _=_
    unfold lastK
    rw [hn,Nat.add_sub_cancel]
   generalize (zs.getD n actNo).key=kk at hc1 HL
   have hvl:=fun w h=>l3Value_any nb nc cur kk w h (by omega)
   have HE:Hid ((runA xs zs).1=0∧runR xs zs=cur∧runV xs zs=valI cur kk∧runU xs zs=D):=by
    have hh:=HC.out.1
    refine ⟨by rw [hh],?_,?_,?_⟩
    ·unfold runR;rw [hh];exact if_pos rfl
    ·unfold runV;rw [hh,HL.out];exact if_pos rfl
    ·unfold runU;rw [hh,HC.out.2];exact if_pos rfl
   generalize valI cur kk=vv at hvl HE
   have hsub:(zs.length:Int) - 1=(n:Int):=by omega
   have hnl:n < zs.length:=by omega
   have hW:Below wr.heap.size wr wr.drew:=(Below.refl _ _).drew
   have hne:Nonempty (Lat wr):=⟨⟨wr,Below.refl _ _⟩⟩
   have k0:=lat_cell hc1
   have k1:=lat_cell d3
   clear hn hc0 hc2 hc1 HC HG HL c3
   go_wp2_with fail
   refine beginX (S:=fun w' => ∃ u:Lat wr,w' = u.val) (R:=fun _ _=>False) 16 (by kernel_rfl) (fun _ _ _ _ h=>h.elim) ?_
   refine sgX [(0,9)] 8 (by kernel_rfl) ⟨⟨_,hW⟩,rfl⟩ ?_
   simp only [pkE]
   repeat go_big_quiet_step (fail)
   refine wpQuiet_nil ?_
   generalize wr.drew=wd at hW ⊢
   refine onX 9 7 rfl (by kernel_rfl) ?_
   go_wp2
   refine ThenX.to ⟨Or.inr ⟨⟨_,hW⟩,rfl⟩,?_⟩
   refine sgX [(10,4)] 3 (by kernel_rfl) ⟨⟨_,hW⟩,rfl⟩ ?_
   simp only [pkE]
   repeat go_big_quiet_step (fail)
   refine wpQuiet_nil ?_
   clear k0 k1 hsub
   refine clX 14 (some 85) 226 #[.slice nb cur.length nc,.int .i64 kk] 2 (by kernel_rfl) rfl ?_
   refine (hvl _ (hR.below hW)).mono ?_
   rintro e w' ⟨rfl,hw⟩
   replace hw:=hw.symm
   subst hw
   refine Or.inl ⟨_,rfl,⟨⟨_,hW⟩,rfl⟩,?_⟩
   simp only [Act.put,pgE,pjE]
   refine onX 15 1 rfl (by kernel_rfl) ?_
   go_wp2
   refine ThenX.to ⟨Or.inr ⟨⟨_,hW⟩,rfl⟩,?_⟩
   refine onX 16 0 rfl (by kernel_rfl) ?_
   replace Bo:=Bo.below hW
   replace ho:=own_below ho hW
   replace hR:=hR.below hW
   replace hI:=hI.below hW
   replace hb:=hb.trans (hW.mono (by omega))
   have p1:=Bo.cell 1 _ rfl
   have f1:=Bo.frozen 1
   go_wp2
   refine ThenX.to ⟨Or.inl (by kernel_rfl),?_⟩
   refine endX (by kernel_rfl) ?_
   clear p1 f1 hW hne hvl d3
   have hxb:∀ x off,nb=some ⟨x,off,none⟩→x≠bo:=by
    intro x off e e2
    obtain ⟨cs,hcs⟩:=hI x off e
    subst e2
    have:=Bo
    unfold Blk at this
    rw [hcs] at this
    simp at this
   replace hR:ItemRow (wd.setCell ⟨bo,1,none⟩ (.int .i64 vv)) nb cur:=lies_same hR (by simp [World.setCell]) (fun x off e hx=>Below.heap_setCell _ _ _ _ (by have:=hxb x off e;dsimp only;omega))
   replace Bo:=Bo.set 1 (.int .i64 vv)
   replace ho:=ownsRow_setCell_below (a:=⟨bo,1,none⟩) ho (by dsimp only;omega) (.int .i64 vv)
   replace hb:=hb.setCell (p:=⟨bo,1,none⟩) (Nat.le_refl _) (.int .i64 vv)
   clear hI hxb
   generalize wd.setCell ⟨bo,1,none⟩ (.int .i64 vv)=w5 at hR Bo ho hb ⊢
   have hs5:=Bo.lt
   have hbF:Below w5.heap.size w5 (w5.alloc (.cells #[] 173)):=by go_grown
   have hoF:=World.ownsRow_lit (size:=2) (e:=173) w5 #[] 0 (Nat.le_refl _) (by decide) rfl
   have hcq:∀ (ops:Array Oper) (rest:List Oper) (o:Oper) (act:Act) (Q:Exit→Act→World→Prop) (hgd:o.guard=none) (sx x:Operand) (ho:o.op=.call { callee:=.builtin .append,args:=#[sx,x],argTypes:=#[53,53] }) (hs:act.eval sx=.slice (some ⟨w5.heap.size,0,none⟩) 0 0) (hx:act.eval x=.slice nb cur.length nc)
     (hh:∀ a' c' w',w'.ownsRow w5.heap.size 173 2 (.slice a' cur.length c') cur.length (itemCells cur)→Below w5.heap.size (w5.alloc (.cells #[] 173)) w' → wpList Tryz.prog ops Q rest (act.put o.dst (.slice a' cur.length c')) w'),wpList Tryz.prog ops Q (o :: rest) act (w5.alloc (.cells #[] 173)):=
    fun ops rest o act Q hgd sx x ho hs hx hh=>wpList_copy_items _ hgd sx x ho w5.heap.size w5.heap.size hs hoF nb cur nc hx (hR.below hbF) hNn (by omega) (by simp) hh
   go_wp2_with (at_builtin;refine hcq _ _ _ _ _ rfl _ _ rfl rfl rfl ?_)
   intro a7 c7 w7 o7 hbc7
   have hb7:Below w5.heap.size w5 w7:=hbF.trans hbc7
   have hap:=own_apart3 ho o7 (Nat.le_refl _)
   replace Bo:=Bo.below hb7
   replace ho:=own_below ho hb7
   replace hb:=hb.trans (hb7.mono (by omega))
   have B07:Blk w7 _ _ _:=(hb.block _ hs0).trans B0
   have hbf:Below w.heap.size w w7:=hb03.trans (hb.mono (by omega))
   have hs7:=hb7.size
   clear hcq hoF hbF hbc7 hb7 hb hR B0 hb03
   have nU:∀ j,(Value.slice ua D.length uc).ownBlock=some j→j≠bo:=fun j hj=>by have:=(ho.lt j hj).1;omega
   have nU0:∀ j,(Value.slice ua D.length uc).ownBlock=some j→j≠w.heap.size:=fun j hj=>by have:=(ho.lt j hj).1;omega
   have nI:∀ j,(Value.slice a7 cur.length c7).ownBlock=some j→j≠bo:=fun j hj=>by have:=(o7.lt j hj).1;omega
   have nI0:∀ j,(Value.slice a7 cur.length c7).ownBlock=some j→j≠w.heap.size:=fun j hj=>by have:=(o7.lt j hj).1;omega
   have p3:=Bo.cell 3 _ rfl
   have f3:=Bo.frozen 3
   obtain ⟨q0,q1,q2⟩:=Bo.cel3
   have Bo9:=Bo.set 3 (.slice a7 cur.length c7)
   have B09:Blk (w7.setCell ⟨bo,3,none⟩ (.slice a7 cur.length c7)) w.heap.size 251 #[.int .i64 0,.int .i64 0,.slice none 0 0,.slice none 0 0]:=(Below.heap_setCell _ _ _ _ (by dsimp only;omega)).trans B07
   have ho9:=own_set_other (j:=3) (u:=.slice a7 cur.length c7) ho nU
   have o79:=own_set_other (j:=3) (u:=.slice a7 cur.length c7) o7 nI
   have hbf9:=hbf.setCell (p:=⟨bo,3,none⟩) (by dsimp only;omega) (.slice a7 cur.length c7)
   obtain ⟨r0,r1,r2,r3⟩:=B09.cel4
   obtain ⟨g0,g1,g2,g3⟩:=B09.frz4
   have hlt9:=B09.lt
   have RR:Hid (_∧_∧_):=⟨ho9,o79,hbf9⟩
   clear Bo B07 ho o7 hbf B09 ho9 o79 hbf9 Bo9
   go_wp2
   refine bodyPost_ret (v:=.agg #[.int .i64 0,.int .i64 vv,.slice ua D.length uc,.slice a7 cur.length c7]) (by simp [results,Tryz.results197,go_sem,r0,r1,r2,r3]) rfl ?_
   rw [HE.out.1,HE.out.2.1,HE.out.2.2.1,HE.out.2.2.2]
   refine ⟨_,_,_,_,rfl,⟨OwnS.of (own_base (own_set_other (own_set_other (own_set_other (own_set_other RR.out.1 nU0) nU0) nU0) nU0) (by omega)),OwnS.of (own_base (own_set_other (own_set_other (own_set_other (own_set_other RR.out.2.1 nI0) nI0) nI0) nI0) (by omega)),hap⟩,?_⟩
   refine Below.setCell (Below.setCell (Below.setCell (Below.setCell RR.out.2.2 ?_ _) ?_ _) ?_ _) ?_ _ <;> exact Nat.le_refl _

end Go.Proofs.YtjjoahhnkpjolaaGreatDoor
namespace Go.Proofs.YtjjoahhnkpjolaaGreatDoor
open Go.RowKit Go.Maps
set_option maxRecDepth 100000
def nextI (xs:List ItemD) (t:TxnD):List ItemD:=if (runA xs t.acts).1=0 then (runA xs t.acts).2 else xs

def allI:List ItemD→List TxnD→List ItemD
 | xs,[]=>xs
 | xs,t :: r=>allI (nextI xs t) r

def allCd:List ItemD→List TxnD→List Int
 | _,[]=>[]
 | xs,t :: r=>(runA xs t.acts).1 :: allCd (nextI xs t) r

def allVl:List ItemD→List TxnD→List Int
 | _,[]=>[]
 | xs,t :: r=>runV xs t.acts :: allVl (nextI xs t) r

theorem nextI_good {xs:List ItemD} {t:TxnD} (hl:xs.length≤8) (g:Good xs) (ht:t.F=0):(nextI xs t).length≤8∧Good (nextI xs t):=by
 unfold nextI
 split
 ·rename_i h;exact run_good hl g (acts_of_F ht).2 h
 ·exact ⟨hl,g⟩

theorem allI_good:∀ {ds:List TxnD} {xs:List ItemD},xs.length≤8→Good xs→(∀ t∈ds,t.F=0)→(allI xs ds).length≤8∧Good (allI xs ds)
 | [],xs,hl,g,_=>⟨hl,g⟩
 | t :: r,xs,hl,g,ht=>by
  obtain ⟨h1,h2⟩:=nextI_good hl g (ht t (by simp))
  exact allI_good (ds:=r) (xs:=nextI xs t) h1 h2 (fun u hu=>ht u (by simp [hu]))

theorem allF_zero:∀ {ds:List TxnD},allF ds=0→∀ t∈ds,t.F=0
 | [],_,t,h=>by simp at h
 | x :: r,h,t,ht=>by
  simp only [allF] at h
  by_cases hx:x.F=0
  ·rw [if_pos hx] at h
   rcases List.mem_cons.1 ht with rfl | ht
   ·exact hx
   ·exact allF_zero h t ht
  ·rw [if_neg hx] at h;exact absurd h hx

theorem ids_zero {ds:List TxnD} (h:idsC ds=0):ds.length≤60∧∀ t∈ds,t.F=0:=by
 have h60:=idsC_few h
 unfold idsC at h
 rw [if_neg (by omega)] at h
 exact ⟨h60,allF_zero h⟩

def eaC (xs:List ItemD) (ds:List TxnD):Int:=if itemsF xs≠0 then itemsF xs else idsC ds

def eaCd (xs:List ItemD) (ds:List TxnD):List Int:=if eaC xs ds=0 then allCd xs ds else []

def eaVl (xs:List ItemD) (ds:List TxnD):List Int:=if eaC xs ds=0 then allVl xs ds else []

def eaI (xs:List ItemD) (ds:List TxnD):List ItemD:=if eaC xs ds=0 then allI xs ds else []

theorem ea_ok {xs:List ItemD} {ds:List TxnD} (h:itemsF xs=0) (h2:idsC ds=0):eaC xs ds=0∧eaCd xs ds=allCd xs ds∧eaVl xs ds=allVl xs ds∧eaI xs ds=allI xs ds:=by
 have e:eaC xs ds=0:=by simp [eaC,h,h2]
 exact ⟨e,by simp [eaCd,e],by simp [eaVl,e],by simp [eaI,e]⟩

theorem drop_txn {ds:List TxnD} {k:Nat} (h:k < ds.length):ds.drop k=ds.getD k txnNo :: ds.drop (k + 1):=by
 have e:ds.getD k txnNo=ds[k]:=by simp [List.getD,h]
 rw [List.drop_eq_getElem_cons h,e]

theorem Apart3.nil:Apart3 (.slice none 0 0) (.slice none 0 0) (.slice none 0 0):=⟨Or.inl rfl,Or.inl rfl,Or.inl rfl⟩

/-- One of the three has grown, in its own block or a new one. -/
theorem Apart3.grow1 {w:World} {s1 s2 s3 s1' : Value} (h:Apart3 s1 s2 s3) (hl:s1'.ownBlock=s1.ownBlock∨s1'.ownBlock=some w.heap.size) (h2:∀ g,s2.ownBlock=some g→g < w.heap.size) (h3:∀ g,s3.ownBlock=some g→g < w.heap.size):Apart3 s1' s2 s3:=by
 rcases hl with e | e
 ·exact ⟨by rw [e];exact h.a12,by rw [e];exact h.a13,h.a23⟩
 ·exact ⟨Or.inr (by rw [e];intro k;have:=h2 _ k.symm;omega),Or.inr (by rw [e];intro k;have:=h3 _ k.symm;omega),h.a23⟩

theorem Apart3.grow2 {w:World} {s1 s2 s3 s2' : Value} (h:Apart3 s1 s2 s3) (hl:s2'.ownBlock=s2.ownBlock∨s2'.ownBlock=some w.heap.size) (h1:∀ g,s1.ownBlock=some g→g < w.heap.size) (h3:∀ g,s3.ownBlock=some g→g < w.heap.size):Apart3 s1 s2' s3:=by
 rcases hl with e | e
 ·exact ⟨by rw [e];exact h.a12,h.a13,by rw [e];exact h.a23⟩
 ·refine ⟨ne_swap (Or.inr ?_),h.a13,Or.inr ?_⟩
  ·rw [e];intro k;have:=h1 _ k.symm;omega
  ·rw [e];intro k;have:=h3 _ k.symm;omega

end Go.Proofs.YtjjoahhnkpjolaaGreatDoor
namespace Go.Proofs.YtjjoahhnkpjolaaGreatDoor
open Go.RowKit
open Go.BigFrame
set_option maxRecDepth 100000
/-- What comes of each one: its code, its Value, what undoes it. -/
def deedsE:List ItemD→List TxnD→List (TxnD × Int × Int × List UndoD)
 | _,[]=>[]
 | xs,t :: r=>(t,(runA xs t.acts).1,runV xs t.acts,runU xs t.acts) :: deedsE (nextI xs t) r

theorem deeds_snoc:∀ (ds:List TxnD) (xs:List ItemD) (t:TxnD),deedsE xs (ds ++ [t])=deedsE xs ds ++ [(t,(runA (allI xs ds) t.acts).1,runV (allI xs ds) t.acts,runU (allI xs ds) t.acts)]
 | [],_,_=>rfl
 | d :: r,xs,t=>by
  simp only [List.cons_append,deedsE,allI]
  rw [deeds_snoc r]

theorem allI_snoc:∀ (ds:List TxnD) (xs:List ItemD) (t:TxnD),allI xs (ds ++ [t])=nextI (allI xs ds) t
 | [],_,_=>rfl
 | d :: r,xs,t=>by
  simp only [List.cons_append,allI]
  exact allI_snoc r _ t

def DeedQ.t (p:DeedQ):TxnD:=⟨p.i,p.s,p.q,p.acts⟩

def DeedQ.e4 (p:DeedQ):TxnD × Int × Int × List UndoD:=(p.t,p.code,p.val,p.us)

theorem du9 {xs:List ItemD} {t:TxnD} (hl:xs.length≤8) (g:Good xs) (ht:t.F=0):exC xs t.id t.session t.seq t.acts=(runA xs t.acts).1∧exV xs t.id t.session t.seq t.acts=runV xs t.acts∧duU xs t.id t.session t.seq t.acts=runU xs t.acts∧exR xs t.id t.session t.seq t.acts=runR xs t.acts:=by
 have h1:=F_of_good hl g
 have h2:txnF t.id t.session t.seq t.acts=0:=ht
 have e:exC xs t.id t.session t.seq t.acts=(runA xs t.acts).1:=by
  unfold exC
  rw [if_neg (by simp [h1]),if_neg (by simp [h2])]
 refine ⟨e,?_,?_,?_⟩
 ·unfold exV runV;rw [e]
 ·unfold duU runU;rw [e]
 ·unfold exR runR;rw [e]

theorem ownS_kind {e n lo hi:Nat} {w:World} {v:Value} {m:Nat} {xs:List Value} (h:OwnS e n lo hi w v m xs):w.ownsRow 0 e n v m xs∧∀ k∈blk v,lo≤k:=own_zero h.1

theorem nil_items:itemsF ([]:List ItemD)=0:=by decide

theorem nil_good:Good ([]:List ItemD):=(good_of_F nil_items).2

/-- DoUndo of a right transaction at right items. -/
theorem doUndo9 (ia:Option Addr) (ic:Nat) (xs:List ItemD) (i s q:Int) (ta:Option Addr) (tc:Nat) (zs:List ActD) (w:World) (h:itemK.At w (.slice ia xs.length ic) xs) (ht:actK.At w (.slice ta zs.length tc) zs) (hl:xs.length≤8) (g:Good xs) (hF:(⟨i,s,q,zs⟩:TxnD).F=0) :
  Calls Tryz.prog 175 #[.slice ia xs.length ic,.agg #[.int .i64 i,.int .i64 s,.int .i64 q,.slice ta zs.length tc]] w fun e w' => ∃ b c b2 c2,e=.returned (.agg #[.int .i64 (runA xs zs).1,.int .i64 (runV xs zs),.slice b (runU xs zs).length c,.slice b2 (runR xs zs).length c2]) ∧
   undoK.Own w' (.slice b (runU xs zs).length c) (runU xs zs)∧itemK.Own w' (.slice b2 (runR xs zs).length c2) (runR xs zs)∧(∀ k∈blk (.slice b (runU xs zs).length c),w.heap.size≤k)∧(∀ k∈blk (.slice b2 (runR xs zs).length c2),w.heap.size≤k)∧Below w.heap.size w w' := by
 obtain ⟨e1,e2,e3,e4⟩:=du9 (t:=⟨i,s,q,zs⟩) hl g hF
 have hz:=(acts_of_F (show txnF i s q zs=0 from hF)).1
 have hq:=implDoUndo_any ia ic xs i s q ta tc zs w (itemK_at h).2 (actK_at ht).2 (by omega) (by omega)
 dsimp only at e1 e2 e3 e4
 rw [e1,e2,e3,e4] at hq
 refine hq.mono ?_
 rintro e w' ⟨b,c,b2,c2,rfl,hU,hb⟩
 obtain ⟨o1,l1⟩:=ownS_kind hU.o1
 obtain ⟨o2,l2⟩:=ownS_kind hU.o2
 exact ⟨b,c,b2,c2,rfl,⟨o1,fun _ _=>trivial⟩,⟨o2,fun _ _=>trivial⟩,l1,l2,hb⟩

/-- A record in memory: rb is its block, all that it points to lies from B0 on, and its rows are apart from the rest. -/
structure Rec (w:World) (rb B0:Nat) (wr:World) (vN iN vU iU:Value) (ds us:List DeedQ) (xs ys:List ItemD):Prop where
 B:Blk wr rb 149 #[vN,iN,vU,iU]
 oN:wr.ownsRow 0 298 6 vN ds.length ((deedNK w).row ds)
 aN:∀ p∈ds,actK.At w p.va p.acts
 oU:wr.ownsRow 0 258 7 vU us.length ((deedUK w).row us)
 aU:∀ p∈us,actK.At w p.va p.acts∧undoK.Own wr p.lv p.us
 jN:itemK.Own wr iN xs
 jU:itemK.Own wr iU ys
 nu:∀ k∈blk vN,k ∉ blk vU
 lN:∀ k∈blk vN,B0≤k
 lU:∀ k∈blk vU,B0≤k
 d1:∀ k∈blk iN,B0≤k∧k ∉ blk vN∧k ∉ blk vU
 d2:∀ k∈blk iU,B0≤k∧k ∉ blk vN∧k ∉ blk vU
 d3:∀ p∈us,∀ k∈blk p.lv,B0≤k∧k ∉ blk vN∧k ∉ blk vU

theorem Rec.below {w:World} {rb B0:Nat} {wr wr' : World} {vN iN vU iU:Value} {ds us:List DeedQ} {xs ys:List ItemD} (h:Rec w rb B0 wr vN iN vU iU ds us xs ys) (hb:Below wr.heap.size wr wr'):Rec w rb B0 wr' vN iN vU iU ds us xs ys:=
 ⟨h.B.below hb,own_below h.oN hb,h.aN,own_below h.oU hb,fun p hp=>⟨(h.aU p hp).1,(h.aU p hp).2.below hb⟩,h.jN.below hb,h.jU.below hb,h.nu,h.lN,h.lU,h.d1,h.d2,h.d3⟩

theorem blk_new {v v' : Value} {H B0:Nat} (h:v'.ownBlock=v.ownBlock∨∃ g,v'.ownBlock=some g∧H≤g) {k:Nat} (hk:k∈blk v'):k∈blk v∨H≤k:=by
 unfold blk at hk ⊢
 rcases h with h | ⟨g,h,hg⟩
 ·rw [h] at hk;exact Or.inl hk
 ·rw [h] at hk
  simp only [Option.toList,List.mem_singleton] at hk
  subst hk
  exact Or.inr hg

theorem own_blk {w:World} {b e n m:Nat} {v:Value} {xs:List Value} (h:w.ownsRow b e n v m xs):∀ k∈blk v,k < w.heap.size:=fun k hk=>(h.lt k (by simpa [blk] using hk)).2

theorem Rec.addN {w:World} {rb B0:Nat} {w1 w2:World} {vN iN d' : Value} {vU iU i' : Value} {ds us:List DeedQ} {xs ys xs' : List ItemD} {p:DeedQ} (h:Rec w rb B0 w1 vN iN vU iU ds us xs ys) (hrb:rb < B0) (hB:B0≤w1.heap.size) (hp:actK.At w p.va p.acts)
  (hi:itemK.Own w1 i' xs') (hil:∀ k∈blk i',B0≤k∧k ∉ blk vN∧k ∉ blk vU)
  (B:Blk w2 rb 149 #[d',i',vU,iU]) (ho:w2.ownsRow 0 298 6 d' (ds.length + 1) ((deedNK w).row ds ++ (deedNK w).cells p)) (hd:d'.ownBlock=vN.ownBlock∨∃ g,d'.ownBlock=some g∧w1.heap.size≤g) (hO:Out (rb :: blk vN) w1 w2) :
  Rec w rb B0 w2 d' i' vU iU (ds ++ [p]) us xs' ys:=by
 have nF:∀ {k},B0≤k→k ∉ blk vN→k ∉ rb :: blk vN:=fun hk hn hm=>by
  rcases List.mem_cons.1 hm with e | e
  ·omega
  ·exact hn e
 have out:∀ {k},(k < w1.heap.size)→k ∉ blk vN→k ∉ blk d' := fun hk hn hm=>by
  rcases blk_new (B0:=0) hd hm with e | e
  ·exact hn e
  ·omega
 refine ⟨B,by rw [List.length_append,List.length_singleton,Kind.row_snoc];exact ho,?_,own_outs h.oU hO (fun k hk=>nF (h.lU k hk) (fun e=>h.nu k e hk)),?_,?_,?_,?_,?_,h.lU,?_,?_,?_⟩
 ·intro q hq
  rcases List.mem_append.1 hq with hq | hq
  ·exact h.aN q hq
  ·simp only [List.mem_singleton] at hq;subst hq;exact hp
 ·exact fun q hq=>⟨(h.aU q hq).1,(h.aU q hq).2.out hO (fun k hk=>by rw [undoK_fp] at hk;exact nF (h.d3 q hq k hk).1 (h.d3 q hq k hk).2.1)⟩
 ·exact hi.out hO (fun k hk=>by rw [itemK_fp] at hk;exact nF (hil k hk).1 (hil k hk).2.1)
 ·exact h.jU.out hO (fun k hk=>by rw [itemK_fp] at hk;exact nF (h.d2 k hk).1 (h.d2 k hk).2.1)
 ·intro k hk hm
  rcases blk_new (B0:=0) hd hk with e | e
  ·exact h.nu k e hm
  ·have:=own_blk h.oU k hm;omega
 ·intro k hk
  rcases blk_new (B0:=0) hd hk with e | e
  ·exact h.lN k e
  ·omega
 ·exact fun k hk=>⟨(hil k hk).1,out (own_blk hi.1 k hk) (hil k hk).2.1,(hil k hk).2.2⟩
 ·exact fun k hk=>⟨(h.d2 k hk).1,out (own_blk h.jU.1 k hk) (h.d2 k hk).2.1,(h.d2 k hk).2.2⟩
 ·exact fun q hq k hk=>⟨(h.d3 q hq k hk).1,out (own_blk (h.aU q hq).2.1 k hk) (h.d3 q hq k hk).2.1,(h.d3 q hq k hk).2.2⟩

theorem Rec.addU {w:World} {rb B0:Nat} {w1 w2:World} {vN iN d' : Value} {vU iU i' : Value} {ds us:List DeedQ} {xs ys ys' : List ItemD} {p:DeedQ} (h:Rec w rb B0 w1 vN iN vU iU ds us xs ys) (hrb:rb < B0) (hB:B0≤w1.heap.size) (hp:actK.At w p.va p.acts) (hpu:undoK.Own w1 p.lv p.us)
  (hpl:∀ k∈blk p.lv,B0≤k∧k ∉ blk vN∧k ∉ blk vU)
  (hi:itemK.Own w1 i' ys') (hil:∀ k∈blk i',B0≤k∧k ∉ blk vN∧k ∉ blk vU)
  (B:Blk w2 rb 149 #[vN,iN,d',i']) (ho:w2.ownsRow 0 258 7 d' (us.length + 1) ((deedUK w).row us ++ (deedUK w).cells p)) (hd:d'.ownBlock=vU.ownBlock∨∃ g,d'.ownBlock=some g∧w1.heap.size≤g) (hO:Out (rb :: blk vU) w1 w2) :
  Rec w rb B0 w2 vN iN d' i' ds (us ++ [p]) xs ys' := by
 have nF:∀ {k},B0≤k→k ∉ blk vU→k ∉ rb :: blk vU:=fun hk hn hm=>by
  rcases List.mem_cons.1 hm with e | e
  ·omega
  ·exact hn e
 have out:∀ {k},(k < w1.heap.size)→k ∉ blk vU→k ∉ blk d' := fun hk hn hm=>by
  rcases blk_new (B0:=0) hd hm with e | e
  ·exact hn e
  ·omega
 refine ⟨B,own_outs h.oN hO (fun k hk=>nF (h.lN k hk) (h.nu k hk)),h.aN,by rw [List.length_append,List.length_singleton,Kind.row_snoc];exact ho,?_,?_,?_,?_,h.lN,?_,?_,?_,?_⟩
 ·intro q hq
  rcases List.mem_append.1 hq with hq | hq
  ·exact ⟨(h.aU q hq).1,(h.aU q hq).2.out hO (fun k hk=>by rw [undoK_fp] at hk;exact nF (h.d3 q hq k hk).1 (h.d3 q hq k hk).2.2)⟩
  ·simp only [List.mem_singleton] at hq
   subst hq
   exact ⟨hp,hpu.out hO (fun k hk=>by rw [undoK_fp] at hk;exact nF (hpl k hk).1 (hpl k hk).2.2)⟩
 ·exact h.jN.out hO (fun k hk=>by rw [itemK_fp] at hk;exact nF (h.d1 k hk).1 (h.d1 k hk).2.2)
 ·exact hi.out hO (fun k hk=>by rw [itemK_fp] at hk;exact nF (hil k hk).1 (hil k hk).2.2)
 ·intro k hk hm
  rcases blk_new (B0:=0) hd hm with e | e
  ·exact h.nu k hk e
  ·have:=own_blk h.oN k hk;omega
 ·intro k hk
  rcases blk_new (B0:=0) hd hk with e | e
  ·exact h.lU k e
  ·omega
 ·exact fun k hk=>⟨(h.d1 k hk).1,(h.d1 k hk).2.1,out (own_blk h.jN.1 k hk) (h.d1 k hk).2.2⟩
 ·exact fun k hk=>⟨(hil k hk).1,(hil k hk).2.1,out (own_blk hi.1 k hk) (hil k hk).2.2⟩
 ·intro q hq k hk
  rcases List.mem_append.1 hq with hq | hq
  ·exact ⟨(h.d3 q hq k hk).1,(h.d3 q hq k hk).2.1,out (own_blk (h.aU q hq).2.1 k hk) (h.d3 q hq k hk).2.2⟩
  ·simp only [List.mem_singleton] at hq
   subst hq
   exact ⟨(hpl k hk).1,(hpl k hk).2.1,out (own_blk hpu.1 k hk) (hpl k hk).2.2⟩

/-- The items for good are those to go on with. -/
theorem Rec.share {w:World} {rb B0:Nat} {w1:World} {vN iN vU iU:Value} {ds us:List DeedQ} {xs ys:List ItemD} (h:Rec w rb B0 w1 vN iN vU iU ds us xs ys) (hrb:rb < B0):Rec w rb B0 (w1.setCell ⟨rb,3,none⟩ iN) vN iN vU iN ds us xs xs:=by
 have hO:=Out.setCell w1 rb 3 iN
 have nF:∀ {k},B0≤k→k ∉ [rb]:=fun hk hm=>by simp only [List.mem_singleton] at hm;omega
 refine ⟨?_,own_outs h.oN hO (fun k hk=>nF (h.lN k hk)),h.aN,own_outs h.oU hO (fun k hk=>nF (h.lU k hk)),fun p hp=>⟨(h.aU p hp).1,(h.aU p hp).2.out hO (fun k hk=>by rw [undoK_fp] at hk;exact nF (h.d3 p hp k hk).1)⟩,h.jN.out hO (fun k hk=>by rw [itemK_fp] at hk;exact nF (h.d1 k hk).1),h.jN.out hO (fun k hk=>by rw [itemK_fp] at hk;exact nF (h.d1 k hk).1),h.nu,h.lN,h.lU,h.d1,h.d1,h.d3⟩
 have:=h.B.set 3 iN
 simpa using this

end Go.Proofs.YtjjoahhnkpjolaaGreatDoor
