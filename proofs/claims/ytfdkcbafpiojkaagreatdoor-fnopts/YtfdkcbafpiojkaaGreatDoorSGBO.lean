/- Texts joined, with what the laws reach alone. -/
import Derived.Test.YtfdkcbafpiojkaaGreatDoorSGBN
set_option linter.unusedVariables false
set_option linter.unusedSimpArgs false
namespace Go.Proofs.YtfdkcbafpiojkaaGreatDoor
open Go.RowKit Go.Shelf
set_option maxRecDepth 100000
attribute [local go_sem] Oper.semAt_some
theorem tkF_le {xs:List ItemD} (h:xs.length≤8) (l:List (List UndoD)):(tkF xs l).2.length≤8:=by
 have key:∀ (l:List (List UndoD)) (p:Int × List ItemD),p.2.length≤8→(l.foldl tkS p).2.length≤8:=by
  intro l
  induction l with
  | nil=>intro p hp;exact hp
  | cons u r ih=>
   intro p hp
   rw [List.foldl_cons]
   refine ih _ ?_
   unfold tkS
   split
   ·exact tbI_le _ _
   ·simp
 exact key l (0,xs) h

theorem own_ne_blk {w:World} {base e s n b t:Nat} {v:Value} {xs:List Value} {cs:Array Value} (h:w.ownsRow base e s v n xs) (hb:Blk w b t cs) (hne:e≠t):∀ k,v.ownBlock=some k→k≠b:=by
 intro k hk e2
 subst e2
 rcases h.2 with ⟨rfl,_⟩ | ⟨g,cap,cur,rfl,_,hh,_⟩
 ·simp [Value.ownBlock] at hk
 ·simp only [Value.ownBlock,Option.some.injEq] at hk
  subst hk
  unfold Blk at hb
  rw [hh] at hb
  simp only [Option.some.injEq,Obj.cells.injEq] at hb
  exact hne hb.2.1

theorem wide_call {n:Nat} {f:Nat} {args:Array Value} {w:World} {R:Ending→World→Prop} (h:Calls Tryz.prog f args w R):CallsIn Fence.wide n Tryz.prog f args w R:=callsIn_wide.2 h

set_option maxRecDepth 100000 in
set_option maxHeartbeats 4000000 in
theorem implTakeAll_any (a:Option Addr) (cap:Nat) (xs:List ItemD) (v:Value) (uss:List (List UndoD)) (w:World) (h:ItemRow w a xs) (hN:Nice a xs.length cap) (hu:UssAt w v uss) (hl:xs.length≤1048576) (hl2:uss.length + sumU uss≤1048576) :
    Calls Tryz.prog 36 #[.slice a xs.length cap,v] w fun e w' => ∃ b c,e=.returned (.agg #[.int .i64 (taC xs uss),.int .i64 0,.slice b (taI xs uss).length c]) ∧
      w'.ownsRow w.heap.size 134 2 (.slice b (taI xs uss).length c) (taI xs uss).length (itemCells (taI xs uss))∧Below w.heap.size w w' := by
  have hF:=fun w h=>implItemsFault_any a cap xs w h hl
  have hC:=fun w h=>copyItems_any a cap xs w h hN hl
  have hb0:Below w.heap.size w (w.alloc (.cells #[.int .i64 0,.int .i64 0,.slice none 0 0] 68)):=by go_grown
  have B0:=Blk.new w 68 #[.int .i64 0,.int .i64 0,.slice none 0 0]
  obtain ⟨va,vc,rfl⟩:=hu.shape
  rcases ta_ways xs uss with ⟨h0,e1,e2⟩ | ⟨h0,h1,e1,e2⟩ | ⟨h0,h1,e1,e2⟩
  case inl=>
    rw [e1,e2]
    clear e1 e2
    have p0:=B0.cell 0 _ rfl
    have p1:=B0.cell 1 _ rfl
    have p2:=B0.cell 2 _ rfl
    go_enter Tryz.func36,Tryz.ntmps36
    go_wp2
    refine bodyPost_ret (v:=.agg #[.int .i64 2,.int .i64 0,.slice none 0 0]) (by simp [results,Tryz.results36,go_sem,p0,p1,p2]) rfl ⟨_,_,rfl,World.ownsRow_nil _ _ _ _,?_⟩
    first
      | go_grown
      | (repeat' (refine Below.setCell ?_ (by dsimp only;omega) _)
         exact hb0)
  case inr.inl=>
    rw [e1,e2]
    have hne:(itemsF xs != 0)=true:=by simpa using h1
    clear h1 e1 e2
    generalize itemsF xs=r at hF hne
    go_enter Tryz.func36,Tryz.ntmps36
    go_wp2_with fail
    generalize w.alloc (.cells #[.int .i64 0,.int .i64 0,.slice none 0 0] 68)=W0 at hb0 B0
    refine (hF _ (h.below hb0)).mono ?_
    rintro e w1 ⟨rfl,hb⟩
    replace B0:=B0.below hb
    replace hb0:=hb0.trans (hb.mono hb0.size)
    clear hb
    have p0:=B0.cell 0 _ rfl
    have p1:=B0.cell 1 _ rfl
    have p2:=B0.cell 2 _ rfl
    have f0:=B0.frozen 0
    have f1:=B0.frozen 1
    have f2:=B0.frozen 2
    have hlt:=B0.lt
    clear B0
    go_wp2
    refine bodyPost_ret (v:=.agg #[.int .i64 r,.int .i64 0,.slice none 0 0]) (by simp [results,Tryz.results36,go_sem,p0,p1,p2]) rfl ⟨_,_,rfl,World.ownsRow_nil _ _ _ _,?_⟩
    repeat' (refine Below.setCell ?_ (by dsimp only;omega) _)
    exact hb0
  case inr.inr=>
    obtain ⟨h8,g⟩:=good_of_F h1
    rw [h1] at hF
    rw [e1,e2]
    clear h1 e1 e2
    refine (callsIn_wide (n:=5)).1 ?_
    refine callsIn_of_wp_marks Tryz.func36 rfl trivial ?_ rfl
    simp only [Tryz.ntmps36,List.size_toArray,List.length_cons,List.length_nil,Nat.reduceAdd,Nat.reduceSub,Array.replicate_succ,Array.replicate_zero,List.push_toArray,List.append_toArray,List.nil_append,List.cons_append]
    gi_wp2_with fail
    generalize w.alloc (.cells #[.int .i64 0,.int .i64 0,.slice none 0 0] 68)=W0 at hb0 B0
    refine ⟨trivial,(wide_call (hF _ (h.below hb0))).mono ?_⟩
    rintro e w1 ⟨rfl,hb⟩
    replace B0:=B0.below hb
    replace hb0:=hb0.trans (hb.mono hb0.size)
    clear hb
    gi_wp2_with fail
    refine ⟨trivial,(wide_call (hC _ (h.below hb0))).mono ?_⟩
    rintro e w2 ⟨ra,rc,rfl,o2,hb⟩
    have hlt0:=B0.lt
    replace B0:=B0.below hb
    have hs1:=hb0.size
    replace hb0:=hb0.trans (hb.mono hb0.size)
    have hs2:=hb.size
    clear hb
    have hb:Below w2.heap.size w2 (w2.alloc (.cells #[.int .i64 0,.int .i64 0,.slice ra xs.length rc] 68)):=by go_grown
    have Ba:=Blk.new w2 68 #[.int .i64 0,.int .i64 0,.slice ra xs.length rc]
    replace B0:=B0.below hb
    replace o2:=own_below o2 hb
    replace hb0:=hb0.trans (hb.mono hb0.size)
    have hs3:=hb.size
    clear hb
    gi_wp2_with fail
    generalize hw3:w2.alloc (.cells #[.int .i64 0,.int .i64 0,.slice ra xs.length rc] 68)=w3 at B0 Ba o2 hb0 hs3
    refine ⟨trivial,(wide_call (back_any va uss.length vc _)).mono ?_⟩
    rintro e w4 ⟨rfl,rfl⟩
    have hbB:Below w3.heap.size w3 (w3.alloc (.cells #[.slice va uss.length vc] 30)):=by go_grown
    have BB:=Blk.new w3 30 #[.slice va uss.length vc]
    have hs4:(w3.alloc (.cells #[.slice va uss.length vc] 30)).heap.size=w3.heap.size + 1:=by simp
    have hba:=Ba.lt
    replace B0:=B0.below hbB
    replace Ba:=Ba.below hbB
    replace o2:=own_below o2 hbB
    replace hb0:=hb0.trans (hbB.mono hb0.size)
    clear hbB
    obtain ⟨va',vc',ps,ev,hd,hL,hA⟩:=hu
    simp only [Value.slice.injEq,true_and] at ev
    obtain ⟨rfl,rfl⟩:=ev
    have hpl:ps.length=uss.length:=by rw [← hd];simp
    have hP:∀ j,UndoRow w (ps.getD j uspNo).a (ps.getD j uspNo).d∧(ps.getD j uspNo).d.length≤1048576:=by
      intro j
      by_cases hj:j < ps.length
      · have hm:ps.getD j uspNo∈ps:=by simp [List.getD,hj]
        refine ⟨hA _ hm,?_⟩
        have:=mem_le_sumU (ds:=uss) (d:=(ps.getD j uspNo).d) (by rw [← hd];exact List.mem_map_of_mem hm)
        omega
      · have e:ps.getD j uspNo=uspNo:=by simp [List.getD,show ps.length≤j by omega]
        rw [e]
        exact ⟨Or.inl rfl,by simp [uspNo]⟩
    have hall:(allX (w0:=w) (fun j=>ps.getD j uspNo) hP uss.length).map (fun x=>x.1.2.d)=uss:=by
      rw [← hd]
      unfold allX
      rw [List.map_map]
      apply List.ext_getElem
      · simp [hpl]
      · intro j h1 h2
        have h3:j < ps.length:=by simpa using h2
        simp [mkX,List.getD,h3]
    have hseq:=back_stops (w0:=w) (fun j=>ps.getD j uspNo) hP 4 (by omega) w3.heap.size (w3.heap.size + 1) w2.heap.size uss.length vc va (by omega) (by omega) (by omega) (w3.alloc (.cells #[.slice va uss.length vc] 30)) (by omega) (BB.cell 0 _ rfl) (fun j hj=>by
      rcases hL with h | ⟨b,off,ha,hlt,hc⟩
      · have:=usCells_length ps
        rw [h] at this
        simp at this
        omega
      · refine ⟨b,off,ha,by omega,by omega,?_⟩
        exact (hb0.cell (p:=⟨b,off + j,none⟩) hlt).trans (hc j _ (usCells_get ps j (by omega))))
    clear hL hA BB hF hC
    have hs5:w3.heap.size + 1≤(w3.alloc (.cells #[.slice va uss.length vc] 30)).heap.size:=by omega
    gi_wp2_with fail
    generalize w3.alloc (.cells #[.slice va uss.length vc] 30)=w4 at B0 Ba o2 hb0 hs5 hseq ⊢
    clear hs4
    generalize w2.heap.size=ba at *
    refine wpIn_rangeFunc_ownF rfl (by omega) (gf:=148) (lb:=#[.pointer (some ⟨w3.heap.size,0,none⟩)]) rfl trivial (enters_of Tryz.func148 (by kernel_rfl) rfl)
      hseq keepB_t (keepB_b (by omega)) (Below.refl _ _) (fun _=>rfl)
      (fun pre W=>(∃ ra rc,(tkF xs (pre.map fun x=>x.1.2.d)).1=0∧Blk W ba 68 #[.int .i64 0,.int .i64 0,.slice ra (tkF xs (pre.map fun x=>x.1.2.d)).2.length rc]∧W.ownsRow (w.heap.size + 1) 134 2 (.slice ra (tkF xs (pre.map fun x=>x.1.2.d)).2.length rc) (tkF xs (pre.map fun x=>x.1.2.d)).2.length (itemCells (tkF xs (pre.map fun x=>x.1.2.d)).2)) ∧
        Blk W w.heap.size 68 #[.int .i64 0,.int .i64 0,.slice none 0 0]∧w3.heap.size + 1≤W.heap.size∧Below w.heap.size w W)
      (fun c pre W=>c=.ret∧(∃ ra rc,(tkF xs (pre.map fun x=>x.1.2.d)).1≠0∧Blk W w.heap.size 68 #[.int .i64 (tkF xs (pre.map fun x=>x.1.2.d)).1,.int .i64 0,.slice ra (tkF xs (pre.map fun x=>x.1.2.d)).2.length rc]∧W.ownsRow (w.heap.size + 1) 134 2 (.slice ra (tkF xs (pre.map fun x=>x.1.2.d)).2.length rc) (tkF xs (pre.map fun x=>x.1.2.d)).2.length (itemCells (tkF xs (pre.map fun x=>x.1.2.d)).2)) ∧
        w3.heap.size + 1≤W.heap.size∧Below w.heap.size w W)
      (fun pre A B row hs hg hr=>by
        obtain ⟨⟨ra,rc,h1,h2,h3⟩,h4,h5,h6⟩:=hs
        have hr' := fun r e=>(hr r e).2
        exact ⟨⟨ra,rc,h1,h2.turned hg hr',own_turned h3 hg hr'⟩,h4.turned hg hr',Nat.le_trans h5 hg.size,h6.grown hg h6.size (fun k e=>by have:=(hr k e).1;omega)⟩)
      (fun c pre A B row hs hg hr=>by
        obtain ⟨h0,⟨ra,rc,h1,h2,h3⟩,h5,h6⟩:=hs
        have hr' := fun r e=>(hr r e).2
        exact ⟨h0,⟨ra,rc,h1,h2.turned hg hr',own_turned h3 hg hr'⟩,Nat.le_trans h5 hg.size,h6.grown hg h6.size (fun k e=>by have:=(hr k e).1;omega)⟩)
      ⟨⟨ra,rc,rfl,Ba,own_base o2 (by omega)⟩,B0,hs5,hb0⟩
      (fun x=>{ tmps:=#[.slice a xs.length cap,.slice va uss.length vc,undef,undef,.pointer (some ⟨w.heap.size,0,none⟩),.int .i64 0,.pointer (some ⟨ba,0,none⟩),undef,.slice x.1.2.a x.1.2.d.length x.1.2.cap,.slice va uss.length vc,.int .i64 uss.length,.bool (decide ((20:Int) < uss.length)),undef,.slice a xs.length cap,
          .int .i64 0,.int .i64 0,.bool false,undef,undef,.slice a xs.length cap,.slice ra xs.length rc,.agg #[.int .i64 0,.int .i64 0,.slice ra xs.length rc],.slice va uss.length vc,.func (.func 148) #[] #[.pointer (some ⟨w3.heap.size,0,none⟩)],.int .i64 (x.1.1:Int),.slice x.1.2.a x.1.2.d.length x.1.2.cap,undef,undef,undef,undef,undef,undef,undef,undef,undef],defers:=[] }) ?assign ?body ?done ?stop
    case assign=>
      intro l x W K hK
      dsimp only [UX.encs]
      gi_wp2
      exact hK
    case body=>
      rintro l pre x W ⟨⟨ya,yc,hz,BA,oY⟩,BR,hsW,hB⟩ _
      have hxr:=x.2.1
      have hxl:=x.2.2
      have HS:Hid (tkF xs ((pre ++ [x]).map fun x=>x.1.2.d)=(tbC (tkF xs (pre.map fun x=>x.1.2.d)).2 x.1.2.d,tbI (tkF xs (pre.map fun x=>x.1.2.d)).2 x.1.2.d)):=by
        show _=_
        rw [List.map_append,List.map_cons,List.map_nil,tkF_snoc]
        unfold tkS
        rw [if_pos hz]
      generalize x.1.2.a=xa at hxr ⊢
      generalize x.1.2.cap=xc
      generalize x.1.2.d=xd at hxr hxl HS ⊢
      generalize x.1.1=xi
      have hY8:(tkF xs (pre.map fun x=>x.1.2.d)).2.length≤1048576:=Nat.le_trans (tkF_le h8 _) (by decide)
      generalize (tkF xs (pre.map fun x=>x.1.2.d)).2=Y at BA oY HS hY8
      have hT:=fun W h hu=>implTakeBack_any ya yc Y xa xc xd W h hu hY8 hxl
      have p2:=BA.cell 2 _ rfl
      gi_wp2_with fail
      clear p2
      refine ⟨trivial,(CallsIn.inRound l (wide_call (hT W (Lies.own oY) (UndoRow.below hxr hB)))).mono ?_⟩
      rintro e W1 ⟨rb,rd,rfl,o1,hb⟩
      have hsW1:=hb.size
      have hbaW:=BA.lt
      replace BA:=BA.below hb
      replace BR:=BR.below hb
      have hB1:=hB.trans (hb.mono hB.size)
      have hszB:=hB.size
      replace o1:=own_base (base' := w.heap.size + 1) o1 (by omega)
      have hne:∀ k,(Value.slice rb (tbI Y xd).length rd).ownBlock=some k→k≠ba:=own_ne_blk o1 BA (by decide)
      have hne0:∀ k,(Value.slice rb (tbI Y xd).length rd).ownBlock=some k→k≠w.heap.size:=fun k hk=>by have:=(o1.lt k hk).1;omega
      have p0:=BA.cell 0 _ rfl
      have p1:=BA.cell 1 _ rfl
      have p2:=BA.cell 2 _ rfl
      have f0:=BA.frozen 0
      have f1:=BA.frozen 1
      have f2:=BA.frozen 2
      clear hT
      by_cases hc:tbC Y xd=0
      · rw [hc]
        rw [hc] at HS
        generalize tbI Y xd=YY at HS o1 hne hne0 ⊢
        have BA2:=((BA.set 0 (.int .i64 0)).set 1 (.int .i64 0)).set 2 (.slice rb YY.length rd)
        have BR2:Blk (((W1.setCell ⟨ba,0,none⟩ (.int .i64 0)).setCell ⟨ba,1,none⟩ (.int .i64 0)).setCell ⟨ba,2,none⟩ (.slice rb YY.length rd)) w.heap.size 68 #[.int .i64 0,.int .i64 0,.slice none 0 0]:=(Below.heap_setCell _ _ _ _ (by dsimp only;omega)).trans ((Below.heap_setCell _ _ _ _ (by dsimp only;omega)).trans ((Below.heap_setCell _ _ _ _ (by dsimp only;omega)).trans BR))
        have oY2:=own_set_other (j:=2) (u:=.slice rb YY.length rd) (own_set_other (j:=1) (u:=.int .i64 0) (own_set_other (j:=0) (u:=.int .i64 0) o1 hne) hne) hne
        have hB2:=((hB1.setCell (p:=⟨ba,0,none⟩) (by dsimp only;omega) (.int .i64 0)).setCell (p:=⟨ba,1,none⟩) (by dsimp only;omega) (.int .i64 0)).setCell (p:=⟨ba,2,none⟩) (by dsimp only;omega) (.slice rb YY.length rd)
        have hKO:KeepsOthers W (((W1.setCell ⟨ba,0,none⟩ (.int .i64 0)).setCell ⟨ba,1,none⟩ (.int .i64 0)).setCell ⟨ba,2,none⟩ (.slice rb YY.length rd)):=(((KeepsOthers.mk hb.size (fun k o hk _=>(hb.block k (Array.getElem?_eq_some_iff.1 hk).1).trans hk)).trans (KeepsOthers.setCell _ _ _)).trans (KeepsOthers.setCell _ _ _)).trans (KeepsOthers.setCell _ _ _)
        have hKB:KeepB (w3.heap.size + 1) ba W (((W1.setCell ⟨ba,0,none⟩ (.int .i64 0)).setCell ⟨ba,1,none⟩ (.int .i64 0)).setCell ⟨ba,2,none⟩ (.slice rb YY.length rd)):=fun k hk hn=>(Below.heap_setCell _ _ _ _ (by dsimp only;exact hn)).trans ((Below.heap_setCell _ _ _ _ (by dsimp only;exact hn)).trans ((Below.heap_setCell _ _ _ _ (by dsimp only;exact hn)).trans (hb.block k (by omega))))
        have RR:Hid (_∧_∧_∧_∧_∧_):=⟨BA2,BR2,oY2,hB2,hKO,hKB⟩
        clear BA2 BR2 oY2 hB2 hKO hKB BA BR o1 hB1 hb hB oY
        gi_wp2
        refine ⟨RR.out.2.2.2.2.1,RR.out.2.2.2.2.2,⟨rb,rd,by rw [HS.out],by rw [HS.out];simpa using RR.out.1,by rw [HS.out];exact RR.out.2.2.1⟩,RR.out.2.1,?_,RR.out.2.2.2.1⟩
        simp [World.setCell]
        omega
      · have hcn:(tbC Y xd != 0)=true:=by simpa using hc
        have HC:Hid (tbC Y xd≠0):=hc
        clear hc
        generalize tbC Y xd=C at HS hcn HC ⊢
        generalize tbI Y xd=YY at HS o1 hne hne0 ⊢
        have BA2:=((BA.set 0 (.int .i64 C)).set 1 (.int .i64 0)).set 2 (.slice rb YY.length rd)
        have BR2:Blk (((W1.setCell ⟨ba,0,none⟩ (.int .i64 C)).setCell ⟨ba,1,none⟩ (.int .i64 0)).setCell ⟨ba,2,none⟩ (.slice rb YY.length rd)) w.heap.size 68 #[.int .i64 0,.int .i64 0,.slice none 0 0]:=(Below.heap_setCell _ _ _ _ (by dsimp only;omega)).trans ((Below.heap_setCell _ _ _ _ (by dsimp only;omega)).trans ((Below.heap_setCell _ _ _ _ (by dsimp only;omega)).trans BR))
        have oY2:=own_set_other (j:=2) (u:=.slice rb YY.length rd) (own_set_other (j:=1) (u:=.int .i64 0) (own_set_other (j:=0) (u:=.int .i64 C) o1 hne) hne) hne
        have hB2:=((hB1.setCell (p:=⟨ba,0,none⟩) (by dsimp only;omega) (.int .i64 C)).setCell (p:=⟨ba,1,none⟩) (by dsimp only;omega) (.int .i64 0)).setCell (p:=⟨ba,2,none⟩) (by dsimp only;omega) (.slice rb YY.length rd)
        have hKO:KeepsOthers W (((W1.setCell ⟨ba,0,none⟩ (.int .i64 C)).setCell ⟨ba,1,none⟩ (.int .i64 0)).setCell ⟨ba,2,none⟩ (.slice rb YY.length rd)):=(((KeepsOthers.mk hb.size (fun k o hk _=>(hb.block k (Array.getElem?_eq_some_iff.1 hk).1).trans hk)).trans (KeepsOthers.setCell _ _ _)).trans (KeepsOthers.setCell _ _ _)).trans (KeepsOthers.setCell _ _ _)
        have hKB:KeepB (w3.heap.size + 1) ba W (((W1.setCell ⟨ba,0,none⟩ (.int .i64 C)).setCell ⟨ba,1,none⟩ (.int .i64 0)).setCell ⟨ba,2,none⟩ (.slice rb YY.length rd)):=fun k hk hn=>(Below.heap_setCell _ _ _ _ (by dsimp only;exact hn)).trans ((Below.heap_setCell _ _ _ _ (by dsimp only;exact hn)).trans ((Below.heap_setCell _ _ _ _ (by dsimp only;exact hn)).trans (hb.block k (by omega))))
        have r0:=BR2.cell 0 _ rfl
        have r1:=BR2.cell 1 _ rfl
        have r2:=BR2.cell 2 _ rfl
        have g0:=BR2.frozen 0
        have g1:=BR2.frozen 1
        have g2:=BR2.frozen 2
        have BR9:=((BR2.set 0 (.int .i64 C)).set 1 (.int .i64 0)).set 2 (.slice rb YY.length rd)
        have o9:=own_set_other (j:=2) (u:=.slice rb YY.length rd) (own_set_other (j:=1) (u:=.int .i64 0) (own_set_other (j:=0) (u:=.int .i64 C) oY2 hne0) hne0) hne0
        have hB9:=((hB2.setCell (p:=⟨w.heap.size,0,none⟩) (Nat.le_refl _) (.int .i64 C)).setCell (p:=⟨w.heap.size,1,none⟩) (Nat.le_refl _) (.int .i64 0)).setCell (p:=⟨w.heap.size,2,none⟩) (Nat.le_refl _) (.slice rb YY.length rd)
        have hK9:=((hKO.trans (KeepsOthers.setCell _ ⟨w.heap.size,0,none⟩ (.int .i64 C))).trans (KeepsOthers.setCell _ ⟨w.heap.size,1,none⟩ (.int .i64 0))).trans (KeepsOthers.setCell _ ⟨w.heap.size,2,none⟩ (.slice rb YY.length rd))
        have RR:Hid (_∧_∧_∧_):=⟨BR9,o9,hB9,hK9⟩
        clear BA2 BR2 oY2 hB2 hKO hKB BA BR o1 hB1 hb hB oY BR9 o9 hB9 hK9
        gi_wp2
        refine ⟨RR.out.2.2.2,rfl,⟨rb,rd,by rw [HS.out];exact HC.out,by rw [HS.out];simpa using RR.out.1,by rw [HS.out];exact RR.out.2.1⟩,?_,RR.out.2.2.1⟩
        simp [World.setCell]
        omega
    case done=>
      rintro D ys W hD rfl ⟨⟨ya,yc,hz,BA,oY⟩,BR,hsW,hB⟩ hK
      rw [List.map_reverse,hall,← taR_tkF] at hz BA oY
      have HZ:Hid ((taR xs uss).1=0):=hz
      clear hz
      generalize hYY:(taR xs uss).2=Y at BA oY
      have HY:Hid ((taR xs uss).2=Y):=hYY
      clear hYY
      have hne0:∀ k,(Value.slice ya Y.length yc).ownBlock=some k→k≠w.heap.size:=fun k hk=>by have:=(oY.lt k hk).1;omega
      have hbr:=BR.lt
      have p0:=BA.cell 0 _ rfl
      have p1:=BA.cell 1 _ rfl
      have p2:=BA.cell 2 _ rfl
      have r0:=BR.cell 0 _ rfl
      have r1:=BR.cell 1 _ rfl
      have r2:=BR.cell 2 _ rfl
      have g0:=BR.frozen 0
      have g1:=BR.frozen 1
      have g2:=BR.frozen 2
      have BR9:=((BR.set 0 (.int .i64 0)).set 1 (.int .i64 0)).set 2 (.slice ya Y.length yc)
      have o9:=own_set_other (j:=2) (u:=.slice ya Y.length yc) (own_set_other (j:=1) (u:=.int .i64 0) (own_set_other (j:=0) (u:=.int .i64 0) oY hne0) hne0) hne0
      have hB9:=((hB.setCell (p:=⟨w.heap.size,0,none⟩) (Nat.le_refl _) (.int .i64 0)).setCell (p:=⟨w.heap.size,1,none⟩) (Nat.le_refl _) (.int .i64 0)).setCell (p:=⟨w.heap.size,2,none⟩) (Nat.le_refl _) (.slice ya Y.length yc)
      have hK9:=(((KeepsOthers.setCell W ⟨w.heap.size,0,none⟩ (.int .i64 0)).trans (KeepsOthers.setCell _ ⟨w.heap.size,1,none⟩ (.int .i64 0))).trans (KeepsOthers.setCell _ ⟨w.heap.size,2,none⟩ (.slice ya Y.length yc))).same D _ hK rfl
      have RR:Hid (_∧_∧_∧_):=⟨BR9,o9,hB9,hK9⟩
      clear BA BR oY hB BR9 o9 hB9 hK9
      gi_wp2
      refine ⟨by simp,.inl ⟨_,_,rfl,run_takeDeferred RR.out.2.2.2,?_⟩⟩
      have hgp:=grownBy_putObj' (((W.setCell ⟨w.heap.size,0,none⟩ (.int .i64 0)).setCell ⟨w.heap.size,1,none⟩ (.int .i64 0)).setCell ⟨w.heap.size,2,none⟩ (.slice ya Y.length yc)) D (.deferred none)
      have hrp:∀ r,some D=some r→∃ o:Obj,(((W.setCell ⟨w.heap.size,0,none⟩ (.int .i64 0)).setCell ⟨w.heap.size,1,none⟩ (.int .i64 0)).setCell ⟨w.heap.size,2,none⟩ (.slice ya Y.length yc)).heap[r]? = some o∧o.isCells=false:=fun r e=>by cases e;exact ⟨_,RR.out.2.2.2,rfl⟩
      have Bf:=RR.out.1.turned hgp hrp
      have of:=own_turned RR.out.2.1 hgp hrp
      have hBf:=RR.out.2.2.1.trans (belowK_b (w:=w) (Nat.le_refl _) _ D _ (.deferred none) (by omega) RR.out.2.2.2 rfl rfl)
      have q0:=Bf.cell 0 (.int .i64 0) (by simp)
      have q1:=Bf.cell 1 (.int .i64 0) (by simp)
      have q2:=Bf.cell 2 (.slice ya Y.length yc) (by simp)
      refine ⟨.agg #[.int .i64 0,.int .i64 0,.slice ya Y.length yc],by simp [results,Tryz.results36,go_sem,q0,q1,q2],ya,yc,by rw [HZ.out,HY.out],by rw [HY.out];exact own_base of (by omega),hBf⟩
    case stop=>
      rintro D c pre W hD ⟨m,rfl⟩ ⟨rfl,⟨ya,yc,hz,BR,oY⟩,hsW,hB⟩ hK
      have hm:(((allX (w0:=w) (fun j=>ps.getD j uspNo) hP uss.length).drop m).reverse.map fun x=>x.1.2.d)=(uss.drop m).reverse:=by
        rw [List.map_reverse,List.map_drop,hall]
      rw [hm,← taR_tkF] at hz BR oY
      have hd9:=taR_drop uss m hz
      have hbad:=taR_bad hz
      rw [hbad] at BR oY
      have e1:(taR xs uss).1=(taR xs (uss.drop m)).1:=by rw [hd9]
      have e2:(taR xs uss).2=[]:=by rw [hd9]
      have E1:Hid ((taR xs uss).1=(taR xs (uss.drop m)).1):=e1
      have E2:Hid ((taR xs uss).2=[]):=e2
      clear e1 e2 hd9 hbad hz hm
      generalize (taR xs (uss.drop m)).1=C at BR E1
      gi_wp2
      refine ⟨by simp,.inl ⟨_,_,rfl,run_takeDeferred hK,?_⟩⟩
      have hgp:=grownBy_putObj' W D (.deferred none)
      have hrp:∀ r,some D=some r→∃ o:Obj,W.heap[r]? = some o∧o.isCells=false:=fun r e=>by cases e;exact ⟨_,hK,rfl⟩
      have Bf:=BR.turned hgp hrp
      have of:=own_turned oY hgp hrp
      have hBf:=hB.trans (belowK_b (w:=w) (Nat.le_refl _) _ D _ (.deferred none) (by omega) hK rfl rfl)
      have q0:=Bf.cell 0 _ rfl
      have q1:=Bf.cell 1 _ rfl
      have q2:=Bf.cell 2 _ rfl
      refine ⟨.agg #[.int .i64 C,.int .i64 0,.slice ya 0 yc],by simp [results,Tryz.results36,go_sem,q0,q1,q2],ya,yc,by rw [E1.out,E2.out];rfl,by rw [E2.out];exact own_base of (by omega),hBf⟩

end Go.Proofs.YtfdkcbafpiojkaaGreatDoor
