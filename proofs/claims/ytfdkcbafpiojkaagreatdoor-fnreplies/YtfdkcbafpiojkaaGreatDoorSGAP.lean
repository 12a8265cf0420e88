/- Texts joined, with what the laws reach alone. -/
import Derived.Test.YtfdkcbafpiojkaaGreatDoorSGAO
set_option linter.unusedVariables false
set_option linter.unusedSimpArgs false
namespace Go.Proofs.YtfdkcbafpiojkaaGreatDoor
open Go.RowKit Go.Maps Go.Sort Go.Shelf
open Go.BigFrame
set_option maxRecDepth 100000
theorem ex_zero {xs:List ItemD} {i s q:Int} {zs:List ActD} (h:exC xs i s q zs=0):itemsF xs=0∧txnF i s q zs=0∧(runA xs zs).1=0:=by
 by_cases h1:itemsF xs=0
 ·by_cases h2:txnF i s q zs=0
  ·refine ⟨h1,h2,?_⟩
   simpa [exC,h1,h2] using h
  ·simp [exC,h1,h2] at h
 ·simp [exC,h1] at h

theorem ex_not {xs:List ItemD} {i s q:Int} {zs:List ActD} (h:exC xs i s q zs≠0):exV xs i s q zs=0∧exR xs i s q zs=[]∧duU xs i s q zs=[]:=by
 simp [exV,exR,duU,h]

set_option maxRecDepth 100000 in
set_option maxHeartbeats 4000000 in
theorem implDoUndo_any (a:Option Addr) (cap:Nat) (xs:List ItemD) (i s q:Int) (ta:Option Addr) (tc:Nat) (zs:List ActD) (w:World) (h:ItemRow w a xs) (ht:ActRow w ta zs) (hl:xs.length≤1048576) (hl2:zs.length≤1048576) :
  Calls Tryz.prog 116 #[.slice a xs.length cap,.agg #[.int .i64 i,.int .i64 s,.int .i64 q,.slice ta zs.length tc]] w fun e w' => ∃ b c b2 c2,e=.returned (.agg #[.int .i64 (exC xs i s q zs),.int .i64 (exV xs i s q zs),.slice b (duU xs i s q zs).length c,.slice b2 (exR xs i s q zs).length c2]) ∧
   OwnU w.heap.size w'.heap.size w' (.slice b (duU xs i s q zs).length c) (.slice b2 (exR xs i s q zs).length c2) (duU xs i s q zs) (exR xs i s q zs)∧Below w.heap.size w w' := by
 have hE:=fun w h ht=>implExecTxn_any a cap xs i s q ta tc zs w h ht hl hl2
 have hb0:Below w.heap.size w ((w.alloc (.cells #[.int .i64 i,.int .i64 s,.int .i64 q,.slice ta zs.length tc] 49)).alloc (.cells #[.int .i64 0,.int .i64 0,.slice none 0 0,.slice none 0 0] 179)):=by go_grown
 have Bt:=(Blk.new w 49 #[.int .i64 i,.int .i64 s,.int .i64 q,.slice ta zs.length tc]).below (w' := (w.alloc (.cells #[.int .i64 i,.int .i64 s,.int .i64 q,.slice ta zs.length tc] 49)).alloc (.cells #[.int .i64 0,.int .i64 0,.slice none 0 0,.slice none 0 0] 179)) (by go_grown)
 have Br:=Blk.new (w.alloc (.cells #[.int .i64 i,.int .i64 s,.int .i64 q,.slice ta zs.length tc] 49)) 179 #[.int .i64 0,.int .i64 0,.slice none 0 0,.slice none 0 0]
 rw [World.size_alloc] at Br
 by_cases h0:exC xs i s q zs=0
 case neg=>
  obtain ⟨e1,e2,e3⟩:=ex_not h0
  have hne:(exC xs i s q zs != 0)=true:=by simpa using h0
  rw [e1,e2,e3]
  rw [e1,e2] at hE
  clear e1 e2 e3 h0
  generalize exC xs i s q zs=r at hE hne
  go_enter Tryz.func116,Tryz.ntmps116
  have p0:=Bt.cell 0 _ rfl
  have p1:=Bt.cell 1 _ rfl
  have p2:=Bt.cell 2 _ rfl
  have p3:=Bt.cell 3 _ rfl
  go_wp2_with fail
  clear p0 p1 p2 p3
  have hs0:=Br.lt
  have hge0:=hb0.size
  generalize (w.alloc (.cells #[.int .i64 i,.int .i64 s,.int .i64 q,.slice ta zs.length tc] 49)).alloc (.cells #[.int .i64 0,.int .i64 0,.slice none 0 0,.slice none 0 0] 179)=W0 at hb0 Bt Br hs0 hge0
  refine (hE _ (h.below hb0) (ht.below hb0)).mono ?_
  rintro e w1 ⟨ib,ic,rfl,o1,hb⟩
  replace Bt:=Bt.below hb
  replace Br:=Br.below hb
  replace hb0:=hb0.trans (hb.mono hb0.size)
  have hs1:=hb.size
  clear hb
  have hb:Below w1.heap.size w1 (w1.alloc (.cells #[.int .i64 r,.int .i64 0,.slice ib 0 ic] 68)):=by go_grown
  replace Br:=Br.below hb
  replace hb0:=hb0.trans (hb.mono hb0.size)
  have p0:=Br.cell 0 _ rfl
  have p1:=Br.cell 1 _ rfl
  have p2:=Br.cell 2 _ rfl
  have p3:=Br.cell 3 _ rfl
  have f0:=Br.frozen 0
  have f1:=Br.frozen 1
  have f2:=Br.frozen 2
  have f3:=Br.frozen 3
  clear hb
  go_wp2
  refine bodyPost_ret (v:=.agg #[.int .i64 r,.int .i64 0,.slice none 0 0,.slice none 0 0]) (by simp [results,Tryz.results116,go_sem,p0,p1,p2,p3]) rfl ⟨_,_,_,_,rfl,⟨OwnS.of (World.ownsRow_nil _ _ _ _),OwnS.of (World.ownsRow_nil _ _ _ _),Or.inl rfl⟩,?_⟩
  repeat' (refine Below.setCell ?_ (by dsimp only;omega) _)
  exact hb0
 case pos=>
  obtain ⟨z1,z2,z3⟩:=ex_zero h0
  obtain ⟨h8,g⟩:=good_of_F z1
  obtain ⟨⟨hz1,hz4⟩,hact⟩:=acts_of_F z2
  have hsh:=fun w h=>shelfOf_any a cap xs w h h8 g
  have hdu:duU xs i s q zs=unR xs zs:=by simp [duU,h0]
  have hta:∃ b off,ta=some ⟨b,off,none⟩∧b < w.heap.size:=by
   obtain ⟨b,off,e,hlt,_⟩:=ht.at 0 (by omega)
   exact ⟨b,off,e,hlt⟩
  have hun:=fun sb w hS ht hap=>undosOf_any sb xs ta tc zs w hS h8 g ht hap hz4 hact z3
  rw [hdu,h0]
  rw [h0] at hE
  clear hact z1 z2 z3 hdu h0 g
  generalize exV xs i s q zs=V at hE ⊢
  generalize exR xs i s q zs=R at hE ⊢
  generalize unR xs zs=U at hun ⊢
  go_enter Tryz.func116,Tryz.ntmps116
  have p0:=Bt.cell 0 _ rfl
  have p1:=Bt.cell 1 _ rfl
  have p2:=Bt.cell 2 _ rfl
  have p3:=Bt.cell 3 _ rfl
  go_wp2_with fail
  clear p0 p1 p2 p3
  have hs0:=Br.lt
  have hge0:=hb0.size
  generalize (w.alloc (.cells #[.int .i64 i,.int .i64 s,.int .i64 q,.slice ta zs.length tc] 49)).alloc (.cells #[.int .i64 0,.int .i64 0,.slice none 0 0,.slice none 0 0] 179)=W0 at hb0 Bt Br hs0 hge0
  refine (hE _ (h.below hb0) (ht.below hb0)).mono ?_
  rintro e w1 ⟨ib,ic,rfl,o1,hb⟩
  replace Bt:=Bt.below hb
  replace Br:=Br.below hb
  replace hb0:=hb0.trans (hb.mono hb0.size)
  have hs1:=hb.size
  clear hb
  have hb:Below w1.heap.size w1 (w1.alloc (.cells #[.int .i64 0,.int .i64 V,.slice ib R.length ic] 68)):=by go_grown
  have Bd:=Blk.new w1 68 #[.int .i64 0,.int .i64 V,.slice ib R.length ic]
  replace Br:=Br.below hb
  replace Bt:=Bt.below hb
  replace o1:=own_below o1 hb
  replace hb0:=hb0.trans (hb.mono hb0.size)
  have hs2:=hb.size
  clear hb
  go_wp2_with fail
  generalize w1.alloc (.cells #[.int .i64 0,.int .i64 V,.slice ib R.length ic] 68)=W2 at hb0 Bt Br Bd o1 hs2
  have hs3:=hb0.size
  have hW:Below W2.heap.size W2 W2.drew:=(Below.refl _ _).drew
  have hne:Nonempty (Lat W2):=⟨⟨W2,Below.refl _ _⟩⟩
  have k1:=Bd.lat 1 _ rfl
  have k2:=Bd.lat 2 _ rfl
  have k3:=Bt.lat 3 _ rfl
  refine beginX (S:=fun w' => ∃ u:Lat W2,w' = u.val) (R:=fun _ _=>False) 10 (by kernel_rfl) (fun _ _ _ _ h=>h.elim) ?_
  refine segX [(0,3),(4,2),(7,2)] 4 (by kernel_rfl) (by kernel_rfl) (by kernel_rfl) (by kernel_rfl) (by kernel_rfl) ⟨⟨_,hW⟩,rfl⟩ ?_
  simp only [pickR,List.toList_toArray,List.flatMap_cons,List.flatMap_nil,List.drop_succ_cons,List.drop_zero,List.take_succ_cons,List.take_zero,List.cons_append,List.nil_append,List.append_nil]
  repeat go_big_quiet_step (fail)
  refine wpQuiet_nil ?_
  refine callX 3 (some 18) 87 #[.slice a xs.length cap] 3 (by kernel_rfl) (by kernel_rfl) (by kernel_rfl) (by kernel_rfl) (by kernel_rfl) rfl ?_
  refine (hsh _ (h.below (hb0.trans (hW.mono hb0.size)))).mono ?_
  rintro e w3 ⟨rfl,hS,hb⟩
  have hwz:=hW.size
  replace hW:=hW.trans (hb.mono hW.size)
  have hsz3:=hb.size
  clear hb
  refine Or.inl ⟨_,rfl,⟨⟨_,hW⟩,rfl⟩,?_⟩
  simp only [Act.put,List.getElem_toArray,List.getElem_cons_succ,List.getElem_cons_zero,List.setIfInBounds_toArray,List.set_cons_zero,List.set_cons_succ]
  generalize W2.drew.heap.size=sb at hS hwz hsz3 ⊢
  refine callX 6 (some 21) 164 #[.map (some sb),.slice ta zs.length tc] 2 (by kernel_rfl) (by kernel_rfl) (by kernel_rfl) (by kernel_rfl) (by kernel_rfl) rfl ?_
  refine (hun _ _ hS (ht.below (hb0.trans (hW.mono hb0.size))) (fun b off e=>?_)).mono ?_
  ·obtain ⟨b',off',e',hlt⟩:=hta
   rw [e] at e'
   simp only [Option.some.injEq,Addr.mk.injEq,and_true] at e'
   omega
  rintro e w4 ⟨ub,uc,rfl,o4,hO⟩
  replace hW:=below_only hW hO hwz (by omega)
  clear hO hS
  refine Or.inl ⟨_,rfl,⟨⟨_,hW⟩,rfl⟩,?_⟩
  simp only [Act.put,List.getElem_toArray,List.getElem_cons_succ,List.getElem_cons_zero,List.setIfInBounds_toArray,List.set_cons_zero,List.set_cons_succ]
  refine oneX 9 _ 1 (by kernel_rfl) rfl (by kernel_rfl) ?_
  go_wp2
  refine ThenX.to ⟨Or.inr ⟨⟨_,hW⟩,rfl⟩,?_⟩
  refine oneX 10 _ 0 (by kernel_rfl) rfl (by kernel_rfl) ?_
  have hbr:=Br.lt
  have hap:=own_apart3' o1 o4 (by omega)
  replace Br:=Br.below hW
  replace o1:=own_below o1 hW
  replace hb0:=hb0.trans (hW.mono hb0.size)
  have p0:=Br.cell 0 _ rfl
  have p1:=Br.cell 1 _ rfl
  have p2:=Br.cell 2 _ rfl
  have p3:=Br.cell 3 _ rfl
  have f0:=Br.frozen 0
  have f1:=Br.frozen 1
  have f2:=Br.frozen 2
  have f3:=Br.frozen 3
  go_wp2
  refine ThenX.to ⟨Or.inl (by kernel_rfl),?_⟩
  refine endX (by kernel_rfl) ?_
  go_wp2
  have n1:∀ k,(Value.slice ub U.length uc).ownBlock=some k→k≠w.heap.size + 1:=fun k hk=>by have:=(o4.lt k hk).1;omega
  have n2:∀ k,(Value.slice ib R.length ic).ownBlock=some k→k≠w.heap.size + 1:=fun k hk=>by have:=(o1.lt k hk).1;omega
  refine bodyPost_ret (v:=.agg #[.int .i64 0,.int .i64 V,.slice ub U.length uc,.slice ib R.length ic]) (by simp [results,Tryz.results116,go_sem,p0,p1,p2,p3]) rfl ⟨_,_,_,_,rfl,⟨OwnS.of (own_base (own_set_other (own_set_other (own_set_other (own_set_other o4 n1) n1) n1) n1) (by omega)),OwnS.of (own_base (own_set_other (own_set_other (own_set_other (own_set_other o1 n2) n2) n2) n2) (by omega)),hap⟩,?_⟩
  repeat' (refine Below.setCell ?_ (by dsimp only;omega) _)
  exact hb0

end Go.Proofs.YtfdkcbafpiojkaaGreatDoor
