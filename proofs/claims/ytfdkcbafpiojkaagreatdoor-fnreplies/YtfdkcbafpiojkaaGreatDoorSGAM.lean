/- Texts joined, with what the laws reach alone. -/
import Derived.Test.YtfdkcbafpiojkaaGreatDoorSGAL
set_option linter.unusedVariables false
set_option linter.unusedSimpArgs false
namespace Go.Proofs.YtfdkcbafpiojkaaGreatDoor
open Go.RowKit Go.Maps
open Go.BigFrame
set_option maxRecDepth 100000
def exC (xs:List ItemD) (i s q:Int) (zs:List ActD):Int:=if itemsF xs≠0 then itemsF xs else if txnF i s q zs≠0 then txnF i s q zs else (runA xs zs).1

def exR (xs:List ItemD) (i s q:Int) (zs:List ActD):List ItemD:=if exC xs i s q zs=0 then (runA xs zs).2 else []

def lastK (zs:List ActD):Int:=(zs.getD (zs.length - 1) actNo).key

def exV (xs:List ItemD) (i s q:Int) (zs:List ActD):Int:=if exC xs i s q zs=0 then valI (runA xs zs).2 (lastK zs) else 0

theorem ex_bad {xs:List ItemD} {i s q:Int} {zs:List ActD} (h:itemsF xs≠0):exC xs i s q zs=itemsF xs∧exR xs i s q zs=[]∧exV xs i s q zs=0:=by
 have e:exC xs i s q zs=itemsF xs:=if_pos h
 exact ⟨e,by simp [exR,e,h],by simp [exV,e,h]⟩

theorem ex_bad2 {xs:List ItemD} {i s q:Int} {zs:List ActD} (h:itemsF xs=0) (h2:txnF i s q zs≠0):exC xs i s q zs=txnF i s q zs∧exR xs i s q zs=[]∧exV xs i s q zs=0:=by
 have e:exC xs i s q zs=txnF i s q zs:=by simp [exC,h,h2]
 exact ⟨e,by simp [exR,e,h2],by simp [exV,e,h2]⟩

theorem ex_bad3 {xs:List ItemD} {i s q:Int} {zs:List ActD} (h:itemsF xs=0) (h2:txnF i s q zs=0) (h3:(runA xs zs).1≠0):exC xs i s q zs=(runA xs zs).1∧exR xs i s q zs=[]∧exV xs i s q zs=0:=by
 have e:exC xs i s q zs=(runA xs zs).1:=by simp [exC,h,h2]
 exact ⟨e,by simp [exR,e,h3],by simp [exV,e,h3]⟩

theorem ex_ok {xs:List ItemD} {i s q:Int} {zs:List ActD} (h:itemsF xs=0) (h2:txnF i s q zs=0) (h3:(runA xs zs).1=0):exC xs i s q zs=0∧exR xs i s q zs=(runA xs zs).2∧exV xs i s q zs=valI (runA xs zs).2 (lastK zs):=by
 have e:exC xs i s q zs=0:=by simp [exC,h,h2,h3]
 exact ⟨e,by simp [exR,e],by simp [exV,e]⟩

theorem runA_cons (xs:List ItemD) (a:ActD) (r:List ActD):runA xs (a :: r)=if actC xs a=0 then runA (actN xs a) r else (actC xs a,[]):=rfl

theorem drop_act {zs:List ActD} {k:Nat} (h:k < zs.length):zs.drop k=zs.getD k actNo :: zs.drop (k + 1):=by
 have e:zs.getD k actNo=zs[k]:=by simp [List.getD,h]
 rw [List.drop_eq_getElem_cons h,e]

set_option maxRecDepth 100000 in
set_option maxHeartbeats 4000000 in
theorem implExecTxn_any (a:Option Addr) (cap:Nat) (xs:List ItemD) (i s q:Int) (ta:Option Addr) (tc:Nat) (zs:List ActD) (w:World) (h:ItemRow w a xs) (ht:ActRow w ta zs) (hl:xs.length≤1048576) (hl2:zs.length≤1048576) :
  Calls Tryz.prog 37 #[.slice a xs.length cap,.agg #[.int .i64 i,.int .i64 s,.int .i64 q,.slice ta zs.length tc]] w fun e w' => ∃ b c,e=.returned (.agg #[.int .i64 (exC xs i s q zs),.int .i64 (exV xs i s q zs),.slice b (exR xs i s q zs).length c]) ∧
   w'.ownsRow w.heap.size 134 2 (.slice b (exR xs i s q zs).length c) (exR xs i s q zs).length (itemCells (exR xs i s q zs))∧Below w.heap.size w w' := by
 have hF:=fun w h=>implItemsFault_any a cap xs w h hl
 have hT:=fun w h=>txnFault_any i s q ta tc zs w h hl2
 have hb0:Below w.heap.size w ((w.alloc (.cells #[.int .i64 i,.int .i64 s,.int .i64 q,.slice ta zs.length tc] 49)).alloc (.cells #[.int .i64 0,.int .i64 0,.slice none 0 0] 68)):=by go_grown
 have B0:=Blk.new (w.alloc (.cells #[.int .i64 i,.int .i64 s,.int .i64 q,.slice ta zs.length tc] 49)) 68 #[.int .i64 0,.int .i64 0,.slice none 0 0]
 have Bt:=(Blk.new w 49 #[.int .i64 i,.int .i64 s,.int .i64 q,.slice ta zs.length tc]).below (w' := (w.alloc (.cells #[.int .i64 i,.int .i64 s,.int .i64 q,.slice ta zs.length tc] 49)).alloc (.cells #[.int .i64 0,.int .i64 0,.slice none 0 0] 68)) (by go_grown)
 rw [World.size_alloc] at B0
 by_cases h0:itemsF xs=0
 case neg=>
  obtain ⟨e1,e2,e3⟩:=ex_bad (i:=i) (s:=s) (q:=q) (zs:=zs) h0
  rw [e1,e2,e3]
  have hne:(itemsF xs != 0)=true:=by simpa using h0
  clear h0 e1 e2 e3
  generalize itemsF xs=r at hF hne
  go_enter Tryz.func37,Tryz.ntmps37
  go_wp2_with fail
  generalize (w.alloc (.cells #[.int .i64 i,.int .i64 s,.int .i64 q,.slice ta zs.length tc] 49)).alloc (.cells #[.int .i64 0,.int .i64 0,.slice none 0 0] 68)=W0 at hb0 B0 Bt
  refine (hF _ (h.below hb0)).mono ?_
  rintro e w1 ⟨rfl,hb⟩
  replace B0:=B0.below hb
  replace hb0:=hb0.trans (hb.mono hb0.size)
  have p0:=B0.cell 0 _ rfl
  have p1:=B0.cell 1 _ rfl
  have p2:=B0.cell 2 _ rfl
  have f0:=B0.frozen 0
  have f1:=B0.frozen 1
  have f2:=B0.frozen 2
  have hlt:=B0.lt
  clear hb B0 Bt
  go_wp2
  refine bodyPost_ret (v:=.agg #[.int .i64 r,.int .i64 0,.slice none 0 0]) (by simp [results,Tryz.results37,go_sem,p0,p1,p2]) rfl ⟨_,_,rfl,World.ownsRow_nil _ _ _ _,?_⟩
  repeat' (refine Below.setCell ?_ (by dsimp only;omega) _)
  exact hb0
 by_cases h2:txnF i s q zs=0
 case neg=>
  obtain ⟨e1,e2,e3⟩:=ex_bad2 h0 h2
  rw [e1,e2,e3]
  have hne:(txnF i s q zs != 0)=true:=by simpa using h2
  rw [h0] at hF
  clear h0 h2 e1 e2 e3
  generalize txnF i s q zs=r at hT hne
  go_enter Tryz.func37,Tryz.ntmps37
  go_wp2_with fail
  generalize (w.alloc (.cells #[.int .i64 i,.int .i64 s,.int .i64 q,.slice ta zs.length tc] 49)).alloc (.cells #[.int .i64 0,.int .i64 0,.slice none 0 0] 68)=W0 at hb0 B0 Bt
  refine (hF _ (h.below hb0)).mono ?_
  rintro e w1 ⟨rfl,hb⟩
  replace B0:=B0.below hb
  replace Bt:=Bt.below hb
  replace hb0:=hb0.trans (hb.mono hb0.size)
  have q0:=Bt.cell 0 _ rfl
  have q1:=Bt.cell 1 _ rfl
  have q2:=Bt.cell 2 _ rfl
  have q3:=Bt.cell 3 _ rfl
  clear hb
  go_wp2_with fail
  clear q0 q1 q2 q3 Bt
  refine (hT _ (ht.below hb0)).mono ?_
  rintro e w2 ⟨rfl,hb⟩
  replace B0:=B0.below hb
  replace hb0:=hb0.trans (hb.mono hb0.size)
  have p0:=B0.cell 0 _ rfl
  have p1:=B0.cell 1 _ rfl
  have p2:=B0.cell 2 _ rfl
  have f0:=B0.frozen 0
  have f1:=B0.frozen 1
  have f2:=B0.frozen 2
  have hlt:=B0.lt
  clear hb B0
  go_wp2
  refine bodyPost_ret (v:=.agg #[.int .i64 r,.int .i64 0,.slice none 0 0]) (by simp [results,Tryz.results37,go_sem,p0,p1,p2]) rfl ⟨_,_,rfl,World.ownsRow_nil _ _ _ _,?_⟩
  repeat' (refine Below.setCell ?_ (by dsimp only;omega) _)
  exact hb0
 obtain ⟨h8,g⟩:=good_of_F h0
 obtain ⟨⟨hz1,hz4⟩,hact⟩:=acts_of_F h2
 have HB:Hid ((runA xs zs).1≠0→exC xs i s q zs=(runA xs zs).1∧exR xs i s q zs=[]∧exV xs i s q zs=0):=fun h3=>ex_bad3 h0 h2 h3
 have HK:Hid ((runA xs zs).1=0→exC xs i s q zs=0∧exR xs i s q zs=(runA xs zs).2∧exV xs i s q zs=valI (runA xs zs).2 (lastK zs)):=fun h3=>ex_ok h0 h2 h3
 have HA:Hid (∀ a∈zs,actF a=0):=hact
 have hsh:=fun w h=>shelfOf_any a cap xs w h h8 g
 rw [h0] at hF
 rw [h2] at hT
 clear h0 h2 hact
 go_enter Tryz.func37,Tryz.ntmps37
 go_wp2_with fail
 generalize (w.alloc (.cells #[.int .i64 i,.int .i64 s,.int .i64 q,.slice ta zs.length tc] 49)).alloc (.cells #[.int .i64 0,.int .i64 0,.slice none 0 0] 68)=W0 at hb0 B0 Bt
 refine (hF _ (h.below hb0)).mono ?_
 rintro e w1 ⟨rfl,hb⟩
 replace B0:=B0.below hb
 replace Bt:=Bt.below hb
 replace hb0:=hb0.trans (hb.mono hb0.size)
 have q0:=Bt.cell 0 _ rfl
 have q1:=Bt.cell 1 _ rfl
 have q2:=Bt.cell 2 _ rfl
 have q3:=Bt.cell 3 _ rfl
 clear hb
 go_wp2_with fail
 clear q0 q1 q2 q3
 refine (hT _ (ht.below hb0)).mono ?_
 rintro e w2 ⟨rfl,hb⟩
 replace B0:=B0.below hb
 replace Bt:=Bt.below hb
 replace hb0:=hb0.trans (hb.mono hb0.size)
 clear hb
 go_wp2_with fail
 refine (hsh _ (h.below hb0)).mono ?_
 rintro e w3 ⟨rfl,hS,hb⟩
 have hs0:=B0.lt
 have hst:=Bt.lt
 replace B0:=B0.below hb
 replace Bt:=Bt.below hb
 have ht0:=ht.below hb0
 replace ht:=ht.below (hb0.trans (hb.mono hb0.size))
 have hs3:=hS.lt
 have hbw:Below w.heap.size w w3:=hb0.trans (hb.mono hb0.size)
 have hsz0:=hb0.size
 have hrow:∀ k,k < zs.length→∃ b off,ta=some ⟨b,off,none⟩∧b < w2.heap.size:=fun k hk=>by
  obtain ⟨b,off,e,hbs,_⟩:=(ht0:ActRow w2 ta zs).at k hk
  exact ⟨b,off,e,hbs⟩
 clear hb hsh hT hF h
 generalize w2.heap.size=sb at *
 have q3:=Bt.cell 3 _ rfl
 go_wp2
 clear q3
 have hS3:=hS
 clear hS
 go_loopw [29] (fun j wr=>∃ (k:Nat) (cur:List ItemD),k≤zs.length∧j=.int .i64 k∧ShelfAt wr sb cur∧cur.length≤8∧Hid (Good cur∧runA cur (zs.drop k)=runA xs zs)∧Below sb w3 wr) (fun j _=>zs.length - (intOf j).toNat)
 case atStart=>exact ⟨0,xs,Nat.zero_le _,rfl,hS3,h8,⟨g,by simp⟩,Below.refl _ _⟩
 case round=>
  clear hS3
  obtain ⟨k,cur,hk,rfl,hS,hc8,HG,hb⟩:=hrel
  have hsb:=hS.lt
  by_cases hlt:k < zs.length
  ·obtain ⟨b,off,rfl,hbs⟩:=hrow k hlt
   obtain ⟨b',off',e,_,hc0,hc1,hc2⟩:=ht.at k hlt
   simp only [Option.some.injEq,Addr.mk.injEq,and_true] at e
   obtain ⟨rfl,rfl⟩:=e
   replace hc0:wr.cell? ⟨b,off + k * 3,none⟩=_:=(hb.cell (p:=⟨b,off + k * 3,none⟩) hbs).trans hc0
   replace hc1:wr.cell? ⟨b,off + k * 3 + 1,none⟩=_:=(hb.cell (p:=⟨b,off + k * 3 + 1,none⟩) hbs).trans hc1
   replace hc2:wr.cell? ⟨b,off + k * 3 + 2,none⟩=_:=(hb.cell (p:=⟨b,off + k * 3 + 2,none⟩) hbs).trans hc2
   have haz:=HA.out (zs.getD k actNo) (by simp [List.getD,hlt])
   have hdo:=fun w h=>do_any sb cur (zs.getD k actNo).kind (zs.getD k actNo).key (zs.getD k actNo).val w h hc8 HG.out.1 haz
   change ∀ w h,Calls _ _ _ _ fun e w' => e=.returned (.int .i64 (actC cur (zs.getD k actNo)))∧(actC cur (zs.getD k actNo)=0→ShelfAt w' sb (actN cur (zs.getD k actNo)))∧_ at hdo
   have HD:Hid (runA cur (zs.getD k actNo :: zs.drop (k + 1))=runA xs zs):=by
    have:=HG.out.2
    rw [drop_act hlt] at this
    exact this
   by_cases hF:actC cur (zs.getD k actNo)=0
   ·obtain ⟨hn8,hng⟩:=act_good hc8 HG.out.1 haz hF
    have HR2:Hid (Good (actN cur (zs.getD k actNo))∧runA (actN cur (zs.getD k actNo)) (zs.drop (k + 1))=runA xs zs):=⟨hng,by
     have:=HD.out
     rw [runA_cons,if_pos hF] at this
     exact this⟩
    rw [hF] at hdo
    clear HD hng HG haz hF
    generalize actN cur (zs.getD k actNo)=nx at hdo HR2 hn8
    generalize zs.getD k actNo=z at hc0 hc1 hc2 hdo
    obtain ⟨z0,z1,z2⟩:=z
    dsimp only at hc0 hc1 hc2 hdo
    have hS0:ShelfAt (wr.alloc (.cells #[.int .i64 z0,.int .i64 z1,.int .i64 z2] 146)) sb cur:=hS.below (by go_grown)
    have hbA:Below sb w3 (wr.alloc (.cells #[.int .i64 z0,.int .i64 z1,.int .i64 z2] 146)):=hb.alloc (by omega) _
    go_wp2_with fail
    refine (hdo _ hS0).mono ?_
    rintro e w5 ⟨rfl,hN,hO⟩
    have hb5:=below_only hbA hO (Nat.le_refl _) (by simp;omega)
    have hS5:=hN (by first | trivial | rfl)
    clear hdo hN hO hbA hS0 hS hb
    go_wp2
    go_roundw
    case rel=>exact ⟨k + 1,nx,by omega,by go_num,hS5,hn8,HR2,hb5⟩
    case measure=>simp [intOf];omega
   ·have HC:Hid (runA xs zs=(actC cur (zs.getD k actNo),[])):=by
     have:=HD.out
     rw [runA_cons,if_neg hF] at this
     exact this.symm
    have HE:Hid (exC xs i s q zs=actC cur (zs.getD k actNo)∧exR xs i s q zs=[]∧exV xs i s q zs=0):=by
     have:=HB.out (by rw [HC.out];exact hF)
     rw [HC.out] at this
     exact this
    have hne:(actC cur (zs.getD k actNo) != 0)=true:=by simpa using hF
    clear HD HG haz hF HC
    generalize actC cur (zs.getD k actNo)=r at hdo HE hne
    generalize zs.getD k actNo=z at hc0 hc1 hc2 hdo
    obtain ⟨z0,z1,z2⟩:=z
    dsimp only at hc0 hc1 hc2 hdo
    have hS0:ShelfAt (wr.alloc (.cells #[.int .i64 z0,.int .i64 z1,.int .i64 z2] 146)) sb cur:=hS.below (by go_grown)
    have hbA:Below sb w3 (wr.alloc (.cells #[.int .i64 z0,.int .i64 z1,.int .i64 z2] 146)):=hb.alloc (by omega) _
    go_wp2_with fail
    refine (hdo _ hS0).mono ?_
    rintro e w5 ⟨rfl,_,hO⟩
    have hb5:=below_only hbA hO (Nat.le_refl _) (by simp;omega)
    replace B0:Blk w5 _ _ _:=(hb5.block _ hs0).trans B0
    have p0:=B0.cell 0 _ rfl
    have p1:=B0.cell 1 _ rfl
    have p2:=B0.cell 2 _ rfl
    have f0:=B0.frozen 0
    have f1:=B0.frozen 1
    have f2:=B0.frozen 2
    have hlt5:=B0.lt
    clear hdo hO hbA hS0 hS hb B0
    go_wp2
    refine bodyPost_ret (v:=.agg #[.int .i64 r,.int .i64 0,.slice none 0 0]) (by simp [results,Tryz.results37,go_sem,p0,p1,p2]) rfl ?_
    rw [HE.out.1,HE.out.2.1,HE.out.2.2]
    refine ⟨_,_,rfl,World.ownsRow_nil _ _ _ _,?_⟩
    repeat' (refine Below.setCell ?_ (by dsimp only;omega) _)
    exact hbw.trans (hb5.mono hsz0)
  ·have hkl:k=zs.length:=by omega
   have HC:Hid (runA xs zs=(0,cur)):=by
    have:=HG.out.2
    rw [hkl,List.drop_length] at this
    exact this.symm
   have HE:Hid (exC xs i s q zs=0∧exR xs i s q zs=cur∧exV xs i s q zs=valI cur (lastK zs)):=by
    have:=HK.out (by rw [HC.out])
    rw [HC.out] at this
    exact this
   have hg:=HG.out.1
   subst hkl
   obtain ⟨n,hn⟩:∃ n,zs.length=n + 1:=⟨zs.length - 1,by omega⟩
   obtain ⟨b,off,rfl,hbs⟩:=hrow n (by omega)
   obtain ⟨b',off',e,_,hc0,hc1,hc2⟩:=ht.at n (by omega)
   simp only [Option.some.injEq,Addr.mk.injEq,and_true] at e
   obtain ⟨rfl,rfl⟩:=e
   replace hc1:wr.cell? ⟨b,off + n * 3 + 1,none⟩=_:=(hb.cell (p:=⟨b,off + n * 3 + 1,none⟩) hbs).trans hc1
   have hkey:=(actF_zero (HA.out (zs.getD n actNo) (by simp [List.getD,show n < zs.length by omega]))).2.1
   have HL:Hid (lastK zs=(zs.getD n actNo).key):=by
    show _=_
    unfold lastK
    rw [hn,Nat.add_sub_cancel]
   generalize (zs.getD n actNo).key=kk at hc1 hkey HL
   have HV:Hid (exV xs i s q zs=valI cur kk):=by
    have:=HE.out.2.2
    rw [HL.out] at this
    exact this
   generalize hvv:valI cur kk=vv at HV
   have HVV:Hid (valI cur kk=vv):=hvv
   replace B0:Blk wr _ _ _:=(hb.block _ hs0).trans B0
   replace Bt:Blk wr _ _ _:=(hb.block _ hst).trans Bt
   have q3:=Bt.cell 3 _ rfl
   clear hc0 hc2 HC HG HL hvv
   go_wp2_with fail
   clear q3 hc1 Bt
   refine text_begin (S:=fun w' => ∃ u:KeepP (fun u=>ShelfAt u sb cur),w' = u.val) (by kernel_rfl) ?_
   have hne:Nonempty (KeepP (fun u=>ShelfAt u sb cur)):=⟨⟨wr,hS⟩⟩
   have hSd:ShelfAt wr.drew sb cur:=hS
   refine seg_range [(0,2),(3,1)] 4 (by kernel_rfl) (by kernel_rfl) (by kernel_rfl) (by kernel_rfl) (by kernel_rfl) ⟨⟨wr.drew,hSd⟩,rfl⟩ ?_
   simp only [pickR,List.toList_toArray,List.flatMap_cons,List.flatMap_nil,List.drop_succ_cons,List.drop_zero,List.take_succ_cons,List.take_zero,List.cons_append,List.nil_append,List.append_nil]
   repeat go_big_quiet_step (fail)
   refine wpQuiet_nil ?_
   refine quiet_at 2 (some 52) (.int .i64 vv) 3 (by kernel_rfl) (by kernel_rfl) (by kernel_rfl) (by kernel_rfl) (by kernel_rfl) ?hrun ⟨⟨wr.drew,hSd⟩,rfl⟩ ?_
   case hrun=>
    intro u hu
    obtain ⟨x,rfl⟩:=hu
    obtain ⟨c,hr,hat,_⟩:=World.ownsMap.lookup_int x.isP lawI64 Tryz.underlying143 Tryz.underlying2 (zeroI64 _) (keyI64 (k:=kk) (by omega))
    rw [shelf_at,HVV.out] at hat
    simp only [DataW.lit.injEq,Lit.int.injEq,true_and] at hat
    subst hat
    show some (Sem.run Tryz.prog (do let v ← Instr.lookup 143 (.map (some sb)) (.int .i64 kk) false;pure (Next.value v)) x.val)=_
    rw [Sem.run_bind,hr]
    rfl
   simp only [Act.put,List.getElem_toArray,List.getElem_cons_succ,List.getElem_cons_zero,List.setIfInBounds_toArray,List.set_cons_zero,List.set_cons_succ]
   refine call_at 4 (some 54) 89 #[.map (some sb)] 2 (by kernel_rfl) (by kernel_rfl) (by kernel_rfl) (by kernel_rfl) (by kernel_rfl) ?_
   refine (items_any sb cur _ hSd hc8 hg).mono ?_
   rintro e w6 ⟨ra,rc,rfl,ro,hb6⟩
   have hS6:=hSd.below hb6
   refine ⟨_,rfl,⟨⟨w6,hS6⟩,rfl⟩,?_⟩
   simp only [Act.put,List.getElem_toArray,List.getElem_cons_succ,List.getElem_cons_zero,List.setIfInBounds_toArray,List.set_cons_zero,List.set_cons_succ]
   refine seg_range [(5,1)] 1 (by kernel_rfl) (by kernel_rfl) (by kernel_rfl) (by kernel_rfl) (by kernel_rfl) ⟨⟨w6,hS6⟩,rfl⟩ ?_
   simp only [pickR,List.toList_toArray,List.flatMap_cons,List.flatMap_nil,List.drop_succ_cons,List.drop_zero,List.take_succ_cons,List.take_zero,List.cons_append,List.nil_append,List.append_nil]
   repeat go_big_quiet_step (fail)
   refine wpQuiet_nil ?_
   refine one_at 6 _ 0 (by kernel_rfl) rfl (by kernel_rfl) ?_
   have hsd:wr.drew.heap.size=wr.heap.size:=rfl
   rw [hsd] at ro hb6
   have hbd:Below wr.heap.size wr wr.drew:=(Below.refl _ _).drew
   replace B0:=B0.below (hbd.trans hb6)
   have hbf:Below w.heap.size w w6:=(hbw.trans (hb.mono hsz0)).trans ((hbd.trans hb6).mono (by omega))
   have p0:=B0.cell 0 _ rfl
   have p1:=B0.cell 1 _ rfl
   have p2:=B0.cell 2 _ rfl
   have f0:=B0.frozen 0
   have f1:=B0.frozen 1
   have f2:=B0.frozen 2
   have hl6:=B0.lt
   clear B0 hb6 hbd hne
   go_wp2
   refine ThenGo.to ⟨⟨⟨_,World.ownsMap.setCell (World.ownsMap.setCell (World.ownsMap.setCell hS6 (by dsimp only;omega) _) (by dsimp only;omega) _) (by dsimp only;omega) _⟩,rfl⟩,?_⟩
   refine text_end (by kernel_rfl) ?_
   go_wp2
   refine bodyPost_ret (v:=.agg #[.int .i64 0,.int .i64 vv,.slice ra cur.length rc]) (by simp [results,Tryz.results37,go_sem,p0,p1,p2]) rfl ?_
   rw [HE.out.1,HE.out.2.1,HV.out]
   refine ⟨_,_,rfl,?_,?_⟩
   ·refine own_base (base:=wr.heap.size) ?_ (by omega)
    repeat' (refine ownsRow_setCell_below ?_ (by dsimp only;omega) _)
    exact ro
   ·repeat' (refine Below.setCell ?_ (by dsimp only;omega) _)
    exact hbf

end Go.Proofs.YtfdkcbafpiojkaaGreatDoor
namespace Go.Proofs.YtfdkcbafpiojkaaGreatDoor
open Go.RowKit Go.Maps
open Go.BigFrame
set_option maxRecDepth 100000
theorem layC_len {xs:List ItemD} (g:Good xs) (hl:xs.length≤8) (k v:Int) (hv:inW v (-20000) 20000=true) :
  (8 < (setI xs ⟨k,v⟩).length∧layC xs k v=7)∨(¬ 8 < (setI xs ⟨k,v⟩).length∧layC xs k v=0):=by
 rw [setI_length g]
 dsimp only
 rcases layC_ways xs k v with ⟨h1,_⟩ | ⟨_,h2,e⟩ | ⟨_,h2,h3,e⟩ | ⟨_,h2,h3,e⟩
 ·rw [hv] at h1;simp at h1
 ·right;rw [h2];exact ⟨by simp;omega,e⟩
 ·left;rw [h2];exact ⟨by simp;omega,e⟩
 ·right;rw [h2];exact ⟨by simp;omega,e⟩

/-- The slice's block, if there is one, is a block of items. -/
def ItB (w:World) (a:Option Addr):Prop:=∀ x off,a=some ⟨x,off,none⟩→∃ cs,w.heap[x]? = some (.cells cs 134 (0,0))

theorem own_itb {w:World} {base n c:Nat} {a:Option Addr} {xs:List Value} (h:w.ownsRow base 134 2 (.slice a n c) n xs):ItB w a:=by
 intro x off e
 subst e
 rcases h.2 with ⟨hv,_⟩ | ⟨g,cap,cur,hv,_,hh,_⟩
 ·simp at hv
 ·simp only [Value.slice.injEq,Option.some.injEq,Addr.mk.injEq,and_true] at hv
  obtain ⟨⟨rfl,rfl⟩,_⟩:=hv
  exact ⟨_,hh⟩

/-- What an act comes to in the model. -/
def ActPost (w:World) (a:Option Addr) (xs:List ItemD) (z:ActD) (e:Ending) (w' : World):Prop:=
 ∃ b n c,e=.returned (.tuple #[.slice b n c,.int .i64 (actC xs z)])∧(actC xs z=0→n=(actN xs z).length∧ItemRow w' b (actN xs z)∧Nice b n c∧(b=a∨ItB w' b))∧Below w.heap.size w w'

set_option maxRecDepth 100000 in
set_option maxHeartbeats 4000000 in
theorem l3Act_any (a:Option Addr) (cap:Nat) (xs:List ItemD) (pb po:Nat) (k y v:Int) (w:World) (h:ItemRow w a xs) (hN:Nice a xs.length cap) (hl:xs.length≤8) (g:Good xs) (ha:actF ⟨k,y,v⟩=0)
  (p0:w.cell? ⟨pb,po,none⟩=some (.int .i64 k)) (p1:w.cell? ⟨pb,po + 1,none⟩=some (.int .i64 y)) (p2:w.cell? ⟨pb,po + 2,none⟩=some (.int .i64 v)) :
  Calls Tryz.prog 170 #[.slice a xs.length cap,.pointer (some ⟨pb,po,none⟩)] w (ActPost w a xs ⟨k,y,v⟩):=by
 obtain ⟨hk,hy,hv⟩:=actF_zero ha
 dsimp only at hk hy hv
 have hgv:=g.valI y
 have hat:=fun w h=>l3At_any a cap xs y w h (by omega)
 have hval:=fun w h=>l3Value_any a cap xs y w h (by omega)
 have hset:=fun x1 w h=>l3Set_any a cap xs y x1 w h (by omega)
 have hdrop:=fun w h=>l3Drop_any a cap xs y w h (by omega)
 have hin:=fun v w=>l1InW_any v (-20000) 20000 w
 have hsr:∀ x1,setR ⟨y,x1⟩ false xs=setI xs ⟨y,x1⟩:=fun x1=>setR_false ⟨y,x1⟩ g.rise
 simp only [hsr] at hset
 rcases (show k=1∨k=2∨k=3∨k=4 by omega) with rfl | rfl | rfl | rfl
 ·have e1:actC xs ⟨1,y,v⟩=layC xs y v:=by simp [actC]
  have e2:actN xs ⟨1,y,v⟩=setI xs ⟨y,v⟩:=by simp [actN]
  unfold ActPost
  rw [e1,e2]
  clear e1 e2
  have hiw:inW v (-20000) 20000=true:=by simp [inW];omega
  replace hset:=hset v
  go_enter Tryz.func170,Tryz.ntmps170
  go_wp2_with fail
  refine (hat _ h).mono ?_
  rintro e w' ⟨r,rfl,hr,hw⟩
  replace hw:=hw.symm
  subst hw
  clear hr
  rcases layC_len g hl y v hiw with ⟨h8,e⟩ | ⟨h8,e⟩
  ·have E:Hid (layC xs y v=7):=e
   clear e hat hval hdrop
   generalize setI xs ⟨y,v⟩=N at hset h8
   go_wp2_with fail
   refine (hset _ h).mono ?_
   rintro e w' ⟨b,c,rfl,ho,hb⟩
   clear hset
   go_wp2
   refine bodyPost_ret (v:=.tuple #[.slice none 0 0,.int .i64 7]) (by simp [results,Tryz.results170,go_sem]) rfl ?_
   rw [E.out]
   exact ⟨_,_,_,rfl,fun h=>by simp at h,hb⟩
  ·have E:Hid (layC xs y v=0):=e
   clear e hat hval hdrop
   generalize hNe:setI xs ⟨y,v⟩=N at hset h8
   have HN:Hid (setI xs ⟨y,v⟩=N):=hNe
   clear hNe
   go_wp2_with fail
   refine (hset _ h).mono ?_
   rintro e w' ⟨b,c,rfl,ho,hb⟩
   have hrow:ItemRow w' b N:=Lies.own ho
   have hnc:Nice b N.length c∧(b=a∨ItB w' b):=⟨nice_own ho,Or.inr (own_itb ho)⟩
   clear hset ho
   go_wp2
   refine bodyPost_ret (v:=.tuple #[.slice b N.length c,.int .i64 0]) (by simp [results,Tryz.results170,go_sem]) rfl ?_
   rw [E.out,HN.out]
   exact ⟨_,_,_,rfl,fun _=>⟨rfl,hrow,hnc⟩,hb⟩
 ·have e1:actC xs ⟨2,y,v⟩=layC xs y (valI xs y + v):=by simp [actC]
  have e2:actN xs ⟨2,y,v⟩=setI xs ⟨y,(valI xs y + v)⟩:=by simp [actN]
  unfold ActPost
  rw [e1,e2]
  clear e1 e2
  replace hset:=hset (valI xs y + v)
  go_enter Tryz.func170,Tryz.ntmps170
  go_wp2_with fail
  refine (hat _ h).mono ?_
  rintro e w' ⟨r,rfl,hr,hw⟩
  replace hw:=hw.symm
  subst hw
  clear hr hat
  replace hin:=hin (valI xs y + v)
  cases hiw:inW (valI xs y + v) (-20000) 20000
  ·have E:Hid (layC xs y (valI xs y + v)=3):=if_pos hiw
   rw [hiw] at hin
   clear hset hdrop
   generalize hce:valI xs y=cv at hval hgv hin
   have HC:Hid (valI xs y=cv):=hce
   clear hce hiw
   have e3:Hid (v + cv=cv + v):=Int.add_comm v cv
   go_wp2_with fail
   refine (hval _ h).mono ?_
   rintro e w' ⟨rfl,hw⟩
   replace hw:=hw.symm
   subst hw
   rw [Int.add_comm cv v] at hin
   go_wp2_with fail
   refine (hin _).mono ?_
   rintro e w' ⟨rfl,hw⟩
   replace hw:=hw.symm
   subst hw
   go_wp2
   refine bodyPost_ret (v:=.tuple #[.slice none 0 0,.int .i64 3]) (by simp [results,Tryz.results170,go_sem]) rfl ?_
   rw [E.out]
   exact ⟨_,_,_,rfl,fun h=>by simp at h,Below.refl _ _⟩
  ·rw [hiw] at hin
   rcases layC_len g hl y (valI xs y + v) hiw with ⟨h8,e⟩ | ⟨h8,e⟩
   ·have E:Hid (layC xs y (valI xs y + v)=7):=e
    clear e hdrop hiw
    generalize setI xs ⟨y,valI xs y + v⟩=N at hset h8
    have EE:Hid (layC xs y (valI xs y + v)=7):=E
    clear E
    generalize hcv:valI xs y=cv at hval hgv hin hset
    clear hcv
    rw [Int.add_comm cv v] at hin hset
    go_wp2_with fail
    refine (hval _ h).mono ?_
    rintro e w' ⟨rfl,hw⟩
    replace hw:=hw.symm
    subst hw
    go_wp2_with fail
    refine (hin _).mono ?_
    rintro e w' ⟨rfl,hw⟩
    replace hw:=hw.symm
    subst hw
    go_wp2_with fail
    refine (hset _ h).mono ?_
    rintro e w' ⟨b,c,rfl,ho,hb⟩
    clear hset
    go_wp2
    refine bodyPost_ret (v:=.tuple #[.slice none 0 0,.int .i64 7]) (by simp [results,Tryz.results170,go_sem]) rfl ?_
    rw [EE.out]
    exact ⟨_,_,_,rfl,fun h=>by simp at h,hb⟩
   ·have E:Hid (layC xs y (valI xs y + v)=0):=e
    clear e hdrop hiw
    generalize hNe:setI xs ⟨y,valI xs y + v⟩=N at hset h8
    have HN:Hid (setI xs ⟨y,valI xs y + v⟩=N):=hNe
    clear hNe
    generalize hcv:valI xs y=cv at hval hgv hin hset
    clear hcv
    rw [Int.add_comm cv v] at hin hset
    go_wp2_with fail
    refine (hval _ h).mono ?_
    rintro e w' ⟨rfl,hw⟩
    replace hw:=hw.symm
    subst hw
    go_wp2_with fail
    refine (hin _).mono ?_
    rintro e w' ⟨rfl,hw⟩
    replace hw:=hw.symm
    subst hw
    go_wp2_with fail
    refine (hset _ h).mono ?_
    rintro e w' ⟨b,c,rfl,ho,hb⟩
    have hrow:ItemRow w' b N:=Lies.own ho
    have hnc:Nice b N.length c∧(b=a∨ItB w' b):=⟨nice_own ho,Or.inr (own_itb ho)⟩
    clear hset ho
    go_wp2
    refine bodyPost_ret (v:=.tuple #[.slice b N.length c,.int .i64 0]) (by simp [results,Tryz.results170,go_sem]) rfl ?_
    rw [E.out,HN.out]
    exact ⟨_,_,_,rfl,fun _=>⟨rfl,hrow,hnc⟩,hb⟩
 ·go_enter Tryz.func170,Tryz.ntmps170
  go_wp2_with fail
  refine (hat _ h).mono ?_
  rintro e w' ⟨r,rfl,hr,hw⟩
  replace hw:=hw.symm
  subst hw
  rcases hr with ⟨rfl,hh,_⟩ | ⟨j,rfl,hj,hh,_⟩
  ·have E:Hid (actC xs ⟨3,y,v⟩=4):=by simp [Hid,actC,hh]
   clear hat hval hset hdrop
   go_wp2
   refine bodyPost_ret (v:=.tuple #[.slice none 0 0,.int .i64 4]) (by simp [results,Tryz.results170,go_sem]) rfl ?_
   unfold ActPost
   rw [E.out]
   exact ⟨_,_,_,rfl,fun h=>by simp at h,Below.refl _ _⟩
  ·have E:Hid (actC xs ⟨3,y,v⟩=0):=by simp [Hid,actC,hh]
   have E2:Hid (actN xs ⟨3,y,v⟩=delI xs y):=by simp [Hid,actN]
   clear hat hval hset
   generalize hNe:delI xs y=N at hdrop
   have HN:Hid (delI xs y=N):=hNe
   clear hNe
   go_wp2_with fail
   refine (hdrop _ h).mono ?_
   rintro e w' ⟨b,c,rfl,ho,hb⟩
   have hrow:ItemRow w' b N:=Lies.own ho
   have hnc:Nice b N.length c∧(b=a∨ItB w' b):=⟨nice_own ho,Or.inr (own_itb ho)⟩
   clear hdrop ho
   go_wp2
   refine bodyPost_ret (v:=.tuple #[.slice b N.length c,.int .i64 0]) (by simp [results,Tryz.results170,go_sem]) rfl ?_
   unfold ActPost
   rw [E.out,E2.out,HN.out]
   exact ⟨_,_,_,rfl,fun _=>⟨rfl,hrow,hnc⟩,hb⟩
 ·go_enter Tryz.func170,Tryz.ntmps170
  go_wp2_with fail
  refine (hat _ h).mono ?_
  rintro e w' ⟨r,rfl,hr,hw⟩
  replace hw:=hw.symm
  subst hw
  rcases hr with ⟨rfl,hh,_⟩ | ⟨j,rfl,hj,hh,hvj⟩
  ·have E:Hid (actC xs ⟨4,y,v⟩=9):=by simp [Hid,actC,hh]
   clear hat hval hset hdrop
   have hW:Below w.heap.size w w.drew:=(Below.refl _ _).drew
   have hne:Nonempty (Lat w):=⟨⟨w,Below.refl _ _⟩⟩
   go_wp2_with fail
   refine text_begin (S:=fun w' => ∃ u:Lat w,w' = u.val) (by kernel_rfl) ?_
   refine seg_range [(0,14)] 0 (by kernel_rfl) (by kernel_rfl) (by kernel_rfl) (by kernel_rfl) (by kernel_rfl) ⟨⟨_,hW⟩,rfl⟩ ?_
   simp only [pickR,List.toList_toArray,List.flatMap_cons,List.flatMap_nil,List.drop_succ_cons,List.drop_zero,List.take_succ_cons,List.take_zero,List.cons_append,List.nil_append,List.append_nil]
   repeat go_big_quiet_step (fail)
   refine wpQuiet_nil ?_
   refine text_end (by kernel_rfl) ?_
   clear hne 
   go_wp2
   refine bodyPost_ret (v:=.tuple #[.slice none 0 0,.int .i64 9]) (by simp [results,Tryz.results170,go_sem]) rfl ?_
   unfold ActPost
   rw [E.out]
   exact ⟨_,_,_,rfl,fun h=>by simp at h,hW⟩
  ·obtain ⟨b,off,rfl,hbs,hc0,hc1⟩:=h.at j hj
   have E2:Hid (actN xs ⟨4,y,v⟩=xs):=by simp [Hid,actN]
   rw [← hvj] at hc1
   have hjd:decide ((j:Int) < 0)=false:=decide_eq_false (by omega)
   clear hat hval hset hdrop hc0 hvj
   by_cases hc:valI xs y=v
   ·have E:Hid (actC xs ⟨4,y,v⟩=0):=by simp [Hid,actC,hh,hc]
    have hne' : (v != v)=false:=by simp
    rw [hc] at hc1
    clear hc hgv
    have d0:=lat_cell hc1
    have d1:=lat_cell p2
    have hW:Below w.heap.size w w.drew:=(Below.refl _ _).drew
    have hne:Nonempty (Lat w):=⟨⟨w,Below.refl _ _⟩⟩
    go_wp2_with fail
    refine text_begin (S:=fun w' => ∃ u:Lat w,w' = u.val) (by kernel_rfl) ?_
    refine seg_range [(0,14)] 0 (by kernel_rfl) (by kernel_rfl) (by kernel_rfl) (by kernel_rfl) (by kernel_rfl) ⟨⟨_,hW⟩,rfl⟩ ?_
    simp only [pickR,List.toList_toArray,List.flatMap_cons,List.flatMap_nil,List.drop_succ_cons,List.drop_zero,List.take_succ_cons,List.take_zero,List.cons_append,List.nil_append,List.append_nil]
    repeat go_big_quiet_step (fail)
    refine wpQuiet_nil ?_
    refine text_end (by kernel_rfl) ?_
    clear hne d0 d1
    go_wp2
    refine bodyPost_ret (v:=.tuple #[.slice (some ⟨b,off,none⟩) xs.length cap,.int .i64 0]) (by simp [results,Tryz.results170,go_sem]) rfl ?_
    unfold ActPost
    rw [E.out,E2.out]
    exact ⟨_,_,_,rfl,fun _=>⟨rfl,h.below hW,hN,Or.inl rfl⟩,hW⟩
   ·have E:Hid (actC xs ⟨4,y,v⟩=9):=by simp [Hid,actC,hh,hc]
    have hne' : (valI xs y != v)=true:=by simpa using hc
    clear hc
    generalize valI xs y=cv at hc1 hne' hgv
    have d0:=lat_cell hc1
    have d1:=lat_cell p2
    have hW:Below w.heap.size w w.drew:=(Below.refl _ _).drew
    have hne:Nonempty (Lat w):=⟨⟨w,Below.refl _ _⟩⟩
    go_wp2_with fail
    refine text_begin (S:=fun w' => ∃ u:Lat w,w' = u.val) (by kernel_rfl) ?_
    refine seg_range [(0,14)] 0 (by kernel_rfl) (by kernel_rfl) (by kernel_rfl) (by kernel_rfl) (by kernel_rfl) ⟨⟨_,hW⟩,rfl⟩ ?_
    simp only [pickR,List.toList_toArray,List.flatMap_cons,List.flatMap_nil,List.drop_succ_cons,List.drop_zero,List.take_succ_cons,List.take_zero,List.cons_append,List.nil_append,List.append_nil]
    repeat go_big_quiet_step (fail)
    refine wpQuiet_nil ?_
    refine text_end (by kernel_rfl) ?_
    clear hne d0 d1
    go_wp2
    refine bodyPost_ret (v:=.tuple #[.slice none 0 0,.int .i64 9]) (by simp [results,Tryz.results170,go_sem]) rfl ?_
    unfold ActPost
    rw [E.out]
    exact ⟨_,_,_,rfl,fun h=>by simp at h,hW⟩

end Go.Proofs.YtfdkcbafpiojkaaGreatDoor
