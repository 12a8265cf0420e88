/- Texts joined, with what the laws reach alone. -/
import Derived.Test.YtfdkcbafpiojkaaGreatDoorSGAX
import Derived.Test.YtfdkcbafpiojkaaGreatDoorSGAJ
set_option linter.unusedVariables false
set_option linter.unusedSimpArgs false
namespace Go.Proofs.YtfdkcbafpiojkaaGreatDoor
open Go.RowKit
open Go.BigFrame
set_option maxRecDepth 100000
theorem itemK_at9 {w:World} {a:Option Addr} {n cap:Nat} {zs:List ItemD} (h:itemK.At w (.slice a n cap) zs):ItemRow w a zs:=by
 obtain ⟨a',c',e,hL,_⟩:=h
 simp only [Value.slice.injEq] at e
 rw [e.1]
 exact hL

end Go.Proofs.YtfdkcbafpiojkaaGreatDoor
namespace Go.Proofs.YtfdkcbafpiojkaaGreatDoor
open Go.RowKit
set_option maxRecDepth 100000
theorem sameAs_refl8 (x:List ActD):sameAs x x=true:=by
 induction x with
 | nil=>rfl
 | cons a r ih=>simp [sameAs,sameA,ih]

theorem sameT_refl8 (x:TxnD):sameT x x=true:=by simp [sameT,sameAs_refl8]

theorem sameTs_refl8 (x:List TxnD):sameTs x x=true:=by
 induction x with
 | nil=>rfl
 | cons a r ih=>simp [sameTs,sameT_refl8,ih]

end Go.Proofs.YtfdkcbafpiojkaaGreatDoor
namespace Go.Proofs.YtfdkcbafpiojkaaGreatDoor
set_option maxRecDepth 100000
theorem sameUss_refl9:∀ xs:List (List UndoD),sameUss xs xs=true
 | []=>rfl
 | x :: r=>by simp only [sameUss,sameUs_refl,sameUss_refl9 r,Bool.and_self]

theorem sameRep_refl9 (x:RepE):sameRep x x=true:=by simp [sameRep,sameTs_refl8,sameIs_refl,sameUss_refl9]

theorem mk_right {D E:List TxnD} (h1:D.length≤16) (h2:E.length≤8) (h:lstF (D ++ E)=0):repF (mkR D E)=0:=by
 have hn:¬ (16 < (mkR D E).done.length∨8 < (mkR D E).tent.length):=by show ¬ (16 < D.length∨8 < E.length);omega
 rw [rep_same hn h]
 exact if_pos (sameRep_refl9 (mkR D E))

theorem rep_parts {r:RepE} (h:repF r=0):r.base=allI [] r.done∧r.now=allI r.base r.tent∧r.undos=undL r.base r.tent∧(∀ t∈r.done,t.F=0)∧(∀ t∈r.tent,t.F=0)∧r.base.length≤8∧Good r.base∧r.now.length≤8∧Good r.now∧r.done.length≤16∧r.tent.length≤8:=by
 have e:=mkR_now h
 obtain ⟨⟨l1,l2⟩,l3,_⟩:=rep_zero h
 have hF:=lst_F l3
 have hD:∀ t∈r.done,t.F=0:=fun t ht=>hF t (List.mem_append_left _ ht)
 have hE:∀ t∈r.tent,t.F=0:=fun t ht=>hF t (List.mem_append_right _ ht)
 have e1:r.base=allI [] r.done:=congrArg RepE.base e
 have e2:r.now=allI (allI [] r.done) r.tent:=congrArg RepE.now e
 have e3:r.undos=undL (allI [] r.done) r.tent:=congrArg RepE.undos e
 have g:=allI_good (xs:=[]) (by simp) nil_good hD
 have g2:=allI_good g.1 g.2 hE
 refine ⟨e1,by rw [e1];exact e2,by rw [e1];exact e3,hD,hE,by rw [e1];exact g.1,by rw [e1];exact g.2,by rw [e2];exact g2.1,by rw [e2];exact g2.2,l1,l2⟩

end Go.Proofs.YtfdkcbafpiojkaaGreatDoor
namespace Go.Proofs.YtfdkcbafpiojkaaGreatDoor
open Go.RowKit
open Go.BigFrame
set_option maxRecDepth 100000
theorem repB {w w' : World} {p:RepQ} (h:repK.own w p) (hb:Below w.heap.size w w'):repK.own w' p:=repK.own_out (F:=[]) h (Out.of_below hb) (fun _ _=>by simp)

theorem iRF (p:RepQ) (w:World) (hg:ErrT w) (h:repK.own w p) (hl:p.n≤1048576):Calls Tryz.prog 33 #[.agg #[p.vd,p.vb,p.vt,p.vu,p.vn]] w fun e w' => e=.returned (.int .i64 (repF p.e))∧Below w.heap.size w w' :=
 implReplicaFault_any p w hg (repK.own_rd h) h.1.niceV h.2.2.1.niceV hl

theorem iSI (v v' : Value) (xs ys:List ItemD) (w:World) (h:itemK.Own w v xs) (h' : itemK.Own w v' ys) (hl:xs.length≤1048576) (hl' : ys.length≤1048576):Calls Tryz.prog 34 #[v,v'] w fun e w' => e=.returned (.bool (sameIs xs ys))∧Below w.heap.size w w' := by
 obtain ⟨a,c,rfl⟩:=h.shape
 obtain ⟨a',c',rfl⟩:=h'.shape
 exact implSameItems_any a a' c c' xs ys w (itemK_at9 h.at) (itemK_at9 h'.at) hl hl'

theorem rep_small {p:RepQ} (h:repF p.e=0):p.n≤1000:=by
 have e:=mkR_now h
 obtain ⟨_,_,_,hD,hE,_,_,_,_,l1,l2⟩:=rep_parts h
 exact mk_small e hD hE (by omega) (by omega)

end Go.Proofs.YtfdkcbafpiojkaaGreatDoor
namespace Go.Proofs.YtfdkcbafpiojkaaGreatDoor
open Go.RowKit Go.Maps
open Go.BigFrame
set_option maxRecDepth 100000
set_option maxRecDepth 100000 in
set_option maxHeartbeats 2000000 in
theorem l8DrawF_any (n:Nat) (hn1:1≤n) (hn:n≤10) (B b T:Nat) (w:World) (hS:Src B w b T) (hT:T≤800000) :
  Calls Tryz.prog 95 #[.pointer (some ⟨b,0,none⟩),.int .i64 n] w fun e w' => ∃ (v:Value) (ps:List TxnP),e=.returned v∧ps.length + 1≤n∧(∀ p∈ps,p.d.acts.length≤5∧p.d.F=0)∧TxnRow w.heap.size w' v ps∧Src B w' b (T + 200)∧w.grownBy w' (some b):=by
 obtain ⟨i0,hi,hz0,hz1,hz2⟩:=info_parts infoTxn
 have hlt:=hS.lt
 have ho0:(w.alloc (.cells #[] 49)).ownsRow w.heap.size 49 4 (.slice (some ⟨w.heap.size,0,none⟩) 0 0) 0 []:=World.ownsRow_lit w #[] 0 (Nat.le_refl _) (by decide) rfl
 have hg:w.grownBy (w.alloc (.cells #[] 49)) (some b):=World.grownBy_alloc w _ _
 replace hS:Src B (w.alloc (.cells #[] 49)) b T:=hS.below (by go_grown)
 go_enter Tryz.func95,Tryz.ntmps95
 go_wp2_with fail
 generalize w.alloc (.cells #[] 49)=W1 at ho0 hg hS
 refine (next_any B b T (n:Int) W1 hS (by omega) (by omega)).mono ?_
 rintro e w3 ⟨r,rfl,hr,hSn,hgn⟩
 obtain ⟨j0,rfl⟩:=Int.eq_ofNat_of_zero_le hr.1
 have hj0:j0 + 1≤n:=by have:=hr.2.1 (by omega);omega
 have hR0:TxnRow w.heap.size W1 (.slice (some ⟨w.heap.size,0,none⟩) 0 0) []:=⟨ho0,by simp,by simp⟩
 replace hR0:=hR0.src hlt.2 hgn
 replace hg:=hg.trans hgn
 replace hS:=hSn
 clear hgn hSn hr ho0
 go_wp2
 go_loopw [5,6] (fun v c wr=>∃ (j:Nat) (ps:List TxnP),c=.int .i64 j∧j + 1≤n∧j + ps.length + 1≤n∧Hid (∀ p∈ps,p.d.acts.length≤5∧p.d.F=0)∧TxnRow w.heap.size wr v ps∧Src B wr b (T + 1 + 13 * (9 - j))∧w.grownBy wr (some b)) (fun _ c _=>(intOf c).toNat)
 case atStart=>exact ⟨j0,[],rfl,hj0,by simp;omega,by intro p hp;simp at hp,hR0,hS.mono (by omega),hg⟩
 case round=>
  clear hR0 hS hg
  obtain ⟨j,ps,rfl,hj6,hj,HP,hR,hS,hg⟩:=hrel
  have hsz:=hg.size
  obtain ⟨a1,c1,rfl⟩:=own_shape hR.1
  by_cases hpos:0 < j
  ·skip
   go_wp2_with fail
   refine (l2DrawF_any B b (T + 1 + 13 * (9 - j)) wr hS (by omega)).mono ?_
   rintro e w4 ⟨i,s,q,a,c,xs,rfl,hx1,hx3,ho,hSn,hgn⟩
   have hpn:Value.ownBlock (.slice a xs.length c)=none∨Value.ownBlock (.slice a xs.length c)≠Value.ownBlock (.slice a1 ps.length c1):=own_apart3' hR.1 ho (Nat.le_refl _)
   replace hR:=hR.src hlt.2 hgn
   replace hg:=hg.trans hgn
   replace hS:=hSn
   replace ho:=own_base ho hsz
   clear hgn hSn
   have hbT:Below w4.heap.size w4 (w4.alloc (.cells #[.int .i64 i,.int .i64 s,.int .i64 q,.slice a xs.length c] 49)):=by go_grown
   have hX:=Blk.new w4 49 #[.int .i64 i,.int .i64 s,.int .i64 q,.slice a xs.length c]
   have hkn:=l7Known_any (.slice a1 ps.length c1) (ps.map TxnP.qk) w4.heap.size 0 ⟨i,s,q,xs⟩ (.slice a xs.length c) _ (hR.below hbT).atK (box4_new w4 _ _ _ _ 49) (by rw [List.length_map];omega)
   replace hg:=grown_low hg (hbT.mono hg.size)
   replace hS:=hS.below hbT
   replace hR:=hR.below hbT
   replace ho:=own_below ho hbT
   generalize knw ((ps.map TxnP.qk).map TxnQ.e) ⟨i,s,q,xs⟩=K at *
   go_wp2_with fail
   generalize w4.heap.size=H4 at *
   generalize w4.alloc (.cells #[.int .i64 i,.int .i64 s,.int .i64 q,.slice a xs.length c] 49)=W4 at *
   refine hkn.mono ?_
   rintro e w6 ⟨rfl,hb6⟩
   replace hg:=grown_low hg (hb6.mono hg.size)
   replace hS:=hS.below hb6
   replace hR:=hR.below hb6
   replace ho:=own_below ho hb6
   replace hX:=hX.below hb6
   clear hkn hb6 hbT
   cases K with
   | true=>
    clear ho hpn hX
    go_wp2
    go_roundw
    case rel=>exact ⟨j - 1,ps,by go_num,by omega,by omega,HP,hR,hS.mono (by omega),hg⟩
    case measure=>simp [intOf];omega
   | false=>
    have x0:=hX.cell 0 _ rfl
    have x1:=hX.cell 1 _ rfl
    have x2:=hX.cell 2 _ rfl
    have x3:=hX.cell 3 _ rfl
    have hbA:Below w6.heap.size w6 (w6.alloc (.cells #[.int .i64 i,.int .i64 s,.int .i64 q,.slice a xs.length c] 49)):=by go_grown
    have hsz4:=hg.size
    have ho2:=own_below hR.1 hbA
    go_wp2_with (at_builtin;refine wpList_append_own_at _ rfl _ _ 28 rfl w.heap.size 49 i0 (.agg #[.int .i64 0,.int .i64 0,.int .i64 0,.slice none 0 0]) 4 48 Tryz.underlying28 hi hz0 hz1 hz2 rfl (by decide) _ ps.length (txnCells ps) rfl ho2 ⟨w6.heap.size,0,none⟩ 1 1 [.int .i64 i,.int .i64 s,.int .i64 q,.slice a xs.length c] rfl rfl ?c1 ?c2 ?c3 ?c4 ?c5 ?_)
    all_goals try (case c1=>intro j u hj;match j,hj with | 0,hj=>simp at hj;subst hj;simp [Addr.add] | 1,hj=>simp at hj;subst hj;simp [Addr.add] | 2,hj=>simp at hj;subst hj;simp [Addr.add] | 3,hj=>simp at hj;subst hj;simp [Addr.add])
    all_goals try (case c2=>intro u hu;simp at hu;rcases hu with rfl | rfl | rfl | rfl <;> rfl)
    all_goals try (case c3=>unfold maxLen;omega)
    all_goals try (case c4=>omega)
    all_goals try (case c5=>first | omega | (simp;omega))
    intro v' w5 hown hgrow hnil hat
    have hgo:∀ j,(Value.slice a1 ps.length c1).ownBlock=some j→w.heap.size≤j:=fun j hj=>(ho2.lt j hj).1
    have hB5:Below w.heap.size w6 w5:=((Below.refl w.heap.size w6).alloc hsz4 (.cells #[.int .i64 i,.int .i64 s,.int .i64 q,.slice a xs.length c] 49)).grown hgrow (by simp;omega) hgo
    have hR5:Hid (TxnRow w.heap.size w5 v' (ps ++ [(⟨⟨i,s,q,xs⟩,a,c⟩:TxnP)])):=(hR.below hbA).append (⟨⟨i,s,q,xs⟩,a,c⟩:TxnP) (own_below ho hbA) hpn (by simpa [TxnP.cells,TxnP.sl] using hown) hgrow (by rw [World.size_alloc];exact hat) hnil
    replace hg:=grown_low hg hB5
    replace hS:=hS.low hB5 hlt.2
    have HP5:Hid (∀ p∈ps ++ [(⟨⟨i,s,q,xs⟩,a,c⟩:TxnP)],p.d.acts.length≤5∧p.d.F=0):=by
     intro p hp
     simp only [List.mem_append,List.mem_singleton] at hp
     rcases hp with hp | rfl
     ·exact HP.out p hp
     ·exact ⟨by show xs.length≤5;omega,hx1⟩
    clear hR ho ho2 hown hgrow hat hnil hgo hB5 hbA hpn
    clear x0 x1 x2 x3 hX
    go_wp2
    go_roundw
    case rel=>exact ⟨j - 1,ps ++ [(⟨⟨i,s,q,xs⟩,a,c⟩:TxnP)],by go_num,by omega,by simp;omega,HP5,hR5.out,hS.mono (by omega),hg⟩
    case measure=>simp [intOf];omega
  ·go_wp2
   go_ret
   exact ⟨_,ps,rfl,by omega,HP.out,hR,hS.mono (by omega),hg⟩

theorem l1Min_any (x y:Int) (w:World):Calls Tryz.prog 180 #[.int .i64 x,.int .i64 y] w fun e w' => e=.returned (.int .i64 (min x y))∧w' = w:=by
 by_cases h:x < y
 ·have hm:min x y=x:=by omega
  go_enter Tryz.func180,Tryz.ntmps180
  go_wp2
  go_ret
  exact ⟨by first | rfl | (rw [hm];rfl),rfl⟩
 ·have hm:min x y=y:=by omega
  go_enter Tryz.func180,Tryz.ntmps180
  go_wp2
  go_ret
  exact ⟨by first | rfl | (rw [hm];rfl),rfl⟩

theorem hsz4 (w:World):(sizeOf (Tryz.prog.elem 28)).run Tryz.prog w=.ok 4 w:=by
 rw [show Tryz.prog.elem 28=49 by kernel_rfl]
 kernel_rfl

theorem sz_rep9:(Tryz.prog.info? 32).map (·.size)=some 5:=by kernel_rfl

set_option maxRecDepth 100000 in
set_option maxHeartbeats 4000000 in
theorem l9Draw_any (B b T:Nat) (w:World) (hS:Src B w b T) (hT:T≤700000) :
  Calls Tryz.prog 141 #[.pointer (some ⟨b,0,none⟩)] w fun e w' => ∃ q:RepQ,e=.returned (.agg #[q.vd,q.vb,q.vt,q.vu,q.vn])∧q.n≤1000∧repK.own w' q∧(repK.foot q).Nodup∧(∀ k∈repK.foot q,w.heap.size≤k)∧Src B w' b (T + 300)∧w.grownBy w' (some b):=by
 have hlt:=hS.lt
 have RB:=Blk.new w 32 #[.slice none 0 0,.slice none 0 0,.slice none 0 0,.slice none 0 0,.slice none 0 0]
 have hg0:w.grownBy (w.alloc (.cells #[.slice none 0 0,.slice none 0 0,.slice none 0 0,.slice none 0 0,.slice none 0 0] 32)) (some b):=World.grownBy_alloc w _ _
 have hs0:w.heap.size < (w.alloc (.cells #[.slice none 0 0,.slice none 0 0,.slice none 0 0,.slice none 0 0,.slice none 0 0] 32)).heap.size:=by simp
 replace hS:Src B (w.alloc (.cells #[.slice none 0 0,.slice none 0 0,.slice none 0 0,.slice none 0 0,.slice none 0 0] 32)) b T:=hS.below (by go_grown)
 go_enter Tryz.func141,Tryz.ntmps141
 go_wp2_with fail
 generalize w.alloc (.cells #[.slice none 0 0,.slice none 0 0,.slice none 0 0,.slice none 0 0,.slice none 0 0] 32)=W at *
 refine (l8DrawF_any 10 (by omega) (by omega) B b T W hS (by omega)).mono ?_
 rintro e w1 ⟨v,ps,rfl,hpl,hpa,hR,hSn,hgn⟩
 replace hS:=hSn
 replace RB:=RB.grown hgn (by simp only [ne_eq,Option.some.injEq];omega)
 replace hg0:=hg0.trans hgn
 have hlt2:b < W.heap.size:=by omega
 have hs1:=hgn.size
 clear hSn hgn
 obtain ⟨a1,c1,rfl⟩:=own_shape hR.1
 have HP:Hid (∀ p∈ps,p.d.acts.length≤5∧p.d.F=0):=hpa
 have hlq:(ps.length:Int)≤9:=by omega
 clear hpa
 go_wp2_with fail
 refine (next_any B b (T + 200) ((ps.length:Int) + 1) w1 hS (by omega) (by omega)).mono ?_
 rintro e w2 ⟨r,rfl,hr,hSn,hgn⟩
 replace hS:=hSn
 replace hR:=hR.src hlt2 hgn
 replace RB:=RB.grown hgn (by simp only [ne_eq,Option.some.injEq];omega)
 replace hg0:=hg0.trans hgn
 have hs2:=hgn.size
 clear hSn hgn
 obtain ⟨m,rfl⟩:=Int.eq_ofNat_of_zero_le hr.1
 have hm:m≤ps.length:=by have:=hr.2.1 (by omega);omega
 obtain ⟨hca1,hca2⟩:ps.length≤c1∧c1≤maxLen:=hR.cap
 have hm0:(0:Int)≤(m:Int):=by omega
 have hmc:(m:Int)≤(c1:Int):=by omega
 obtain ⟨k,hk⟩:∃ k:Nat,k=Nat.min ps.length (m + 8):=⟨_,rfl⟩
 have hkm:min (ps.length:Int) ((m:Int) + 8)=(k:Int):=by rw [hk];simp only [Nat.min_def];split <;> omega
 have hk1:m≤k∧k≤ps.length:=by rw [hk];simp only [Nat.min_def];split <;> omega
 have hmk:(m:Int)≤(k:Int):=by omega
 have hkc:(k:Int)≤(c1:Int):=by omega
 have hsl1:∀ u:World,(Instr.sliceAt 28 (.slice a1 ps.length c1) none (some (.int .i64 (m:Int))) none).run Tryz.prog u=.ok (.slice a1 m c1) u:=fun u=>by
  rw [run_sliceAt_slice u 28 _ _ _ _ (by kernel_rfl),run_slice_h u 28 a1 ps.length c1 (by kernel_rfl) .i64 (m:Int) hm0 hmc,hsz4 u]
  simp only [Result.andThen,sliced,Int.toNat_natCast,Nat.sub_zero,Nat.zero_mul]
  cases a1 with
  | none=>simp
  | some x=>simp [Addr.add]
 obtain ⟨ra,rc,qs,hsl2,hA2,hqs⟩:∃ ra rc qs,(∀ u:World,(Instr.sliceAt 28 (.slice a1 ps.length c1) (some (.int .i64 (m:Int))) (some (.int .i64 (k:Int))) none).run Tryz.prog u=.ok (.slice ra (k - m) rc) u)∧txnK.At w2 (.slice ra (k - m) rc) qs∧(∀ q∈qs,q∈ps.map TxnP.qk)∧qs.length≤40:=by
  refine ⟨_,_,((ps.map TxnP.qk).drop m).take (k - m),fun u=>?_,(hR.atK.dropS m (by rw [List.length_map];omega) (by rw [List.length_map];omega) (c1 - m)).takeK (k - m) (by rw [List.length_drop,List.length_map];omega),fun q hq=>List.mem_of_mem_drop (List.mem_of_mem_take hq),by rw [List.length_take,List.length_drop,List.length_map];omega⟩
  rw [run_sliceAt_slice u 28 _ _ _ _ (by kernel_rfl),run_slice_lh u 28 a1 ps.length c1 (by kernel_rfl) .i64 .i64 (m:Int) (k:Int) hm0 hmk hkc,hsz4 u]
  simp only [Result.andThen,sliced,Int.toNat_natCast]
  rfl
 have hA1:=hR.atK.takeK m (by rw [List.length_map];exact hm)
 have hF:∀ q∈ps.map TxnP.qk,(TxnQ.e q).F=0:=fun q hq=>by
  obtain ⟨p,hp,rfl⟩:=List.mem_map.1 hq
  exact (HP.out p hp).2
 have hmk9:=fun w' h1 h2=>l9Make_any (.slice a1 m c1) (.slice ra (k - m) rc) ((ps.map TxnP.qk).take m) qs w' h1 h2 (fun q hq=>hF q (List.mem_of_mem_take hq)) (fun q hq=>hF q (hqs.1 q hq)) (by rw [List.length_take,List.length_map];omega) hqs.2
 have HF:Hid ((∀ q∈(ps.map TxnP.qk).take m,(TxnQ.e q).F=0)∧(∀ q∈qs,(TxnQ.e q).F=0)∧((ps.map TxnP.qk).take m).length≤40∧qs.length≤40):=⟨fun q hq=>hF q (List.mem_of_mem_take hq),fun q hq=>hF q (hqs.1 q hq),by rw [List.length_take,List.length_map];omega,hqs.2⟩
 have hmn:=l1Min_any (ps.length:Int) ((m:Int) + 8)
 rw [hkm] at hmn
 clear hF hqs hk hkm hm0 hmc hmk hkc hr HP
 generalize (ps.map TxnP.qk).take m=qs1 at *
 have hsz2:W.heap.size≤w2.heap.size:=by omega
 go_wp2_with fail
 have hW:Below w2.heap.size w2 w2.drew:=(Below.refl _ _).drew
 have hne:Nonempty (KeepP (Out [w.heap.size] w2)):=⟨⟨w2,Out.refl _ _⟩⟩
 refine text_begin (S:=fun w' => ∃ u:KeepP (Out [w.heap.size] w2),w' = u.val) (by kernel_rfl) ?_
 refine seg_range [(0,2),(3,3),(7,2)] 6 (by kernel_rfl) (by kernel_rfl) (by kernel_rfl) (by kernel_rfl) (by kernel_rfl) ⟨⟨_,Out.of_below hW⟩,rfl⟩ ?_
 simp only [pickR,List.toList_toArray,List.flatMap_cons,List.flatMap_nil,List.drop_succ_cons,List.drop_zero,List.take_succ_cons,List.take_zero,List.cons_append,List.nil_append,List.append_nil]
 repeat go_big_quiet_step (fail)
 refine wpQuiet_nil ?_
 refine quiet_at 2 (some 14) (.slice a1 m c1) 5 (by kernel_rfl) (by kernel_rfl) (by kernel_rfl) (by kernel_rfl) (by kernel_rfl) (fun u hu=>?_) ⟨⟨_,Out.of_below hW⟩,rfl⟩ ?_
 ·refine Eq.trans (b:=some (((Instr.sliceAt 28 (.slice a1 ps.length c1) none (some (.int .i64 (m:Int))) none) >>= fun x=>pure (Next.value x):Sem Next).run Tryz.prog u)) (by kernel_rfl) ?_
  rw [Sem.run_bind,hsl1 u]
  rfl
 simp only [Act.put,List.setIfInBounds_toArray,List.set_cons_zero,List.set_cons_succ]
 refine quiet_at 6 (some 18) (.int .i64 ps.length) 4 (by kernel_rfl) (by kernel_rfl) (by kernel_rfl) (by kernel_rfl) (by kernel_rfl) (fun u _=>by kernel_rfl) ⟨⟨_,Out.of_below hW⟩,rfl⟩ ?_
 simp only [Act.put,List.setIfInBounds_toArray,List.set_cons_zero,List.set_cons_succ]
 generalize w2.drew=wd at *
 refine call_at 9 (some 21) 180 #[.int .i64 ps.length,.int .i64 ((m:Int) + 8)] 3 (by kernel_rfl) (by kernel_rfl) (by kernel_rfl) (by kernel_rfl) (by kernel_rfl) ?_
 refine (hmn wd).mono ?_
 rintro e w3 ⟨rfl,rfl⟩
 refine ⟨_,rfl,⟨⟨_,Out.of_below hW⟩,rfl⟩,?_⟩
 simp only [Act.put,List.setIfInBounds_toArray,List.set_cons_zero,List.set_cons_succ]
 refine quiet_at 10 (some 22) (.slice ra (k - m) rc) 2 (by kernel_rfl) (by kernel_rfl) (by kernel_rfl) (by kernel_rfl) (by kernel_rfl) (fun u hu=>?_) ⟨⟨_,Out.of_below hW⟩,rfl⟩ ?_
 ·refine Eq.trans (b:=some (((Instr.sliceAt 28 (.slice a1 ps.length c1) (some (.int .i64 (m:Int))) (some (.int .i64 (k:Int))) none) >>= fun x=>pure (Next.value x):Sem Next).run Tryz.prog u)) (by kernel_rfl) ?_
  rw [Sem.run_bind,hsl2 u]
  rfl
 simp only [Act.put,List.setIfInBounds_toArray,List.set_cons_zero,List.set_cons_succ]
 refine call_at 11 (some 23) 54 #[.slice a1 m c1,.slice ra (k - m) rc] 1 (by kernel_rfl) (by kernel_rfl) (by kernel_rfl) (by kernel_rfl) (by kernel_rfl) ?_
 refine (hmk9 _ (hA1.below hW) (hA2.below hW)).mono ?_
 rintro e w4 ⟨q,rfl,eq,oq,nq,gq,hb⟩
 have hW0:=hW.size
 replace hW:=hW.trans (hb.mono hW.size)
 have hqn:q.n≤1000:=mk_small eq (fun t ht=>by obtain ⟨p,hp,rfl⟩:=List.mem_map.1 ht;exact HF.out.1 p hp) (fun t ht=>by obtain ⟨p,hp,rfl⟩:=List.mem_map.1 ht;exact HF.out.2.1 p hp) (by rw [List.length_map];exact HF.out.2.2.1) (by rw [List.length_map];exact HF.out.2.2.2)
 replace gq:∀ k∈repK.foot q,w2.heap.size≤k:=fun k hk=>by have:=gq k hk;omega
 have HQ:Hid (q.n≤1000):=hqn
 clear hb eq hqn hmk9 hmn hsl1 hsl2 HF
 refine ⟨_,rfl,⟨⟨_,Out.of_below hW⟩,rfl⟩,?_⟩
 simp only [Act.put,List.setIfInBounds_toArray,List.set_cons_zero,List.set_cons_succ]
 obtain ⟨qvd,qd,qvb,qb,qvt,qt,qvu,qu,qvn,qn⟩:=q
 obtain ⟨s0,t0,rfl⟩:∃ a c,qvd=.slice a qd.length c:=oq.1.shape
 obtain ⟨s1,t1,rfl⟩:∃ a c,qvb=.slice a qb.length c:=oq.2.1.shape
 obtain ⟨s2,t2,rfl⟩:∃ a c,qvt=.slice a qt.length c:=oq.2.2.1.shape
 obtain ⟨s3,t3,rfl⟩:∃ a c,qvu=.slice a qu.length c:=oq.2.2.2.1.shape
 obtain ⟨s4,t4,rfl⟩:∃ a c,qvn=.slice a qn.length c:=oq.2.2.2.2.shape
 refine one_at 12 _ 0 (by kernel_rfl) rfl (by kernel_rfl) ?_
 replace RB:=RB.below hW
 have Rz:=RB.row #[.slice s0 qd.length t0,.slice s1 qb.length t1,.slice s2 qt.length t2,.slice s3 qu.length t3,.slice s4 qn.length t4]
 have gne:∀ k∈repK.foot (⟨.slice s0 qd.length t0,qd,.slice s1 qb.length t1,qb,.slice s2 qt.length t2,qt,.slice s3 qu.length t3,qu,.slice s4 qn.length t4,qn⟩:RepQ),k≠w.heap.size:=fun k hk=>by have:=gq k hk;omega
 have gw:∀ k∈repK.foot (⟨.slice s0 qd.length t0,qd,.slice s1 qb.length t1,qb,.slice s2 qt.length t2,qt,.slice s3 qu.length t3,qu,.slice s4 qn.length t4,qn⟩:RepQ),w.heap.size≤k:=fun k hk=>by have:=gq k hk;omega
 have oz:=repK.own_out oq (out_row _ w.heap.size #[.slice s0 qd.length t0,.slice s1 qb.length t1,.slice s2 qt.length t2,.slice s3 qu.length t3,.slice s4 qn.length t4]) (fun k hk=>by simp only [List.mem_singleton];exact gne k hk)
 have hgF:w.grownBy (w4.setRow w.heap.size #[.slice s0 qd.length t0,.slice s1 qb.length t1,.slice s2 qt.length t2,.slice s3 qu.length t3,.slice s4 qn.length t4]) (some b):=grown_low hg0 (below_row (g:=w.heap.size) (hW.mono (by omega)) (Nat.le_refl _) #[.slice s0 qd.length t0,.slice s1 qb.length t1,.slice s2 qt.length t2,.slice s3 qu.length t3,.slice s4 qn.length t4])
 have hSF:Src B (w4.setRow w.heap.size #[.slice s0 qd.length t0,.slice s1 qb.length t1,.slice s2 qt.length t2,.slice s3 qu.length t3,.slice s4 qn.length t4]) b (T + 300):=(hS.low (below_row (g:=w.heap.size) (hW.mono (B' := w.heap.size) (by omega)) (Nat.le_refl _) #[.slice s0 qd.length t0,.slice s1 qb.length t1,.slice s2 qt.length t2,.slice s3 qu.length t3,.slice s4 qn.length t4]) (by omega)).mono (by omega)
 have hOz:Out [w.heap.size] w2 (w4.setRow w.heap.size #[.slice s0 qd.length t0,.slice s1 qb.length t1,.slice s2 qt.length t2,.slice s3 qu.length t3,.slice s4 qn.length t4]):=(Out.of_below hW).trans (out_row _ w.heap.size #[.slice s0 qd.length t0,.slice s1 qb.length t1,.slice s2 qt.length t2,.slice s3 qu.length t3,.slice s4 qn.length t4])
 refine st_row (by kernel_rfl) 32 _ _ rfl _ #[.slice s0 qd.length t0,.slice s1 qb.length t1,.slice s2 qt.length t2,.slice s3 qu.length t3,.slice s4 qn.length t4] rfl rfl 32 _ RB sz_rep9 rfl (by simp [Value.oneCell']) ?_
 refine ThenGo.to ⟨⟨⟨_,hOz⟩,rfl⟩,?_⟩
 refine text_end (by kernel_rfl) ?_
 have z0:=Rz.cell 0 _ rfl
 have z1:=Rz.cell 1 _ rfl
 have z2:=Rz.cell 2 _ rfl
 have z3:=Rz.cell 3 _ rfl
 have z4:=Rz.cell 4 _ rfl
 go_wp2
 exact bodyPost_ret (v:=.agg #[.slice s0 qd.length t0,.slice s1 qb.length t1,.slice s2 qt.length t2,.slice s3 qu.length t3,.slice s4 qn.length t4]) (by simp [results,Tryz.results141,go_sem,z0,z1,z2,z3,z4]) rfl ⟨(⟨.slice s0 qd.length t0,qd,.slice s1 qb.length t1,qb,.slice s2 qt.length t2,qt,.slice s3 qu.length t3,qu,.slice s4 qn.length t4,qn⟩:RepQ),rfl,HQ.out,oz,nq,gw,hSF,hgF⟩

end Go.Proofs.YtfdkcbafpiojkaaGreatDoor
namespace Go.Proofs.YtfdkcbafpiojkaaGreatDoor
open Go.RowKit Go.Maps
set_option maxRecDepth 100000
theorem setR_len (x:ItemD):∀ (l:List ItemD) (d:Bool),(setR x d l).length≤l.length + 1
 | [],d=>by unfold setR;cases d <;> simp
 | y :: r,d=>by
  rw [setR_step]
  have ih:=setR_len x r
  cases d
  ·by_cases h:x.key≤y.key
   ·have e:setR x true r=delI r x.key:=setR_true x r
    have hd:=delI_length r x.key
    simp only [Bool.not_false,Bool.true_and,Bool.false_or,h,decide_true,if_true,List.length_append,List.length_cons,List.length_nil,e]
    split <;> simp <;> omega
   ·have ih:=ih false
    simp only [Bool.not_false,Bool.true_and,Bool.false_or,h,decide_false,if_false,Bool.false_eq_true,List.length_append,List.length_cons,List.length_nil]
    split <;> simp <;> omega
  ·have e:setR x true r=delI r x.key:=setR_true x r
   have hd:=delI_length r x.key
   simp only [Bool.not_true,Bool.false_and,Bool.true_or,if_false,Bool.false_eq_true,List.length_append,List.length_cons,List.length_nil,e]
   split <;> simp <;> omega

theorem grown_step {w wr w' : World} {b:Nat} (hg:w.grownBy wr (some b)) (hb:Below w.heap.size wr w'):w.grownBy w' (some b):=
 ⟨hb.os.trans hg.os,hb.tape.trans hg.tape,hb.output.trans hg.output,by have:=hg.size;have:=hb.size;omega,fun k hk hne=>(hb.block k hk).trans (hg.block k hk hne)⟩

set_option maxRecDepth 100000 in
set_option maxHeartbeats 2000000 in
theorem l3Draw_any (B b T:Nat) (w:World) (hS:Src B w b T) (hT:T≤1000000) :
  Calls Tryz.prog 181 #[.pointer (some ⟨b,0,none⟩)] w fun e w' => ∃ (a:Option Addr) (k:Nat) (xs:List ItemD),e=.returned (.slice a xs.length k)∧xs.length≤4 ∧
   w'.ownsRow w.heap.size 134 2 (.slice a xs.length k) xs.length (itemCells xs)∧Src B w' b (T + 9)∧w.grownBy w' (some b):=by
 have hlt:=hS.lt
 have ho0:(w.alloc (.cells #[] 134)).ownsRow w.heap.size 134 2 (.slice (some ⟨w.heap.size,0,none⟩) 0 0) 0 []:=World.ownsRow_lit w #[] 0 (Nat.le_refl _) (by decide) rfl
 have hS0:Src B (w.alloc (.cells #[] 134)) b T:=hS.below (by go_grown)
 have hg0:w.grownBy (w.alloc (.cells #[] 134)) (some b):=World.grownBy_alloc w _ _
 go_enter Tryz.func181,Tryz.ntmps181
 go_wp2_with fail
 refine (next_any B b T 5 _ hS0 (by omega) (by omega)).mono ?_
 rintro e w1 ⟨r,rfl,hr,hS1,hg1⟩
 obtain ⟨j0,rfl⟩:=Int.eq_ofNat_of_zero_le hr.1
 have hj0:j0≤4:=by have:=hr.2.1 (by omega);omega
 have ho1:=ho0.kept hg1 (Or.inr (by simp [Value.ownBlock];omega))
 have hgw:=hg0.trans hg1
 clear hr hg1 hg0 hS0 ho0
 go_wp2
 go_loopw [3,4] (fun v c wr=>∃ (j q:Nat) (xs:List ItemD),c=.int .i64 j∧j + q≤4∧xs.length≤q∧wr.ownsRow w.heap.size 134 2 v xs.length (itemCells xs)∧Src B wr b (T + 1 + 2 * q)∧w.grownBy wr (some b)) (fun _ c _=>(intOf c).toNat)
 case atStart=>exact ⟨j0,0,[],rfl,by omega,by simp,ho1,hS1,hgw⟩
 case round=>
  clear ho1 hS1 hgw
  obtain ⟨j,q,xs,rfl,hjq,hxl,ho,hSr,hg⟩:=hrel
  have hsz:=hg.size
  obtain ⟨a1,c1,rfl⟩:=own_shape ho
  by_cases hpos:0 < j
  ·have hnb:some b≠Value.ownBlock _:=own_not3 ho (Or.inl hlt.2)
   go_wp2_with fail
   refine (next_any B b (T + 1 + 2 * q) 5 wr hSr (by omega) (by omega)).mono ?_
   rintro e w1 ⟨r,rfl,hr,hS1,hg1⟩
   have hr1:=hr.1
   have hr2:=hr.2.1 (by omega)
   replace ho:=ho.kept hg1 (Or.inr (fun e=>hnb e.symm))
   replace hg:=hg.trans hg1
   have hsz1:=hg.size
   have hlt1:=hS1.lt
   clear hr hg1 hSr
   replace ho:=ho.alloc (.cells #[.int .i64 0,.int .i64 1,.int .i64 5,.int .i64 19999,.int .i64 (-3)] 2)
   replace hg:=hg.trans (World.grownBy_alloc w1 (.cells #[.int .i64 0,.int .i64 1,.int .i64 5,.int .i64 19999,.int .i64 (-3)] 2) (some b))
   go_wp2_with fail
   refine (pick_any B b (T + 1 + 2 * q + 1) w1.heap.size _ [0,1,5,19999,-3] _ (hS1.below (by go_grown)) (by omega) (World.ownsRow_lit w1 _ 5 (Nat.le_refl _) (by decide) rfl) (by simp) (by simp) (by simp [Value.ownBlock];omega)).mono ?_
   rintro e w2 ⟨r2,rfl,hmem,hS2,hg2⟩
   replace ho:=ho.kept hg2 (Or.inr (fun e=>hnb e.symm))
   replace hg:=hg.trans hg2
   have hsz2:=hg.size
   clear hmem hg2
   go_wp2_with fail
   refine (l3Set_any a1 c1 xs _ _ w2 (Lies.own ho) (by omega)).mono ?_
   rintro e w3 ⟨a3,c3,rfl,ho3,hb3⟩
   have hsl:=setR_len ⟨1 + r,r2⟩ xs false
   replace hg:=grown_step hg (hb3.mono hsz2)
   have hS3:=hS2.below hb3
   replace ho3:=own_base ho3 hsz2
   generalize setR _ false xs=ys at ho3 hsl
   clear ho hb3 hS2 hS1
   go_wp2
   go_roundw
   case rel=>exact ⟨j - 1,q + 1,ys,by go_num,by omega,by omega,ho3,hS3.mono (by omega),hg⟩
   case measure=>simp [intOf];omega
  ·go_wp2
   go_ret
   exact ⟨a1,c1,xs,rfl,by omega,ho,hSr.mono (by omega),hg⟩

end Go.Proofs.YtfdkcbafpiojkaaGreatDoor
namespace Go.Proofs.YtfdkcbafpiojkaaGreatDoor
open Go.RowKit Go.Maps
set_option maxRecDepth 100000
theorem made9:(madeCells #[Value.int .i64 0,.int .i64 0] (9 * 2)).toList=itemCells (List.replicate 9 itemNo):=by
 first | kernel_rfl | (simp [madeCells,itemCells,ItemD.cells,itemNo,List.replicate,List.range,List.range.loop])

set_option maxRecDepth 100000 in
set_option maxHeartbeats 4000000 in
theorem l3Bent_any (B b T:Nat) (w:World) (hS:Src B w b T) (hT:T≤1000000) :
  Calls Tryz.prog 142 #[.pointer (some ⟨b,0,none⟩)] w fun e w' => ∃ (a:Option Addr) (k:Nat) (xs:List ItemD),e=.returned (.slice a xs.length k)∧xs.length≤9 ∧
   w'.ownsRow w.heap.size 134 2 (.slice a xs.length k) xs.length (itemCells xs)∧Src B w' b (T + 12)∧w.grownBy w' (some b):=by
 obtain ⟨i0,hi,hz0,hz1,hz2⟩:=info_parts infoItem
 have hlt:=hS.lt
 go_enter Tryz.func142,Tryz.ntmps142
 go_wp2_with fail
 refine (l3Draw_any B b T w hS hT).mono ?_
 rintro e w1 ⟨a,k,xs,rfl,hxl,ho,hS1,hg⟩
 have hnb:some b≠Value.ownBlock _:=own_not3 ho (Or.inl hlt.2)
 go_wp2_with fail
 refine (next_any B b (T + 9) 12 w1 hS1 (by omega) (by omega)).mono ?_
 rintro e w2 ⟨r,rfl,hr,hS2,hg2⟩
 replace ho:=ho.kept hg2 (Or.inr (fun e=>hnb e.symm))
 replace hg:=hg.trans hg2
 have hsz:=hg.size
 have hlt2:=hS2.lt
 clear hr hg2 hS1
 by_cases hr0:r=0
 ·subst hr0
  replace ho:=ho.alloc (.cells #[.int .i64 1,.int .i64 20,.int .i64 21] 2)
  replace hg:=hg.trans (World.grownBy_alloc w2 (.cells #[.int .i64 1,.int .i64 20,.int .i64 21] 2) (some b))
  go_wp2_with fail
  refine (pick_any B b (T + 9 + 1) w2.heap.size _ [1,20,21] _ (hS2.below (by go_grown)) (by omega) (World.ownsRow_lit w2 _ 3 (Nat.le_refl _) (by decide) rfl) (by simp) (by simp) (by simp [Value.ownBlock];omega)).mono ?_
  rintro e w3 ⟨r3,rfl,hmem,hS3,hg3⟩
  replace ho:=ho.kept hg3 (Or.inr (fun e=>hnb e.symm))
  replace hg:=hg.trans hg3
  have hlt3:=hS3.lt
  clear hmem hg3 hS2 hlt2
  replace ho:=ho.alloc (.cells #[.int .i64 5,.int .i64 20001] 2)
  replace hg:=hg.trans (World.grownBy_alloc w3 (.cells #[.int .i64 5,.int .i64 20001] 2) (some b))
  go_wp2_with fail
  refine (pick_any B b (T + 9 + 1 + 1) w3.heap.size _ [5,20001] _ (hS3.below (by go_grown)) (by omega) (World.ownsRow_lit w3 _ 2 (Nat.le_refl _) (by decide) rfl) (by simp) (by simp) (by simp [Value.ownBlock];omega)).mono ?_
  rintro e w4 ⟨r4,rfl,hmem,hS4,hg4⟩
  replace ho:=ho.kept hg4 (Or.inr (fun e=>hnb e.symm))
  replace hg:=hg.trans hg4
  have hsz4:=hg.size
  clear hmem hg4 hS3 hlt3
  have ho2:=ho.alloc (.cells #[.int .i64 r3,.int .i64 r4] 134)
  go_wp2_with (at_builtin;refine wpList_append_own _ rfl _ _ 29 rfl w.heap.size 134 i0 (.agg #[.int .i64 0,.int .i64 0]) 2 16 Tryz.underlying29 hi hz0 hz1 hz2 rfl (by decide) _ xs.length (itemCells xs) rfl ho2 ⟨w4.heap.size,0,none⟩ 1 1 [.int .i64 r3,.int .i64 r4] rfl rfl ?c1 ?c2 ?c3 ?c4 ?c5 ?_)
  all_goals try (case c1=>intro j u hj;match j,hj with | 0,hj=>simp at hj;subst hj;simp [Addr.add] | 1,hj=>simp at hj;subst hj;simp [Addr.add])
  all_goals try (case c2=>first | rfl | (intro u hu;simp at hu;rcases hu with rfl | rfl <;> rfl))
  all_goals try (case c3=>unfold maxLen;omega)
  all_goals try (case c4=>omega)
  all_goals try (case c5=>first | omega | (simp;omega))
  intro v' w5 hown hgrow _
  obtain ⟨a2,c2,rfl⟩:=own_shape hown
  have hW:Below w.heap.size w4 w5:=((Below.refl w.heap.size w4).alloc hsz4 (.cells #[.int .i64 r3,.int .i64 r4] 134)).grown hgrow (by simp;omega) (fun j hj=>(ho.lt j hj).1)
  have hS5:Src B w5 b (T + 12):=((hS4.below (w' := w4.alloc (.cells #[.int .i64 r3,.int .i64 r4] 134)) (by go_grown)).grown hgrow hnb (fun k hk=>by have:=(ho.lt k hk).1;omega)).mono (by omega)
  have R:Hid (w5.ownsRow w.heap.size 134 2 (.slice a2 (xs.length + 1) c2) (xs.length + 1) (itemCells (xs ++ [⟨r3,r4⟩]))∧w.grownBy w5 (some b)):=⟨by rw [itemCells_snoc'];simpa using hown,grown_step hg hW⟩
  clear hgrow ho2 ho hown hW
  go_wp2
  go_ret
  exact ⟨a2,c2,xs ++ [⟨r3,r4⟩],by simp,by simp;omega,by simpa using R.out.1,hS5,R.out.2⟩
 ·have hr0' : (r == 0)=false:=by simpa using hr0
  by_cases hr1:r=1
  ·subst hr1
   have hby:i0.bytes * 9≤281474976710656:=by rw [hz2];omega
   have hmx:9≤maxLen:=by unfold maxLen;omega
   clear hr0 hr0'
   go_wp2_with (at_make;refine wpList_make_full _ rfl _ _ 29 rfl w2.heap.size 134 i0 (.agg #[.int .i64 0,.int .i64 0]) 2 Tryz.underlying29 hi hz0 hz1 _ _ _ _ 9 rfl rfl rfl rfl hby hmx (Nat.le_refl _) ?_)
   intro w3 hown hgrow
   have hb3:Below w2.heap.size w2 w3:=(Below.refl _ _).grown hgrow (Nat.le_refl _) (by simp)
   have R:Hid (w3.ownsRow w.heap.size 134 2 (.slice (some ⟨w2.heap.size,0,none⟩) 9 9) 9 (itemCells (List.replicate 9 itemNo))∧w.grownBy w3 (some b)):=⟨by rw [← made9];exact own_base hown hsz,grown_step hg (hb3.mono hsz)⟩
   have hS3:=hS2.below hb3
   clear hown hgrow hb3
   go_wp2
   go_ret
   exact ⟨_,_,List.replicate 9 itemNo,rfl,by simp,R.out.1,hS3.mono (by omega),R.out.2⟩
  ·have hr1' : (r == 1)=false:=by simpa using hr1
   by_cases hr2:r=2
   ·subst hr2
    clear ho hr0 hr1 hr0' hr1'
    go_wp2
    go_loopw [3,4] (fun v c wr=>∃ (j:Nat) (ys:List ItemD),c=.int .i64 j∧11≤j∧j≤19∧ys.length + 11≤j∧wr.ownsRow w.heap.size 134 2 v ys.length (itemCells ys)∧Src B wr b (T + 9 + 1)∧w.grownBy wr (some b)) (fun _ c _=>19 - (intOf c).toNat)
    case atStart=>exact ⟨11,[],rfl,by omega,by omega,by simp,World.ownsRow_nil _ _ _ _,hS2,hg⟩
    case round=>
     clear hS2 hg hsz hlt2 hnb
     obtain ⟨j,ys,rfl,hj1,hj2,hyl,ho,hSr,hg⟩:=hrel
     have hsz:=hg.size
     obtain ⟨a1,c1,rfl⟩:=own_shape ho
     by_cases hpos:j < 19
     ·have hnb:some b≠Value.ownBlock _:=own_not3 ho (Or.inl hlt.2)
      have ho2:=ho.alloc (.cells #[.int .i64 j,.int .i64 0] 134)
      go_wp2_with (at_builtin;refine wpList_append_own _ rfl _ _ 29 rfl w.heap.size 134 i0 (.agg #[.int .i64 0,.int .i64 0]) 2 16 Tryz.underlying29 hi hz0 hz1 hz2 rfl (by decide) _ ys.length (itemCells ys) rfl ho2 ⟨wr.heap.size,0,none⟩ 1 1 [.int .i64 j,.int .i64 0] rfl rfl ?c1 ?c2 ?c3 ?c4 ?c5 ?_)
      all_goals try (case c1=>intro j u hj;match j,hj with | 0,hj=>simp at hj;subst hj;simp [Addr.add] | 1,hj=>simp at hj;subst hj;simp [Addr.add])
      all_goals try (case c2=>first | rfl | (intro u hu;simp at hu;rcases hu with rfl | rfl <;> rfl))
      all_goals try (case c3=>unfold maxLen;omega)
      all_goals try (case c4=>omega)
      all_goals try (case c5=>first | omega | (simp;omega))
      intro v' w5 hown hgrow _
      obtain ⟨a2,c2,rfl⟩:=own_shape hown
      have hW:Below w.heap.size wr w5:=((Below.refl w.heap.size wr).alloc hsz (.cells #[.int .i64 j,.int .i64 0] 134)).grown hgrow (by simp;omega) (fun j hj=>(ho.lt j hj).1)
      have hS5:Src B w5 b (T + 9 + 1):=((hSr.below (w' := wr.alloc (.cells #[.int .i64 j,.int .i64 0] 134)) (by go_grown)).grown hgrow hnb (fun k hk=>by have:=(ho.lt k hk).1;omega))
      have R:Hid (w5.ownsRow w.heap.size 134 2 (.slice a2 (ys.length + 1) c2) (ys.length + 1) (itemCells (ys ++ [⟨j,0⟩]))∧w.grownBy w5 (some b)):=⟨by rw [itemCells_snoc'];simpa using hown,grown_step hg hW⟩
      clear hgrow ho2 ho hown hW
      go_wp2
      go_roundw
      case rel=>exact ⟨j + 1,ys ++ [⟨j,0⟩],by go_num,by omega,by omega,by simp;omega,by simpa using R.out.1,hS5,R.out.2⟩
      case measure=>simp [intOf];omega
     ·go_wp2
      go_ret
      exact ⟨a1,c1,ys,rfl,by omega,ho,hSr.mono (by omega),hg⟩
   ·have hr2' : (r == 2)=false:=by simpa using hr2
    clear hr0 hr1 hr2
    go_wp2
    go_ret
    exact ⟨a,k,xs,rfl,by omega,ho,hS2.mono (by omega),hg⟩

end Go.Proofs.YtfdkcbafpiojkaaGreatDoor
