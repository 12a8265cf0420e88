/- Texts joined, with what the laws reach alone. -/
import Derived.Test.YtjjoahhnkpjolaaGreatDoorCFAO
set_option linter.unusedVariables false
set_option linter.unusedSimpArgs false
namespace Go.Proofs.YtjjoahhnkpjolaaGreatDoor
open Go.RowKit
open Go.BigFrame
set_option maxRecDepth 100000
def diV (ds:List InstE):Int:=if ordF ds=0 then (decN ds:Int) else 0

theorem last_at (ps:List InstQ) (hlt:ps.length - 1 < ps.length):lastE (ps.map InstQ.e)=InstQ.e ps[ps.length - 1]:=by
 unfold lastE
 rw [List.length_map]
 exact inst_at ps _ hlt

set_option maxHeartbeats 4000000 in
theorem implDecidedIn_any (v:Value) (ps:List InstQ) (w:World) (hG:Rul w) (h:instK.At w v ps) (hl:(ps.length + nmL InstQ.n ps)≤1048576) :
  Calls Tryz.prog 46 #[v] w fun e w' => e=.returned (.agg #[.int .i64 (ordF (ps.map InstQ.e)),.int .i64 (diV (ps.map InstQ.e))])∧Below w.heap.size w w' := by
 have hof:=fun w hG h=>implOrderFault_any v ps w hG h hl
 have HO:Hid (ordF (ps.map InstQ.e)=0→1≤ps.length∧ps.length≤4∧∀ q∈ps,insF (InstQ.e q)=0):=fun h0=>by
  have:=((ord_iff _).1 h0).1
  rw [List.length_map] at this
  exact ⟨this.1,this.2,fun q hq=>ord_mem h0 _ (List.mem_map.2 ⟨q,hq,rfl⟩)⟩
 have HV:Hid ((ordF (ps.map InstQ.e)=0→diV (ps.map InstQ.e)=(decN (ps.map InstQ.e):Int))∧(ordF (ps.map InstQ.e)≠0→diV (ps.map InstQ.e)=0)):=⟨fun h0=>if_pos h0,fun h0=>if_neg h0⟩
 obtain ⟨a,cap,rfl⟩:=h.shape
 generalize ordF (ps.map InstQ.e)=C at *
 generalize diV (ps.map InstQ.e)=V at *
 have hB:Below w.heap.size w (w.alloc (.cells #[.int .i64 0,.int .i64 0] 42)):=by go_grown
 have Rb:=Blk.new w 42 #[.int .i64 0,.int .i64 0]
 go_enter Tryz.func46,Tryz.ntmps46
 go_wp2_with fail
 generalize w.alloc (.cells #[.int .i64 0,.int .i64 0] 42)=W at *
 refine (hof W (hG.below hB) (h.below hB)).mono ?_
 rintro e w1 ⟨rfl,hb⟩
 replace hB:=hB.trans (hb.mono hB.size)
 replace Rb:=Rb.below hb
 clear hb hof
 by_cases hC:C=0
 ·obtain ⟨h1,h4,hin⟩:=HO.out hC
  have hv:=HV.out.1 hC
  subst hC
  have hlt:ps.length - 1 < ps.length:=by omega
  have hin2:=hin _ (List.getElem_mem hlt)
  have hoc:=oc_eq (InstQ.e ps[ps.length - 1])
  have HV3:Hid (outV (InstQ.e ps[ps.length - 1]).dec=3→V=(ps.length:Int) - 1):=fun h3=>by
   rw [hv]
   unfold decN
   rw [last_at ps hlt,if_pos h3,List.length_map]
   omega
  have HVn:Hid (outV (InstQ.e ps[ps.length - 1]).dec≠3→V=(ps.length:Int)):=fun h3=>by
   rw [hv]
   unfold decN
   rw [last_at ps hlt,if_neg h3,List.length_map]
  rw [hin2] at hoc
  have hn:InstQ.n ps[ps.length - 1]≤1048576:=by have:=nmI_le ps _ hlt;omega
  have hho0:=hasOutcome_any ps[ps.length - 1]
  have hho:=fun w hG h=>hho0 w hG h hn
  clear hho0 hin hin2 hv HV HO hn
  obtain ⟨b,off,rfl,hbs,hc,hrd⟩:=(h.below hB).cell (by decide) (ps.length - 1) hlt
  have hc' : ∀ j x,(instK.cells ps[ps.length - 1])[j]? = some x→w1.cell? ⟨b,off + (ps.length - 1) * 4 + j,none⟩=some x:=hc
  have c0:=hc' 0 (.bool ps[ps.length - 1].has) rfl
  have c1:=hc' 1 ps[ps.length - 1].vb rfl
  have c2:=hc' 2 ps[ps.length - 1].vr rfl
  have c3:=hc' 3 ps[ps.length - 1].vd rfl
  rw [Nat.add_zero] at c0
  clear hc hc'
  have hidx:((ps.length:Int) - 1).toNat=ps.length - 1:=by omega
  generalize ocC (InstQ.e ps[ps.length - 1])=OC at *
  generalize outV (InstQ.e ps[ps.length - 1]).dec=OV at *
  generalize ps[ps.length - 1]=p at *
  generalize hm:ps.length - 1=m at *
  have hpl:(ps.length:Int) - 1=(m:Int):=by omega
  have hpl2:ps.length=m + 1:=by omega
  rw [hpl] at HV3
  rw [hpl2] at h4 HVn ⊢
  rw [hpl2] at *
  clear hm hidx hpl hpl2
  obtain ⟨has,vb,batch,vr,rounds,vd,dec⟩:=p
  obtain ⟨ba,bk,rfl⟩:∃ a c,vb=.slice a batch.length c:=hrd.1.shape
  obtain ⟨va,vk,rfl⟩:∃ a c,vr=.slice a rounds.length c:=hrd.2.1.shape
  obtain ⟨da,dk,rfl⟩:∃ a c,vd=.slice a dec.length c:=hrd.2.2.shape
  dsimp only at c0 c1 c2 c3 hho
  obtain ⟨q0,q1⟩:=Rb.cel2
  obtain ⟨f0,f1⟩:=Rb.frz2
  clear q0 q1 f0 f1
  go_wp2_with fail
  refine (hho w1 (hG.below hB) hrd).mono ?_
  rintro e w3 ⟨rfl,hb3⟩
  replace hB:=hB.trans (hb3.mono hB.size)
  replace Rb:=Rb.below hb3
  obtain ⟨q0,q1⟩:=Rb.cel2
  obtain ⟨f0,f1⟩:=Rb.frz2
  clear hb3 hho c0 c1 c2 c3
  by_cases hO:OV=3
  ·have e1:(OC == 0)=false:=by rw [hoc,hO];rfl
   have E1:Hid (V=(m:Int)):=HV3.out hO
   clear hoc HV3 HVn
   go_wp2
   exact bodyPost_ret (v:=.agg #[.int .i64 0,.int .i64 m]) (by simp [results,Tryz.results46,go_sem,q0,q1]) rfl ⟨by rw [E1.out],(hB.setCell (p:=⟨w.heap.size,0,none⟩) (Nat.le_refl _) _).setCell (p:=⟨w.heap.size,1,none⟩) (Nat.le_refl _) _⟩
  ·have e1:(OC == 0)=true:=by
    rw [hoc]
    have:(OV != 3)=true:=by simpa using hO
    rw [this];rfl
   have E1:Hid (V=(m:Int) + 1):=by have:=HVn.out hO;exact this.trans (by omega)
   clear hoc HV3 HVn
   go_wp2
   exact bodyPost_ret (v:=.agg #[.int .i64 0,.int .i64 ((m:Int) + 1)]) (by simp [results,Tryz.results46,go_sem,q0,q1]) rfl ⟨by rw [E1.out],(hB.setCell (p:=⟨w.heap.size,0,none⟩) (Nat.le_refl _) _).setCell (p:=⟨w.heap.size,1,none⟩) (Nat.le_refl _) _⟩
 ·have E1:Hid (V=0):=HV.out.2 hC
  have hC' : (C != 0)=true:=by simpa using hC
  obtain ⟨q0,q1⟩:=Rb.cel2
  obtain ⟨f0,f1⟩:=Rb.frz2
  clear HV HO
  go_wp2
  exact bodyPost_ret (v:=.agg #[.int .i64 C,.int .i64 0]) (by simp [results,Tryz.results46,go_sem,q0,q1]) rfl ⟨by rw [E1.out],(hB.setCell (p:=⟨w.heap.size,0,none⟩) (Nat.le_refl _) _).setCell (p:=⟨w.heap.size,1,none⟩) (Nat.le_refl _) _⟩

set_option maxHeartbeats 4000000 in
theorem l7Decided_any (v:Value) (ps:List InstQ) (w:World) (h:instK.At w v ps) (hl:(ps.length + nmL InstQ.n ps)≤1048576) (h1:1≤ps.length) (h4:ps.length≤4) :
  Calls Tryz.prog 72 #[v] w fun e w' => e=.returned (.int .i64 (decN (ps.map InstQ.e)))∧Below w.heap.size w w' := by
 obtain ⟨a,cap,rfl⟩:=h.shape
 have hlt:ps.length - 1 < ps.length:=by omega
 obtain ⟨V,hv⟩:∃ V:Int,(decN (ps.map InstQ.e):Int)=V:=⟨_,rfl⟩
 have HV3:Hid (outV ps[ps.length - 1].dec=3→V=(ps.length:Int) - 1):=fun h3=>by
  rw [← hv]
  unfold decN
  rw [last_at ps hlt,if_pos (show outV (InstQ.e ps[ps.length - 1]).dec=3 from h3),List.length_map]
  omega
 have HVn:Hid (outV ps[ps.length - 1].dec≠3→V=(ps.length:Int)):=fun h3=>by
  rw [← hv]
  unfold decN
  rw [last_at ps hlt,if_neg (show ¬ outV (InstQ.e ps[ps.length - 1]).dec=3 from h3),List.length_map]
 rw [hv]
 have hn:InstQ.n ps[ps.length - 1]≤1048576:=by have:=nmI_le ps _ hlt;omega
 obtain ⟨b,off,rfl,hbs,hP⟩:=instP_at h (ps.length - 1) hlt
 have hho0:=l6Outcome_any b (off + (ps.length - 1) * 4) ps[ps.length - 1]
 have hho:=hho0 w hP hn
 clear hho0 hn hv h
 generalize outV ps[ps.length - 1].dec=OV at *
 generalize ps[ps.length - 1]=p at *
 generalize hm:ps.length - 1=m at *
 have hpl:(ps.length:Int) - 1=(m:Int):=by omega
 have hpl2:ps.length=m + 1:=by omega
 rw [hpl] at HV3
 rw [hpl2] at h4 HVn ⊢
 clear hm hpl hpl2 hl h1 hlt
 go_enter Tryz.func72,Tryz.ntmps72
 go_wp2_with fail
 refine hho.mono ?_
 rintro e w3 ⟨rfl,hw⟩
 replace hw:=hw.symm
 subst hw
 clear hho hP
 by_cases hO:OV=3
 ·have e1:(OV == 3)=true:=by simpa using hO
  have E1:Hid (V=(m:Int)):=HV3.out hO
  clear HV3 HVn hO
  go_wp2
  go_ret
  exact ⟨by rw [E1.out];rfl,Below.refl _ _⟩
 ·have e1:(OV == 3)=false:=by simpa using hO
  have E1:Hid (V=(m:Int) + 1):=by have:=HVn.out hO;exact this.trans (by omega)
  clear HV3 HVn hO
  go_wp2
  go_ret
  exact ⟨by rw [E1.out];rfl,Below.refl _ _⟩

end Go.Proofs.YtjjoahhnkpjolaaGreatDoor
namespace Go.Proofs.YtjjoahhnkpjolaaGreatDoor
open Go.RowKit
open Go.BigFrame
set_option maxRecDepth 100000
set_option maxHeartbeats 2000000 in
theorem l2CopyAll_any (v:Value) (ps:List TxnQ) (w:World) (h:txnK.At w v ps) (hne:∀ p∈ps,0 < p.acts.length) (hl:ps.length + nmL TxnQ.n ps≤1048576) :
  Calls Tryz.prog 116 #[v] w fun e w' => ∃ v' qs,e=.returned v' ∧ qs.map TxnQ.e=ps.map TxnQ.e∧txnK.Own w' v' qs∧(txnK.fp v' qs).Nodup∧(∀ k∈txnK.fp v' qs,w.heap.size≤k)∧Below w.heap.size w w' := by
 obtain ⟨a,cap,rfl⟩:=h.shape
 obtain ⟨i0,hi,hz0,hz1,hz2⟩:=info_parts infoTxn
 have ho:=World.ownsRow_lit (e:=158) (size:=4) w #[] 0 (Nat.le_refl _) (by decide) rfl
 have hn1:txnK.Own (w.alloc (.cells #[] 158)) (.slice (some ⟨w.heap.size,0,none⟩) 0 0) ([]:List TxnQ):=⟨(own_zero ho).1,fun p hp=>by simp at hp⟩
 have hnb:Below w.heap.size w (w.alloc (.cells #[] 158)):=by go_grown
 have HN0:Hid ((txnK.fp (.slice (some ⟨w.heap.size,0,none⟩) 0 0) ([]:List TxnQ)).Nodup∧∀ k∈txnK.fp (.slice (some ⟨w.heap.size,0,none⟩) 0 0) ([]:List TxnQ),w.heap.size≤k):=by
  refine ⟨?_,?_⟩
  ·simp [Kind.fp,blk,Value.ownBlock]
  ·simp [Kind.fp,blk,Value.ownBlock]
 clear ho
 go_enter Tryz.func116,Tryz.ntmps116
 go_wp2
 go_loopw [3,4] (fun v j wr=>∃ (k:Nat) (qs:List TxnQ),k≤ps.length∧j=.int .i64 k∧Hid (qs.map TxnQ.e=(ps.take k).map TxnQ.e)∧txnK.Own wr v qs∧Hid ((txnK.fp v qs).Nodup∧∀ k∈txnK.fp v qs,w.heap.size≤k)∧Below w.heap.size w wr) (fun _ j _=>ps.length - (intOf j).toNat)
 case atStart=>exact ⟨0,[],Nat.zero_le _,rfl,(rfl:_=_),hn1,HN0,hnb⟩
 case round=>
  clear HN0 hn1 hnb
  obtain ⟨k,qs,hk,rfl,HE,hO,HN,hb⟩:=hrel
  obtain ⟨sa,sc,rfl⟩:=hO.shape
  have HQL:Hid (qs.length=k):=by
   have:=congrArg List.length HE.out
   rw [List.length_map,List.length_map,List.length_take] at this
   show qs.length=k
   omega
  by_cases hlt:k < ps.length
  ·obtain ⟨b,off,rfl,hbs,hc,hrd⟩:=(h.below hb).cell (by decide) k hlt
   have hc' : ∀ j x,(txnK.cells ps[k])[j]? = some x→wr.cell? ⟨b,off + k * 4 + j,none⟩=some x:=hc
   have c0:=hc' 0 (.int .i64 ps[k].i) rfl
   have c1:=hc' 1 (.int .i64 ps[k].s) rfl
   have c2:=hc' 2 (.int .i64 ps[k].q) rfl
   have c3:=hc' 3 (ps[k].va) rfl
   have hzl:=nm_le TxnQ.n ps k hlt
   have hpos:=hne _ (List.getElem_mem hlt)
   have HPE:Hid (∀ p' : TxnQ,p'.e=TxnQ.e ps[k]→(qs ++ [p']).map TxnQ.e=(ps.take (k + 1)).map TxnQ.e):=fun p' hp' => by
    rw [List.take_succ_eq_append_getElem hlt,List.map_append,List.map_append,HE.out,List.map_singleton,List.map_singleton,hp']
   clear hc hc'
   generalize ps[k]=p at *
   obtain ⟨i,s,q,va,acts⟩:=p
   replace hrd:actK.At wr va acts:=hrd
   replace hzl:acts.length≤nmL TxnQ.n ps:=hzl
   obtain ⟨aa,ac,rfl⟩:=hrd.shape
   dsimp only at c0 c1 c2 c3 hpos
   obtain ⟨ab,ao,haa⟩:∃ ab ao,aa=some ⟨ab,ao,none⟩:=by
    rcases (actK_at hrd).2 with h0 | ⟨ab,ao,e,_⟩
    ·have:=actCells_length acts
     rw [h0] at this
     simp at this
     omega
    ·exact ⟨ab,ao,e⟩
   subst haa
   have hcl:=l2Copy_any i s q ab ao ac acts _ (actK_at hrd).2 hpos (by omega)
   rw [Nat.add_zero] at c0
   clear HE
   go_wp2_with fail
   clear c0 c1 c2 c3
   have hYs:w.heap.size≤wr.heap.size:=hb.size
   refine hcl.mono ?_
   rintro e w2 ⟨a2,c2,rfl,ho2,hb2⟩
   have HLT:=hO.lt
   replace hO:=hO.below hb2
   replace hb:=hb.trans (hb2.mono hb.size)
   obtain ⟨o2,hk2⟩:=own_zero ho2
   have hP:txnK.own w2 ⟨i,s,q,.slice a2 acts.length c2,acts⟩:=⟨o2,fun _ _=>trivial⟩
   have hPlo:∀ x∈txnK.foot ⟨i,s,q,.slice a2 acts.length c2,acts⟩,wr.heap.size≤x:=fun x hx=>hk2 x (by rw [← actK_fp (.slice a2 acts.length c2) acts];exact hx)
   have hPn:(txnK.foot ⟨i,s,q,.slice a2 acts.length c2,acts⟩).Nodup:=by
    show (actK.fp _ _).Nodup
    rw [actK_fp];exact blk_nodup _
   have hbA:Below w2.heap.size w2 (w2.alloc (.cells #[.int .i64 i,.int .i64 s,.int .i64 q,.slice a2 acts.length c2] 158)):=by go_grown
   have hOA:=hO.below hbA
   have hPA:=txnK.own_out (F:=[]) hP (Out.of_below hbA) (fun _ _=>by simp)
   have hbB:=hb.trans (hbA.mono hb.size)
   clear hcl ho2 hO hP hk2
   have hrow0:=hOA.1
   go_wp2_with (at_builtin;refine wpList_append_own_at _ rfl _ _ 52 rfl 0 158 i0 (.agg #[.int .i64 0,.int .i64 0,.int .i64 0,.slice none 0 0]) 4 48 Tryz.underlying52 hi hz0 hz1 hz2 rfl (by decide) _ qs.length (txnK.row qs) rfl hrow0 ⟨w2.heap.size,0,none⟩ 1 1 [.int .i64 i,.int .i64 s,.int .i64 q,.slice a2 acts.length c2] rfl rfl ?c1 ?c2 ?c3 ?c4 ?c5 ?_)
   all_goals try (case c1=>intro j u hj;match j,hj with | 0,hj=>simp at hj;subst hj;simp [Addr.add] | 1,hj=>simp at hj;subst hj;simp [Addr.add] | 2,hj=>simp at hj;subst hj;simp [Addr.add] | 3,hj=>simp at hj;subst hj;simp [Addr.add])
   all_goals try (case c2=>intro u hu;simp at hu;rcases hu with rfl | rfl | rfl | rfl <;> rfl)
   all_goals try (case c3=>have:=HQL.out;unfold maxLen;omega)
   all_goals try (case c4=>have:=HQL.out;omega)
   all_goals try (case c5=>first | omega | simp)
   intro v' w5 hown hgrow hnil hat
   clear hnil hrow0
   rw [show w2.heap.size + 1=(w2.alloc (.cells #[.int .i64 i,.int .i64 s,.int .i64 q,.slice a2 acts.length c2] 158)).heap.size from (World.size_alloc _ _).symm] at hat
   generalize hwA:w2.alloc (.cells #[.int .i64 i,.int .i64 s,.int .i64 q,.slice a2 acts.length c2] 158)=WA at *
   clear hwA
   have hsz:wr.heap.size≤WA.heap.size:=by have:=hb2.size;have:=hbA.size;omega
   obtain ⟨hO5,hn5,hlo5,hou⟩:=hOA.snoc HN.out.1 HN.out.2 hPA hPn (fun x hx hx' => by have:=HLT x hx';have:=hPlo x hx;omega) (fun x hx=>by have:=hPlo x hx;omega) hbB.size hown hgrow hat
   have hb5:Below w.heap.size w w5:=Out.keep hbB hou hbB.size (fun x hx=>HN.out.2 x (by simp only [Kind.fp,List.mem_append];exact Or.inl hx))
   have HE5:Hid ((qs ++ [(⟨i,s,q,.slice a2 acts.length c2,acts⟩:TxnQ)]).map TxnQ.e=(ps.take (k + 1)).map TxnQ.e):=HPE.out _ rfl
   have HN5:Hid ((txnK.fp v' (qs ++ [(⟨i,s,q,.slice a2 acts.length c2,acts⟩:TxnQ)])).Nodup∧∀ k∈txnK.fp v' (qs ++ [(⟨i,s,q,.slice a2 acts.length c2,acts⟩:TxnQ)]),w.heap.size≤k):=⟨hn5,hlo5⟩
   clear HPE HN HLT hPlo hPn hPA hOA hbB hown hgrow hat hou hn5 hlo5 hrd hb hbA hb2 hzl hpos
   go_wp2
   go_roundw
   case rel=>exact ⟨k + 1,_,by omega,by go_num,HE5,hO5,HN5,hb5⟩
   case measure=>simp [intOf];omega
  ·have hkl:k=ps.length:=by omega
   subst hkl
   have hE:=HE.out
   rw [List.take_length] at hE
   clear HE
   go_wp2
   go_ret
   exact ⟨_,qs,rfl,hE,hO,HN.out.1,HN.out.2,hb⟩

end Go.Proofs.YtjjoahhnkpjolaaGreatDoor
namespace Go.Proofs.YtjjoahhnkpjolaaGreatDoor
open Go.RowKit
open Go.BigFrame
set_option maxRecDepth 100000
end Go.Proofs.YtjjoahhnkpjolaaGreatDoor
namespace Go.Proofs.YtjjoahhnkpjolaaGreatDoor
open Go.RowKit
open Go.BigFrame
set_option maxRecDepth 100000
end Go.Proofs.YtjjoahhnkpjolaaGreatDoor
namespace Go.Proofs.YtjjoahhnkpjolaaGreatDoor
open Go.RowKit
open Go.BigFrame
set_option maxRecDepth 100000
end Go.Proofs.YtjjoahhnkpjolaaGreatDoor
namespace Go.Proofs.YtjjoahhnkpjolaaGreatDoor
open Go.RowKit
open Go.BigFrame
set_option maxRecDepth 100000
end Go.Proofs.YtjjoahhnkpjolaaGreatDoor
namespace Go.Proofs.YtjjoahhnkpjolaaGreatDoor
open Go.RowKit
set_option maxRecDepth 100000
end Go.Proofs.YtjjoahhnkpjolaaGreatDoor
namespace Go.Proofs.YtjjoahhnkpjolaaGreatDoor
open Go.RowKit
open Go.BigFrame
set_option maxRecDepth 100000
theorem inst_n {q p:InstQ} (h:q.e=p.e):q.n=p.n:=by
 simp only [InstQ.e,InstE.mk.injEq] at h
 obtain ⟨_,h1,h2,h3⟩:=h
 have t1:q.batch.length=p.batch.length:=by simpa using congrArg List.length h1
 have t2:nmL TxnQ.n q.batch=nmL TxnQ.n p.batch:=by
  have:=congrArg (fun l=>nmL (fun d:TxnD=>d.acts.length) l) h1
  simp only [nmL,List.map_map] at this
  exact this
 have t3:q.rounds.length=p.rounds.length:=by simpa using congrArg List.length h2
 have t4:nmL RoundQ.n q.rounds=nmL RoundQ.n p.rounds:=by
  have:=congrArg (fun l=>nmL (fun d:RoundE=>d.rep.length + d.pro.length) l) h2
  simp only [nmL,List.map_map] at this
  exact this
 unfold InstQ.n
 rw [t1,t2,t3,t4,h3]

end Go.Proofs.YtjjoahhnkpjolaaGreatDoor
namespace Go.Proofs.YtjjoahhnkpjolaaGreatDoor
open Go.RowKit
open Go.BigFrame
set_option maxRecDepth 100000
theorem txnF_nil (i s q:Int):txnF i s q []≠0:=by
 unfold txnF
 split <;> simp

theorem bat_pos {bt:List TxnQ} (h:batF (bt.map TxnQ.e)=0):∀ p∈bt,0 < p.acts.length:=by
 intro p hp
 have ha:allF (bt.map TxnQ.e)=0:=by
  unfold batF at h
  split at h
  ·omega
  ·split at h
   ·assumption
   ·exact h
 have hz:∀ (ds:List TxnD),allF ds=0→∀ d∈ds,d.F=0:=by
  intro ds
  induction ds with
  | nil=>intro _ d hd;simp at hd
  | cons x r ih=>
   intro h d hd
   simp only [allF] at h
   by_cases hx:x.F=0
   ·rw [if_pos hx] at h
    rcases List.mem_cons.1 hd with rfl | hd
    ·exact hx
    ·exact ih h d hd
   ·rw [if_neg hx] at h
    exact absurd h hx
 have hf:=hz _ ha p.e (List.mem_map.2 ⟨p,hp,rfl⟩)
 show 0 < p.acts.length
 have hf' : txnF p.i p.s p.q p.acts=0:=hf
 rcases Nat.eq_zero_or_pos p.acts.length with h0 | h0
 ·exfalso
  have:p.acts=[]:=List.eq_nil_of_length_eq_zero h0
  rw [this] at hf'
  exact txnF_nil _ _ _ hf'
 ·exact h0

end Go.Proofs.YtjjoahhnkpjolaaGreatDoor
namespace Go.Proofs.YtjjoahhnkpjolaaGreatDoor
open Go.RowKit
open Go.BigFrame
set_option maxRecDepth 100000
theorem ins_low {p:InstQ} (h:insF p.e=0):(∀ t∈p.batch,0 < t.acts.length)∧(∀ r∈p.rounds,0 < r.rep.length∧0 < r.pro.length)∧0 < p.dec.length:=by
 obtain ⟨h1,h2,h3,_,h5⟩:=ins_ok h
 obtain ⟨h6,_⟩:=ins_zero h
 obtain ⟨_,_,_,h7,h8⟩:=shp_zero h6
 refine ⟨?_,fun r hr=>?_,by have:p.dec.length=3:=h3;omega⟩
 ·cases hh:p.has with
  | true=>exact bat_pos (h8 hh)
  | false=>
   have:p.batch.map TxnQ.e=[]:=h7 hh
   intro t ht
   have:p.batch=[]:=List.map_eq_nil_iff.1 this
   rw [this] at ht
   simp at ht
 ·have:=h1 (RoundQ.e r) (List.mem_map.2 ⟨r,hr,rfl⟩)
  have h9:r.rep.length=3∧r.pro.length=3:=this
  omega

end Go.Proofs.YtjjoahhnkpjolaaGreatDoor
namespace Go.Proofs.YtjjoahhnkpjolaaGreatDoor
open Go.RowKit
open Go.BigFrame
set_option maxRecDepth 100000
def txnNo' : TxnD:=⟨0,0,0,[]⟩

theorem txn_get (xs:List TxnQ) (k:Nat) (hk:k < xs.length):(xs.map TxnQ.e).getD k txnNo' = TxnQ.e xs[k]:=by simp [List.getD,hk]

theorem knw_yes {acc:List TxnD} {t:TxnD} (k:Nat) (hk:k < acc.length) (h:stF (acc.getD k txnNo') t=true):knw acc t=true:=by
 unfold knw
 rw [List.any_eq_true]
 exact ⟨acc[k],List.getElem_mem hk,by simpa [List.getD,hk] using h⟩

theorem knw_no {acc:List TxnD} {t:TxnD} (h:∀ j,j < acc.length→stF (acc.getD j txnNo') t=false):knw acc t=false:=by
 cases hc:knw acc t with
 | false=>rfl
 | true=>
  unfold knw at hc
  rw [List.any_eq_true] at hc
  obtain ⟨x,hx,hs⟩:=hc
  obtain ⟨j,hj,rfl⟩:=List.getElem_of_mem hx
  have:=h j hj
  have e:acc.getD j txnNo' = acc[j]:=by simp [List.getD,hj]
  rw [e,hs] at this
  exact absurd this (by decide)

set_option maxHeartbeats 4000000 in
theorem l7Known_any (v:Value) (acc:List TxnQ) (b o:Nat) (x:TxnD) (va:Value) (w:World) (h:txnK.At w v acc) (hB:Box4 w b o (.int .i64 x.id) (.int .i64 x.session) (.int .i64 x.seq) va) (hl:acc.length≤1048576) :
  Calls Tryz.prog 121 #[v,.pointer (some ⟨b,o,none⟩)] w fun e w' => e=.returned (.bool (knw (acc.map TxnQ.e) x))∧Below w.heap.size w w' := by
 obtain ⟨a,cap,rfl⟩:=h.shape
 obtain ⟨d0,d1,d2,d3⟩:=hB
 generalize hE:knw (acc.map TxnQ.e) x=E
 have HE:Hid (knw (acc.map TxnQ.e) x=E):=hE
 clear hE
 obtain ⟨xi,xs,xq,xa⟩:=x
 dsimp only at d0 d1 d2 d3
 go_enter Tryz.func121,Tryz.ntmps121
 go_wp2
 go_loopw [5] (fun j wr=>∃ k m:Nat,k≤acc.length∧j=.int .i64 k∧wr=w.drewN m∧Hid (∀ j,j < k→stF ((acc.map TxnQ.e).getD j txnNo') ⟨xi,xs,xq,xa⟩=false)) (fun j _=>acc.length - (intOf j).toNat)
 case atStart=>exact ⟨0,0,Nat.zero_le _,rfl,rfl,fun j hj=>absurd hj (Nat.not_lt_zero _)⟩
 case round=>
  obtain ⟨k,m,hk,rfl,rfl,HA⟩:=hrel
  by_cases hlt:k < acc.length
  ·obtain ⟨b',off,rfl,hbs,hc,hrd⟩:=h.cell (by decide) k hlt
   have hc' : ∀ j x,(txnK.cells acc[k])[j]? = some x→w.cell? ⟨b',off + k * 4 + j,none⟩=some x:=hc
   have c0:=hc' 0 (.int .i64 acc[k].i) rfl
   have c1:=hc' 1 (.int .i64 acc[k].s) rfl
   have c2:=hc' 2 (.int .i64 acc[k].q) rfl
   rw [Nat.add_zero] at c0
   have HY:Hid (stF (TxnQ.e acc[k]) ⟨xi,xs,xq,xa⟩=true→E=true):=fun hx=>by rw [← HE.out];exact knw_yes k (by simpa using hlt) (by rw [txn_get acc k hlt];exact hx)
   have HN:Hid (stF (TxnQ.e acc[k]) ⟨xi,xs,xq,xa⟩=false→∀ j,j < k + 1→stF ((acc.map TxnQ.e).getD j txnNo') ⟨xi,xs,xq,xa⟩=false):=fun hx j hj=>by
    by_cases hjm:j=k
    ·subst hjm
     rw [txn_get acc j hlt]
     exact hx
    ·exact HA.out j (by omega)
   clear HA hc hc' hrd
   generalize acc[k]=p at *
   obtain ⟨i,s,q,va',acts⟩:=p
   dsimp only [TxnQ.e,stF] at c0 c1 c2 HY HN
   have hlti:(k:Int) < (acc.length:Int):=by omega
   cases h1:(i == xi)
   ·cases h2:(s == xs)
    ·have HR:=HN.out (by rw [h1,h2];rfl)
     have HR' : Hid _:=HR
     clear HY HN HR
     go_wp2
     go_quiet (fail)
     go_wp2
     go_roundw
     case rel=>exact ⟨k + 1,_,by omega,by go_num,rfl,HR'.out⟩
     case measure=>simp [intOf];omega
    ·cases h3:(q == xq)
     ·have HR:=HN.out (by rw [h1,h2,h3];rfl)
      have HR' : Hid _:=HR
      clear HY HN HR
      go_wp2
      go_quiet (fail)
      go_wp2
      go_roundw
      case rel=>exact ⟨k + 1,_,by omega,by go_num,rfl,HR'.out⟩
      case measure=>simp [intOf];omega
     ·have E1:Hid (E=true):=HY.out (by rw [h1,h2,h3];rfl)
      clear HY HN
      go_wp2
      go_quiet (fail)
      go_wp2
      go_ret
      rw [E1.out]
      exact ⟨rfl,⟨rfl,rfl,rfl,Nat.le_refl _,fun _ _=>rfl⟩⟩
   ·have E1:Hid (E=true):=HY.out (by rw [h1];rfl)
    clear HY HN
    go_wp2
    go_quiet (fail)
    go_wp2
    go_ret
    rw [E1.out]
    exact ⟨rfl,⟨rfl,rfl,rfl,Nat.le_refl _,fun _ _=>rfl⟩⟩
  ·have E1:Hid (E=false):=by rw [← HE.out];exact knw_no (fun j hj=>HA.out j (by simp at hj;omega))
   have hlti:¬ (k:Int) < (acc.length:Int):=by omega
   clear HA HE
   go_wp2
   go_ret
   rw [E1.out]
   exact ⟨rfl,⟨rfl,rfl,rfl,Nat.le_refl _,fun _ _=>rfl⟩⟩

theorem takF_succ (ds:List InstE) (k:Nat) (hk:k < ds.length):takF (ds.take (k + 1))=takF (ds.take k) ++ (if outV (ds.getD k instNo).dec=1 then (ds.getD k instNo).batch else []):=by
 rw [List.take_succ_eq_append_getElem hk]
 unfold takF
 rw [List.flatMap_append]
 have e:ds.getD k instNo=ds[k]:=by simp [List.getD,hk]
 simp only [List.flatMap_cons,List.flatMap_nil,List.append_nil,e]

theorem onc_snoc (xs acc:List TxnD) (t:TxnD):onc acc (xs ++ [t])=if knw (onc acc xs) t then onc acc xs else onc acc xs ++ [t]:=by
 rw [onc_append]
 simp only [onc]

set_option maxHeartbeats 16000000 in
theorem l7Definite_any (v:Value) (ps:List InstQ) (n:Nat) (w:World) (h:instK.At w v ps) (hlow:(∀ p∈ps,(∀ t∈p.batch,0 < t.acts.length)∧(∀ r∈p.rounds,0 < r.rep.length∧0 < r.pro.length)∧0 < p.dec.length)) (hbat:∀ p∈ps,p.batch.length≤4) (hn:n≤ps.length) (h4:ps.length≤4) (hl:(ps.length + nmL InstQ.n ps)≤1048576) :
  Calls Tryz.prog 75 #[v,.int .i64 n] w fun e w' => ∃ v' qs,e=.returned v' ∧ qs.map TxnQ.e=defL (ps.map InstQ.e) n∧txnK.Own w' v' qs∧(txnK.fp v' qs).Nodup∧(∀ k∈txnK.fp v' qs,w.heap.size≤k)∧Below w.heap.size w w' := by
 obtain ⟨a,cap,rfl⟩:=h.shape
 obtain ⟨i0,hi,hz0,hz1,hz2⟩:=info_parts infoTxn
 have ho:=World.ownsRow_lit (e:=158) (size:=4) w #[] 0 (Nat.le_refl _) (by decide) rfl
 have hn1:txnK.Own (w.alloc (.cells #[] 158)) (.slice (some ⟨w.heap.size,0,none⟩) 0 0) ([]:List TxnQ):=⟨(own_zero ho).1,fun p hp=>by simp at hp⟩
 have hb0:Below w.heap.size w (w.alloc (.cells #[] 158)):=by go_grown
 have HN0:Hid ((txnK.fp (.slice (some ⟨w.heap.size,0,none⟩) 0 0) ([]:List TxnQ)).Nodup∧∀ k∈txnK.fp (.slice (some ⟨w.heap.size,0,none⟩) 0 0) ([]:List TxnQ),w.heap.size≤k):=by
  refine ⟨?_,?_⟩
  ·simp [Kind.fp,blk,Value.ownBlock]
  ·simp [Kind.fp,blk,Value.ownBlock]
 clear ho
 have HE0:Hid (([]:List TxnQ).map TxnQ.e=defL (ps.map InstQ.e) 0):=by show _=_;simp [defL,takF,onc]
 have HL0:Hid (([]:List TxnQ).length≤4 * 0):=by show _≤_;simp
 go_enter Tryz.func75,Tryz.ntmps75
 go_wp2
 go_loopw [5,6] (fun v j wr=>∃ (k:Nat) (qs:List TxnQ),k≤n∧j=.int .i64 k∧Hid (qs.map TxnQ.e=defL (ps.map InstQ.e) k)∧Hid (qs.length≤4 * k)∧txnK.Own wr v qs∧Hid ((txnK.fp v qs).Nodup∧∀ k∈txnK.fp v qs,w.heap.size≤k)∧Below w.heap.size w wr) (fun _ j _=>n - (intOf j).toNat)
 case atStart=>exact ⟨0,[],Nat.zero_le _,rfl,HE0,HL0,hn1,HN0,hb0⟩
 case round=>
  clear HN0 hn1 hb0 HE0 HL0
  obtain ⟨k,qs,hk,rfl,HE,HL,hO,HN,hb⟩:=hrel
  obtain ⟨sa,sc,rfl⟩:=hO.shape
  by_cases hlt:k < n
  ·have hltp:k < ps.length:=by omega
   have HT:=takF_succ (ps.map InstQ.e) k (by simpa using hltp)
   rw [inst_at ps k hltp] at HT
   have HT1:Hid (outV ps[k].dec≠1→defL (ps.map InstQ.e) (k + 1)=defL (ps.map InstQ.e) k):=fun hx=>by
    unfold defL
    rw [HT,if_neg (show ¬ outV (InstQ.e ps[k]).dec=1 from hx),List.append_nil]
   have HT2:Hid (outV ps[k].dec=1→∀ m,onc (defL (ps.map InstQ.e) k) ((ps[k].batch.map TxnQ.e).take m)=onc [] (takF ((ps.map InstQ.e).take k) ++ (ps[k].batch.map TxnQ.e).take m)):=fun _ m=>by
    rw [onc_append]
    rfl
   have HT3:Hid (outV ps[k].dec=1→defL (ps.map InstQ.e) (k + 1)=onc (defL (ps.map InstQ.e) k) (ps[k].batch.map TxnQ.e)):=fun hx=>by
    unfold defL
    rw [HT,if_pos (show outV (InstQ.e ps[k]).dec=1 from hx),onc_append]
    rfl
   clear HT
   obtain ⟨b,off,rfl,hbs,hP⟩:=instP_at h k hltp
   have hnk:InstQ.n ps[k]≤1048576:=by have:=nmI_le ps k hltp;omega
   have hho:=l6Outcome_any b (off + k * 4) ps[k] wr (hP.below hb) hnk
   have hbs' : b < wr.heap.size:=Nat.lt_of_lt_of_le hbs hb.size
   have hlow1:=hlow _ (List.getElem_mem hltp)
   have hb4:=hbat _ (List.getElem_mem hltp)
   generalize outV ps[k].dec=OV at *
   have hlti:(k:Int) < (n:Int):=by omega
   have hltpi:(k:Int) < (ps.length:Int):=by omega
   go_wp2_with fail
   refine hho.mono ?_
   rintro e w' ⟨rfl,hw⟩
   replace hw:=hw.symm
   subst hw
   clear hho
   by_cases hO1:OV=1
   case neg=>
    have e1:(OV != 1)=true:=by simpa using hO1
    have HR:Hid (qs.map TxnQ.e=defL (ps.map InstQ.e) (k + 1)):=show _=_ by rw [HT1.out hO1];exact HE.out
    have HR2:Hid (qs.length≤4 * (k + 1)):=show _≤_ by have:=HL.out;omega
    clear HT1 HT2 HT3 HE HL hO1
    go_wp2
    go_roundw
    case rel=>exact ⟨k + 1,qs,by omega,by go_num,HR,HR2,hO,HN,hb⟩
    case measure=>simp [intOf];omega
   case pos=>
    have e1:(OV != 1)=false:=by simp [hO1]
    have HI:Hid (qs.map TxnQ.e=onc (defL (ps.map InstQ.e) k) ((ps[k].batch.map TxnQ.e).take 0)):=show _=_ by rw [List.take_zero];exact HE.out
    have HI2:Hid (qs.length≤4 * k + 0):=HL.out
    have HT4:Hid (defL (ps.map InstQ.e) (k + 1)=onc (defL (ps.map InstQ.e) k) (ps[k].batch.map TxnQ.e)):=HT3.out hO1
    clear HT1 HT2 HT3 HE HL hO1
    generalize ps[k]=p at *
    obtain ⟨has,vb,batch,vr,rounds,vd,dec⟩:=p
    have hT:txnK.At w vb batch:=hP.batch
    have cc:=(hP.below hb).box.c1
    dsimp only at cc
    obtain ⟨ba,bk,rfl⟩:=hT.shape
    dsimp only at HI HT4 hlow1 hb4
    have hne:=hlow1.1
    have hbn:nmL TxnQ.n batch≤1048576:=by
     have h9:=hnk
     dsimp only [InstQ.n] at h9
     omega
    generalize defL (ps.map InstQ.e) k=acc at *
    go_wp2
    clear cc
    go_loopw [5,7] (fun v j wx=>∃ (m:Nat) (qs:List TxnQ),m≤batch.length∧j=.int .i64 m∧Hid (qs.map TxnQ.e=onc acc ((batch.map TxnQ.e).take m))∧Hid (qs.length≤4 * k + m)∧txnK.Own wx v qs∧Hid ((txnK.fp v qs).Nodup∧∀ k∈txnK.fp v qs,w.heap.size≤k)∧Below w.heap.size w wx) (fun _ j _=>batch.length - (intOf j).toNat)
    case atStart=>exact ⟨0,qs,Nat.zero_le _,rfl,HI,HI2,hO,HN,hb⟩
    case round=>
     clear HI HI2 hO HN hb
     obtain ⟨m,qs,hm,rfl,HI,HI2,hO,HN,hb⟩:=hrel
     obtain ⟨sa,sc,rfl⟩:=hO.shape
     have hP2:=hP.below hb
     have c0' := hP2.box.c1
     dsimp only at c0'
     by_cases hltm:m < batch.length
     ·have hltmi:(m:Int) < (batch.length:Int):=by omega
      have hHS:batch.length≤4:=hb4
      obtain ⟨b2,o2,rfl,hbs2,hc,hrd⟩:=(hT.below hb).cell (by decide) m hltm
      have hc' : ∀ j x,(txnK.cells batch[m])[j]? = some x→wr.cell? ⟨b2,o2 + m * 4 + j,none⟩=some x:=hc
      have t0:=hc' 0 (.int .i64 batch[m].i) rfl
      have t1:=hc' 1 (.int .i64 batch[m].s) rfl
      have t2:=hc' 2 (.int .i64 batch[m].q) rfl
      have t3:=hc' 3 (batch[m].va) rfl
      rw [Nat.add_zero] at t0
      have hzl:=nm_le TxnQ.n batch m hltm
      have hpos:=hne _ (List.getElem_mem hltm)
      have HS:(batch.map TxnQ.e).take (m + 1)=(batch.map TxnQ.e).take m ++ [TxnQ.e batch[m]]:=by
       rw [List.take_succ_eq_append_getElem (by simpa using hltm),List.getElem_map]
      have HK1:Hid (knw (qs.map TxnQ.e) (TxnQ.e batch[m])=true→qs.map TxnQ.e=onc acc ((batch.map TxnQ.e).take (m + 1))):=fun hx=>by
       rw [HS,onc_snoc,← HI.out,if_pos hx]
      have HK2:Hid (knw (qs.map TxnQ.e) (TxnQ.e batch[m])=false→∀ p' : TxnQ,p'.e=TxnQ.e batch[m]→(qs ++ [p']).map TxnQ.e=onc acc ((batch.map TxnQ.e).take (m + 1))):=fun hx p' hp' => by
       rw [HS,onc_snoc,← HI.out,if_neg (by rw [hx];decide),List.map_append,List.map_singleton,hp']
      clear hc hc' HS
      generalize batch[m]=p at *
      obtain ⟨i,s,q,va,acts⟩:=p
      replace hrd:actK.At wr va acts:=hrd
      replace hzl:acts.length≤nmL TxnQ.n batch:=hzl
      obtain ⟨aa,ac,rfl⟩:=hrd.shape
      dsimp only at t0 t1 t2 t3 hpos
      obtain ⟨ab,ao,haa⟩:∃ ab ao,aa=some ⟨ab,ao,none⟩:=by
       rcases (actK_at hrd).2 with h0 | ⟨ab,ao,e,_⟩
       ·have:=actCells_length acts
        rw [h0] at this
        simp at this
        omega
       ·exact ⟨ab,ao,e⟩
      subst haa
      have hcl:=l2Copy_any i s q ab ao ac acts _ (actK_at hrd).2 hpos (by omega)
      go_wp2_with fail
      clear t0 t1 t2 t3 c0'
      have HLT:Hid (∀ x∈txnK.fp (.slice sa qs.length sc) qs,x < wr.heap.size):=hO.lt
      have HYS:Hid (w.heap.size≤wr.heap.size):=hb.size
      refine hcl.mono ?_
      rintro e w2 ⟨a2,c2,rfl,ho2,hb2⟩
      replace hO:=hO.below hb2
      replace hb:=hb.trans (hb2.mono hb.size)
      have h2s:=hb2.size
      obtain ⟨o2',hk2⟩:=own_zero ho2
      have hP' : txnK.own w2 (⟨i,s,q,.slice a2 acts.length c2,acts⟩:TxnQ):=⟨o2',fun _ _=>trivial⟩
      have hPlo:∀ x∈txnK.foot (⟨i,s,q,.slice a2 acts.length c2,acts⟩:TxnQ),wr.heap.size≤x:=fun x hx=>hk2 x (by rw [← actK_fp (.slice a2 acts.length c2) acts];exact hx)
      have hPn:(txnK.foot (⟨i,s,q,.slice a2 acts.length c2,acts⟩:TxnQ)).Nodup:=by
       show (actK.fp _ _).Nodup
       rw [actK_fp];exact blk_nodup _
      have hPl:=txnK.own_lt hP'
      have hbA:Below w2.heap.size w2 (w2.alloc (.cells #[.int .i64 i,.int .i64 s,.int .i64 q,.slice a2 acts.length c2] 158)):=by go_grown
      have Tb:=Blk.new w2 158 #[.int .i64 i,.int .i64 s,.int .i64 q,.slice a2 acts.length c2]
      replace hO:=hO.below hbA
      replace hP' := txnK.own_out (F:=[]) hP' (Out.of_below hbA) (fun _ _=>by simp)
      replace hb:=hb.trans (hbA.mono hb.size)
      have hkn:=fun w h hB=>l7Known_any (.slice sa qs.length sc) qs w2.heap.size 0 (TxnQ.e (⟨i,s,q,.slice a2 acts.length c2,acts⟩:TxnQ)) (.slice a2 acts.length c2) w h hB (by have:=HI2.out;omega)
      have hBx:Box4 (w2.alloc (.cells #[.int .i64 i,.int .i64 s,.int .i64 q,.slice a2 acts.length c2] 158)) w2.heap.size 0 (.int .i64 i) (.int .i64 s) (.int .i64 q) (.slice a2 acts.length c2):=⟨Tb.cell 0 _ rfl,Tb.cell 1 _ rfl,Tb.cell 2 _ rfl,Tb.cell 3 _ rfl⟩
      have hkc:=hkn _ hO.at hBx
      have hKe:TxnQ.e (⟨i,s,q,.slice a2 acts.length c2,acts⟩:TxnQ)=TxnQ.e ⟨i,s,q,.slice (some ⟨ab,ao,none⟩) acts.length ac,acts⟩:=rfl
      rw [hKe] at hkc
      clear hcl ho2 hk2 hkn hKe hBx
      generalize knw (qs.map TxnQ.e) (TxnQ.e ⟨i,s,q,.slice (some ⟨ab,ao,none⟩) acts.length ac,acts⟩)=KN at *
      go_wp2_with fail
      generalize hwA:w2.alloc (.cells #[.int .i64 i,.int .i64 s,.int .i64 q,.slice a2 acts.length c2] 158)=WA at *
      clear hwA
      refine hkc.mono ?_
      rintro e w3 ⟨rfl,hb3⟩
      replace hO:=hO.below hb3
      replace hP' := txnK.own_out (F:=[]) hP' (Out.of_below hb3) (fun _ _=>by simp)
      replace hb:=hb.trans (hb3.mono hb.size)
      replace Tb:=Tb.below hb3
      have h3s:=hb3.size
      have hAs:=hbA.size
      clear hb3 hkc
      cases KN with
      | true=>
       have HR:=HK1.out rfl
       have HR' : Hid _:=HR
       have HR2:Hid (qs.length≤4 * k + (m + 1)):=show _≤_ by have:=HI2.out;omega
       clear HK1 HK2 HR HI HI2 Tb hP'
       go_wp2
       go_roundw
       case rel=>exact ⟨m + 1,qs,by omega,by go_num,HR',HR2,hO,HN,hb⟩
       case measure=>simp [intOf];omega
      | false=>
       have HPE:=HK2.out rfl
       have HPE' : Hid _:=HPE
       have HQL:Hid (qs.length≤20):=show _≤_ by have:=HI2.out;omega
       have HR2:Hid (qs.length + 1≤4 * k + (m + 1)):=show _≤_ by have:=HI2.out;omega
       obtain ⟨u0,u1,u2,u3⟩:=Tb.cel4
       have hbA3:Below w3.heap.size w3 (w3.alloc (.cells #[.int .i64 i,.int .i64 s,.int .i64 q,.slice a2 acts.length c2] 158)):=by go_grown
       have hOA:=hO.below hbA3
       have hPA:=txnK.own_out (F:=[]) hP' (Out.of_below hbA3) (fun _ _=>by simp)
       have hbB:=hb.trans (hbA3.mono hb.size)
       have hYA:wr.heap.size≤(w3.alloc (.cells #[.int .i64 i,.int .i64 s,.int .i64 q,.slice a2 acts.length c2] 158)).heap.size:=by have:=hbA3.size;omega
       clear hO hP' HK1 HK2 HPE
       have hrow0:=hOA.1
       go_wp2_with (at_builtin;refine wpList_append_own_at _ rfl _ _ 52 rfl 0 158 i0 (.agg #[.int .i64 0,.int .i64 0,.int .i64 0,.slice none 0 0]) 4 48 Tryz.underlying52 hi hz0 hz1 hz2 rfl (by decide) _ qs.length (txnK.row qs) rfl hrow0 ⟨w3.heap.size,0,none⟩ 1 1 [.int .i64 i,.int .i64 s,.int .i64 q,.slice a2 acts.length c2] rfl rfl ?c1 ?c2 ?c3 ?c4 ?c5 ?_)
       all_goals try (case c1=>intro j u hj;match j,hj with | 0,hj=>simp at hj;subst hj;simp [Addr.add] | 1,hj=>simp at hj;subst hj;simp [Addr.add] | 2,hj=>simp at hj;subst hj;simp [Addr.add] | 3,hj=>simp at hj;subst hj;simp [Addr.add])
       all_goals try (case c2=>intro u hu;simp at hu;rcases hu with rfl | rfl | rfl | rfl <;> rfl)
       all_goals try (case c3=>have:=HQL.out;unfold maxLen;omega)
       all_goals try (case c4=>have:=HQL.out;omega)
       all_goals try (case c5=>first | omega | simp)
       intro v' w5 hown hgrow hnil hat
       clear hnil hrow0 u0 u1 u2 u3 Tb
       rw [show w3.heap.size + 1=(w3.alloc (.cells #[.int .i64 i,.int .i64 s,.int .i64 q,.slice a2 acts.length c2] 158)).heap.size from (World.size_alloc _ _).symm] at hat
       generalize hwB:w3.alloc (.cells #[.int .i64 i,.int .i64 s,.int .i64 q,.slice a2 acts.length c2] 158)=WB at *
       clear hwB
       obtain ⟨hO5,hn5,hlo5,hou⟩:=hOA.snoc (p:=(⟨i,s,q,.slice a2 acts.length c2,acts⟩:TxnQ)) HN.out.1 HN.out.2 hPA hPn (fun x hx hx' => by have:=HLT.out x hx';have:=hPlo x hx;omega) (fun x hx=>by have:=hPlo x hx;have:=HYS.out;omega) hbB.size hown hgrow hat
       have hb5:Below w.heap.size w w5:=Out.keep hbB hou hbB.size (fun x hx=>HN.out.2 x (by simp only [Kind.fp,List.mem_append];exact Or.inl hx))
       have HE5:Hid ((qs ++ [(⟨i,s,q,.slice a2 acts.length c2,acts⟩:TxnQ)]).map TxnQ.e=onc acc ((batch.map TxnQ.e).take (m + 1))):=HPE'.out _ rfl
       have HN5:Hid ((txnK.fp v' (qs ++ [(⟨i,s,q,.slice a2 acts.length c2,acts⟩:TxnQ)])).Nodup∧∀ k∈txnK.fp v' (qs ++ [(⟨i,s,q,.slice a2 acts.length c2,acts⟩:TxnQ)]),w.heap.size≤k):=⟨hn5,hlo5⟩
       have HL5:Hid ((qs ++ [(⟨i,s,q,.slice a2 acts.length c2,acts⟩:TxnQ)]).length≤4 * k + (m + 1)):=show _≤_ by rw [List.length_append];exact HR2.out
       clear HPE' HN HLT HYS hPA hOA hbB hown hgrow hat hou hn5 hlo5 hrd hb hbA hbA3 hzl hpos hYA hPlo hPn hPl HI HI2 HQL HR2 hb2
       go_wp2
       go_roundw
       case rel=>exact ⟨m + 1,_,by omega,by go_num,HE5,HL5,hO5,HN5,hb5⟩
       case measure=>simp [intOf];omega
     ·have hme:m=batch.length:=by omega
      subst hme
      have HR:Hid (qs.map TxnQ.e=defL (ps.map InstQ.e) (k + 1)):=show _=_ by
       have h8:=HI.out
       rw [List.take_of_length_le (by simp)] at h8
       rw [HT4.out]
       exact h8
      have HR2:Hid (qs.length≤4 * (k + 1)):=show _≤_ by have:=HI2.out;omega
      clear HI HI2 HT4
      go_wp2
      go_roundw
      case rel=>exact ⟨k + 1,qs,by omega,by go_num,HR,HR2,hO,HN,hb⟩
      case measure=>simp [intOf];omega
  ·have hkn:k=n:=by omega
   subst hkn
   have hlti:¬ (k:Int) < (k:Int):=by omega
   go_wp2
   go_ret
   first | exact ⟨_,qs,rfl,HE.out,hO,HN.out.1,HN.out.2,hb⟩ | exact ⟨_,rfl,qs,HE.out,hO,HN.out.1,HN.out.2,hb⟩

end Go.Proofs.YtjjoahhnkpjolaaGreatDoor
namespace Go.Proofs.YtjjoahhnkpjolaaGreatDoor
open Go.RowKit
open Go.BigFrame
set_option maxRecDepth 100000
set_option maxHeartbeats 1000000 in
theorem isStandingFor_any (i s q:Int) (a:Option Addr) (n c:Nat) (i' s' q' : Int) (a' : Option Addr) (n' c' : Nat) (xs ys:List ActD) (w:World) :
  Calls Tryz.prog 259 #[.agg #[.int .i64 i,.int .i64 s,.int .i64 q,.slice a n c],.agg #[.int .i64 i',.int .i64 s',.int .i64 q',.slice a' n' c']] w fun e w' => e=.returned (.bool (stF ⟨i,s,q,xs⟩ ⟨i',s',q',ys⟩))∧Below w.heap.size w w' := by
 unfold stF
 dsimp only
 cases h1:(i == i')
 ·cases h2:(s == s')
  ·go_enter Tryz.func259,Tryz.ntmps259
   go_wp2
   go_ret
   exact ⟨rfl,by go_grown⟩
  ·cases h3:(q == q')
   ·go_enter Tryz.func259,Tryz.ntmps259
    go_wp2
    go_ret
    exact ⟨rfl,by go_grown⟩
   ·go_enter Tryz.func259,Tryz.ntmps259
    go_wp2
    go_ret
    exact ⟨rfl,by go_grown⟩
 ·go_enter Tryz.func259,Tryz.ntmps259
  go_wp2
  go_ret
  exact ⟨rfl,by go_grown⟩

set_option maxHeartbeats 1000000 in
theorem hasOne_any (i s q:Int) (a:Option Addr) (n c:Nat) (xs:List ActD) (x:TxnD) (bx:Nat) (a' : Option Addr) (n' c' : Nat) (w:World) (hX:Blk w bx 158 #[.int .i64 x.id,.int .i64 x.session,.int .i64 x.seq,.slice a' n' c']) :
  Calls Tryz.prog 258 #[.agg #[.int .i64 i,.int .i64 s,.int .i64 q,.slice a n c],.pointer (some ⟨bx,0,none⟩)] w fun e w' => e=.returned (.bool (stF ⟨i,s,q,xs⟩ x))∧Below w.heap.size w w' := by
 obtain ⟨xi,xs',xq,xa⟩:=x
 have hB:Below w.heap.size w (w.alloc (.cells #[.int .i64 i,.int .i64 s,.int .i64 q,.slice a n c] 158)):=by go_grown
 have hX' := hX.below hB
 have hq:=fun w=>isStandingFor_any i s q a n c xi xs' xq a' n' c' xs xa w
 have x0:=hX'.cell 0 _ rfl
 have x1:=hX'.cell 1 _ rfl
 have x2:=hX'.cell 2 _ rfl
 have x3:=hX'.cell 3 _ rfl
 generalize stF ⟨i,s,q,xs⟩ ⟨xi,xs',xq,xa⟩=E at *
 go_enter Tryz.func258,Tryz.ntmps258
 go_wp2_with fail
 refine (hq _).mono ?_
 rintro e w2 ⟨rfl,hb2⟩
 replace hB:=hB.trans (hb2.mono hB.size)
 go_wp2
 go_ret
 exact ⟨rfl,hB⟩

set_option maxHeartbeats 2000000 in
theorem indexFuncT_any (v:Value) (ps:List TxnQ) (x:TxnD) (bx:Nat) (a' : Option Addr) (n' c' : Nat) (w:World) (h:txnK.At w v ps) (hX:Blk w bx 158 #[.int .i64 x.id,.int .i64 x.session,.int .i64 x.seq,.slice a' n' c']) (hl:ps.length≤1048576) :
  Calls Tryz.prog 273 #[v,.func (.func 258) #[] #[.pointer (some ⟨bx,0,none⟩)]] w fun e w' => ∃ r:Int,e=.returned (.int .i64 r)∧(knw (ps.map TxnQ.e) x=true→0≤r)∧(knw (ps.map TxnQ.e) x=false→r < 0)∧Below w.heap.size w w' := by
 obtain ⟨a,cap,rfl⟩:=h.shape
 generalize hE:knw (ps.map TxnQ.e) x=E
 have HE:Hid (knw (ps.map TxnQ.e) x=E):=hE
 clear hE
 go_enter Tryz.func273,Tryz.ntmps273
 go_wp2
 go_loopw [8] (fun j wr=>∃ k:Nat,k≤ps.length∧j=.int .i64 k∧Below w.heap.size w wr∧Hid (∀ j,j < k→stF ((ps.map TxnQ.e).getD j txnNo') x=false)) (fun j _=>ps.length - (intOf j).toNat)
 case atStart=>exact ⟨0,Nat.zero_le _,rfl,Below.refl _ _,fun j hj=>absurd hj (Nat.not_lt_zero _)⟩
 case round=>
  obtain ⟨k,hk,rfl,hb,HA⟩:=hrel
  by_cases hlt:k < ps.length
  ·obtain ⟨b',off,rfl,hbs,hc,hrd⟩:=(h.below hb).cell (by decide) k hlt
   have hc' : ∀ j x,(txnK.cells ps[k])[j]? = some x→wr.cell? ⟨b',off + k * 4 + j,none⟩=some x:=hc
   have c0:=hc' 0 (.int .i64 ps[k].i) rfl
   have c1:=hc' 1 (.int .i64 ps[k].s) rfl
   have c2:=hc' 2 (.int .i64 ps[k].q) rfl
   have c3:=hc' 3 (ps[k].va) rfl
   rw [Nat.add_zero] at c0
   have HY:Hid (stF (TxnQ.e ps[k]) x=true→E=true):=fun hx=>by rw [← HE.out];exact knw_yes k (by simpa using hlt) (by rw [txn_get ps k hlt];exact hx)
   have HN:Hid (stF (TxnQ.e ps[k]) x=false→∀ j,j < k + 1→stF ((ps.map TxnQ.e).getD j txnNo') x=false):=fun hx j hj=>by
    by_cases hjm:j=k
    ·subst hjm
     rw [txn_get ps j hlt]
     exact hx
    ·exact HA.out j (by omega)
   clear HA hc hc'
   generalize ps[k]=p at *
   obtain ⟨i,s,q,va',acts⟩:=p
   replace hrd:actK.At wr va' acts:=hrd
   obtain ⟨aa,ac,rfl⟩:=hrd.shape
   dsimp only [TxnQ.e] at c0 c1 c2 c3 HY HN
   have hq:=hasOne_any i s q aa acts.length ac acts x bx a' n' c' wr (hX.below hb)
   generalize stF ⟨i,s,q,acts⟩ x=S at *
   have hlti:(k:Int) < (ps.length:Int):=by omega
   go_wp2_with fail
   refine hq.mono ?_
   rintro e w2 ⟨rfl,hb2⟩
   replace hb:=hb.trans (hb2.mono hb.size)
   clear hq c0 c1 c2 c3 hb2 hrd hbs
   cases S with
   | true=>
    have E1:Hid (E=true):=HY.out rfl
    clear HY HN
    go_wp2
    go_ret
    refine ⟨_,rfl,fun _=>by omega,fun h0=>?_,hb⟩
    rw [E1.out] at h0
    exact absurd h0 (by decide)
   | false=>
    have HR' : Hid _:=HN.out rfl
    clear HY HN
    go_wp2
    go_roundw
    case rel=>exact ⟨k + 1,by omega,by go_num,hb,HR'.out⟩
    case measure=>simp [intOf];omega
  ·have E1:Hid (E=false):=by rw [← HE.out];exact knw_no (fun j hj=>HA.out j (by simp at hj;omega))
   have hlti:¬ (k:Int) < (ps.length:Int):=by omega
   clear HA HE
   go_wp2
   go_ret
   refine ⟨_,rfl,fun h0=>?_,fun _=>by omega,hb⟩
   rw [E1.out] at h0
   exact absurd h0 (by decide)

set_option maxHeartbeats 1000000 in
theorem containsFuncT_any (v:Value) (ps:List TxnQ) (x:TxnD) (bx:Nat) (a' : Option Addr) (n' c' : Nat) (w:World) (h:txnK.At w v ps) (hX:Blk w bx 158 #[.int .i64 x.id,.int .i64 x.session,.int .i64 x.seq,.slice a' n' c']) (hl:ps.length≤1048576) :
  Calls Tryz.prog 257 #[v,.func (.func 258) #[] #[.pointer (some ⟨bx,0,none⟩)]] w fun e w' => e=.returned (.bool (knw (ps.map TxnQ.e) x))∧Below w.heap.size w w' := by
 have hq:=indexFuncT_any v ps x bx a' n' c' w h hX hl
 obtain ⟨a,cap,rfl⟩:=h.shape
 generalize knw (ps.map TxnQ.e) x=E at *
 go_enter Tryz.func257,Tryz.ntmps257
 go_wp2_with fail
 refine hq.mono ?_
 rintro e w2 ⟨r,rfl,h1,h2,hb⟩
 cases E with
 | true=>
  have h0:0≤r:=h1 rfl
  clear h1 h2
  go_wp2
  go_ret
  exact ⟨by simp [h0],hb⟩
 | false=>
  have h0:¬ 0≤r:=by have:=h2 rfl;omega
  clear h1 h2
  go_wp2
  go_ret
  exact ⟨by simp [h0],hb⟩

set_option maxHeartbeats 1000000 in
theorem implHasTxn_any (v:Value) (ps:List TxnQ) (x:TxnD) (a' : Option Addr) (n' c' : Nat) (w:World) (h:txnK.At w v ps) (hl:ps.length≤1048576) :
  Calls Tryz.prog 235 #[v,.agg #[.int .i64 x.id,.int .i64 x.session,.int .i64 x.seq,.slice a' n' c']] w fun e w' => e=.returned (.bool (knw (ps.map TxnQ.e) x))∧Below w.heap.size w w' := by
 have hB:Below w.heap.size w (w.alloc (.cells #[.int .i64 x.id,.int .i64 x.session,.int .i64 x.seq,.slice a' n' c'] 158)):=by go_grown
 have hq:=containsFuncT_any v ps x w.heap.size a' n' c' _ (h.below hB) (Blk.new w 158 #[.int .i64 x.id,.int .i64 x.session,.int .i64 x.seq,.slice a' n' c']) hl
 have hmf:∀ (fn:Fn) (first cap:Array Value) (w:World),(Instr.makeFunc fn first cap).run Tryz.prog w=.ok (.func fn first cap) w:=fun _ _ _ _=>rfl
 obtain ⟨a,cap,rfl⟩:=h.shape
 generalize knw (ps.map TxnQ.e) x=E at *
 obtain ⟨xi,xs,xq,xa⟩:=x
 dsimp only at hB hq ⊢
 go_enter Tryz.func235,Tryz.ntmps235
 go_wp2_with fail
 refine hq.mono ?_
 rintro e w2 ⟨rfl,hb2⟩
 replace hB:=hB.trans (hb2.mono hB.size)
 clear hmf
 go_wp2
 go_ret
 exact ⟨rfl,hB⟩

end Go.Proofs.YtjjoahhnkpjolaaGreatDoor
