/- Texts joined, with what the law reaches alone. -/
import Derived.Test.YtjjolkihiclopaaGreatDoorSOBC
import Derived.Test.YtjjolkihiclopaaGreatDoorSOBF
import Derived.Test.YtjjolkihiclopaaGreatDoorSOAU
import Derived.Test.YtjjolkihiclopaaGreatDoorSOAN
set_option linter.unusedVariables false
set_option linter.unusedSimpArgs false
namespace Go.Proofs.YtjjolkihiclopaaGreatDoor
open Go.RowKit
open Go.BigFrame
set_option maxRecDepth 100000
set_option maxHeartbeats 4000000 in
theorem l7Copy_any (v:Value) (ps:List InstQ) (w:World) (h:instK.At w v ps) (hlow:(∀ p∈ps,(∀ t∈p.batch,0 < t.acts.length)∧(∀ r∈p.rounds,0 < r.rep.length∧0 < r.pro.length)∧0 < p.dec.length)) (hl:(ps.length + nmL InstQ.n ps)≤1048576) :
  Calls Tryz.prog 55 #[v] w fun e w' => ∃ v' qs,e=.returned v' ∧ qs.map InstQ.e=ps.map InstQ.e∧instK.Own w' v' qs∧(instK.fp v' qs).Nodup∧(∀ k∈instK.fp v' qs,w.heap.size≤k)∧Below w.heap.size w w' := by
 obtain ⟨a,cap,rfl⟩:=h.shape
 obtain ⟨i0,hi,hz0,hz1,hz2⟩:=info_parts infoInstance
 have ho:=World.ownsRow_lit (e:=49) (size:=4) w #[] 0 (Nat.le_refl _) (by decide) rfl
 have hn1:instK.Own (w.alloc (.cells #[] 49)) (.slice (some ⟨w.heap.size,0,none⟩) 0 0) ([]:List InstQ):=⟨(own_zero ho).1,fun p hp=>by simp at hp⟩
 have hb0:Below w.heap.size w (w.alloc (.cells #[] 49)):=by go_grown
 have HN0:Hid ((instK.fp (.slice (some ⟨w.heap.size,0,none⟩) 0 0) ([]:List InstQ)).Nodup∧∀ k∈instK.fp (.slice (some ⟨w.heap.size,0,none⟩) 0 0) ([]:List InstQ),w.heap.size≤k):=by
  refine ⟨?_,?_⟩
  ·simp [Kind.fp,blk,Value.ownBlock]
  ·simp [Kind.fp,blk,Value.ownBlock]
 clear ho
 go_enter Tryz.func55,Tryz.ntmps55
 go_wp2
 go_loopw [3,4] (fun v j wr=>∃ (k:Nat) (qs:List InstQ),k≤ps.length∧j=.int .i64 k∧Hid (qs.map InstQ.e=(ps.take k).map InstQ.e)∧instK.Own wr v qs∧Hid ((instK.fp v qs).Nodup∧∀ k∈instK.fp v qs,w.heap.size≤k)∧Below w.heap.size w wr) (fun _ j _=>ps.length - (intOf j).toNat)
 case atStart=>exact ⟨0,[],Nat.zero_le _,rfl,(rfl:_=_),hn1,HN0,hb0⟩
 case round=>
  clear HN0 hn1 hb0
  obtain ⟨k,qs,hk,rfl,HE,hO,HN,hb⟩:=hrel
  obtain ⟨sa,sc,rfl⟩:=hO.shape
  have HQL:Hid (qs.length=k):=by
   have:=congrArg List.length HE.out
   rw [List.length_map,List.length_map,List.length_take] at this
   show qs.length=k
   omega
  by_cases hlt:k < ps.length
  ·obtain ⟨b,off,rfl,hbs,hc,hrd⟩:=(h.below hb).cell (by decide) k hlt
   have hc' : ∀ j x,(instK.cells ps[k])[j]? = some x→wr.cell? ⟨b,off + k * 4 + j,none⟩=some x:=hc
   have c0:=hc' 0 (.bool ps[k].has) rfl
   have c1:=hc' 1 ps[k].vb rfl
   have c2:=hc' 2 ps[k].vr rfl
   have c3:=hc' 3 ps[k].vd rfl
   rw [Nat.add_zero] at c0
   have hzl:=nm_le InstQ.n ps k hlt
   have hlow1:=hlow _ (List.getElem_mem hlt)
   have HPE:Hid (∀ p' : InstQ,p'.e=InstQ.e ps[k]→(qs ++ [p']).map InstQ.e=(ps.take (k + 1)).map InstQ.e):=fun p' hp' => by
    rw [List.take_succ_eq_append_getElem hlt,List.map_append,List.map_append,HE.out,List.map_singleton,List.map_singleton,hp']
   clear hc hc'
   have hcl0:=l6Copy_any ps[k]
   have hcl:=fun w h=>hcl0 w h (by omega) hlow1.1 hlow1.2.1 hlow1.2.2
   clear hcl0 HE
   generalize ps[k]=p at *
   obtain ⟨has,vb,batch,vr,rounds,vd,dec⟩:=p
   obtain ⟨ba,bk,rfl⟩:∃ a c,vb=.slice a batch.length c:=hrd.1.shape
   obtain ⟨va,vk,rfl⟩:∃ a c,vr=.slice a rounds.length c:=hrd.2.1.shape
   obtain ⟨da,dk,rfl⟩:∃ a c,vd=.slice a dec.length c:=hrd.2.2.shape
   dsimp only at c0 c1 c2 c3 hcl
   go_wp2_with fail
   clear c0 c1 c2 c3
   have HLT:Hid (∀ x∈instK.fp (.slice sa qs.length sc) qs,x < wr.heap.size):=hO.lt
   have HYS:Hid (w.heap.size≤wr.heap.size):=hb.size
   refine (hcl wr hrd).mono ?_
   rintro e w2 ⟨q,rfl,eq,oq,nq,gq,hb2⟩
   replace hO:=hO.below hb2
   replace hb:=hb.trans (hb2.mono hb.size)
   have h2s:=hb2.size
   clear hcl hb2
   obtain ⟨qh,qvb,qb,qvr,qr,qvd,qd⟩:=q
   obtain ⟨x1,y1,rfl⟩:∃ a c,qvb=.slice a qb.length c:=oq.1.shape
   obtain ⟨x2,y2,rfl⟩:∃ a c,qvr=.slice a qr.length c:=oq.2.1.shape
   obtain ⟨x3,y3,rfl⟩:∃ a c,qvd=.slice a qd.length c:=oq.2.2.shape
   have hbA:Below w2.heap.size w2 (w2.alloc (.cells #[.bool qh,.slice x1 qb.length y1,.slice x2 qr.length y2,.slice x3 qd.length y3] 49)):=by go_grown
   have hOA:=hO.below hbA
   have hPA:=instK.own_out (F:=[]) oq (Out.of_below hbA) (fun _ _=>by simp)
   have hbB:=hb.trans (hbA.mono hb.size)
   have hYA:wr.heap.size≤(w2.alloc (.cells #[.bool qh,.slice x1 qb.length y1,.slice x2 qr.length y2,.slice x3 qd.length y3] 49)).heap.size:=by have:=hbA.size;omega
   clear hO oq
   have hrow0:=hOA.1
   go_wp2_with (at_builtin;refine wpList_append_own_at _ rfl _ _ 24 rfl 0 49 i0 (.agg #[.bool false,.slice none 0 0,.slice none 0 0,.slice none 0 0]) 4 80 Tryz.underlying24 hi hz0 hz1 hz2 rfl (by decide) _ qs.length (instK.row qs) rfl hrow0 ⟨w2.heap.size,0,none⟩ 1 1 [.bool qh,.slice x1 qb.length y1,.slice x2 qr.length y2,.slice x3 qd.length y3] rfl rfl ?c1 ?c2 ?c3 ?c4 ?c5 ?_)
   all_goals try (case c1=>intro j u hj;match j,hj with | 0,hj=>simp at hj;subst hj;simp [Addr.add] | 1,hj=>simp at hj;subst hj;simp [Addr.add] | 2,hj=>simp at hj;subst hj;simp [Addr.add] | 3,hj=>simp at hj;subst hj;simp [Addr.add])
   all_goals try (case c2=>intro u hu;simp at hu;rcases hu with rfl | rfl | rfl | rfl <;> rfl)
   all_goals try (case c3=>have:=HQL.out;unfold maxLen;omega)
   all_goals try (case c4=>have:=HQL.out;omega)
   all_goals try (case c5=>first | omega | simp)
   intro v' w5 hown hgrow hnil hat
   clear hnil hrow0
   rw [show w2.heap.size + 1=(w2.alloc (.cells #[.bool qh,.slice x1 qb.length y1,.slice x2 qr.length y2,.slice x3 qd.length y3] 49)).heap.size from (World.size_alloc _ _).symm] at hat
   generalize hwA:w2.alloc (.cells #[.bool qh,.slice x1 qb.length y1,.slice x2 qr.length y2,.slice x3 qd.length y3] 49)=WA at *
   clear hwA
   obtain ⟨hO5,hn5,hlo5,hou⟩:=hOA.snoc (p:=(⟨qh,.slice x1 qb.length y1,qb,.slice x2 qr.length y2,qr,.slice x3 qd.length y3,qd⟩:InstQ)) HN.out.1 HN.out.2 hPA nq (fun x hx hx' => by have:=HLT.out x hx';have:=gq x hx;omega) (fun x hx=>by have:=gq x hx;have:=HYS.out;omega) hbB.size hown hgrow hat
   have hb5:Below w.heap.size w w5:=Out.keep hbB hou hbB.size (fun x hx=>HN.out.2 x (by simp only [Kind.fp,List.mem_append];exact Or.inl hx))
   have HE5:Hid ((qs ++ [(⟨qh,.slice x1 qb.length y1,qb,.slice x2 qr.length y2,qr,.slice x3 qd.length y3,qd⟩:InstQ)]).map InstQ.e=(ps.take (k + 1)).map InstQ.e):=HPE.out _ eq
   have HN5:Hid ((instK.fp v' (qs ++ [(⟨qh,.slice x1 qb.length y1,qb,.slice x2 qr.length y2,qr,.slice x3 qd.length y3,qd⟩:InstQ)])).Nodup∧∀ k∈instK.fp v' (qs ++ [(⟨qh,.slice x1 qb.length y1,qb,.slice x2 qr.length y2,qr,.slice x3 qd.length y3,qd⟩:InstQ)]),w.heap.size≤k):=⟨hn5,hlo5⟩
   clear HPE HN HLT HYS hPA hOA hbB hown hgrow hat hou hn5 hlo5 hrd hb hbA hzl hlow1 hYA gq nq eq
   go_wp2
   go_roundw
   case rel=>exact ⟨k + 1,_,by omega,by go_num,HE5,hO5,HN5,hb5⟩
   case measure=>simp [intOf];omega
  ·have hkl:k=ps.length:=by omega
   subst hkl
   have hE:=HE.out
   rw [List.take_length] at hE
   clear HE
   go_wp2
   go_ret
   exact ⟨_,qs,rfl,hE,hO,HN.out.1,HN.out.2,hb⟩

def niC (ds:List InstE):Int:=if ordF ds=0 then (if decN ds < ds.length then 8 else if ds.length=4 then 7 else 0) else ordF ds

def niO (ds:List InstE):List InstE:=if niC ds=0 then ds ++ [newE] else []

theorem ni_ways (ds:List InstE):(ordF ds≠0∧niC ds=ordF ds∧niO ds=[])∨(ordF ds=0∧decN ds < ds.length∧niC ds=8∧niO ds=[])∨(ordF ds=0∧¬ decN ds < ds.length∧ds.length=4∧niC ds=7∧niO ds=[])∨(ordF ds=0∧¬ decN ds < ds.length∧ds.length≠4∧niC ds=0∧niO ds=ds ++ [newE]):=by
 unfold niO niC
 by_cases h0:ordF ds=0
 ·by_cases h1:decN ds < ds.length
  ·right;left
   simp [h0,h1]
  ·by_cases h4:ds.length=4
   ·right;right;left
    refine ⟨h0,h1,h4,?_,?_⟩
    ·rw [if_pos h0,if_neg h1,if_pos h4]
    ·rw [if_pos h0,if_neg h1,if_pos h4,if_neg (by decide)]
   ·right;right;right
    refine ⟨h0,h1,h4,?_,?_⟩
    ·rw [if_pos h0,if_neg h1,if_neg h4]
    ·rw [if_pos h0,if_neg h1,if_neg h4,if_pos rfl]
 ·left
  simp [h0]

theorem fieldNI (c0 c1:Int) (c2 c3:Bool) (c4:Int) (c5:Bool) (a1 a2 a3:Option Addr) (l1 k1 l2 k2 l3 k3:Nat) (w:World):(Instr.field 65 (.agg #[.int .i64 c0,.int .i64 c1,.bool c2,.bool c3,.int .i64 c4,.bool c5,.slice a1 l1 k1,.slice a2 l2 k2,.slice a3 l3 k3]) 2).run Tryz.prog w=.ok (.agg #[.bool c5,.slice a1 l1 k1,.slice a2 l2 k2,.slice a3 l3 k3]) w:=by kernel_rfl

set_option maxHeartbeats 8000000 in
theorem implNextInstance_any (v:Value) (ps:List InstQ) (w:World) (hG:RulO w) (h:instK.At w v ps) (hl:(ps.length + nmL InstQ.n ps)≤1048576) :
  Calls Tryz.prog 10 #[v] w fun e w' => ∃ (v' : Value) (qs:List InstQ),e=.returned (.agg #[.int .i64 (niC (ps.map InstQ.e)),v'])∧qs.map InstQ.e=niO (ps.map InstQ.e)∧instK.Own w' v' qs∧(instK.fp v' qs).Nodup∧(∀ k∈instK.fp v' qs,w.heap.size≤k)∧Below w.heap.size w w' := by
 have hof:=fun w hG h=>implDecidedIn_any v ps w hG h hl
 have HO:Hid (ordF (ps.map InstQ.e)=0→1≤ps.length∧ps.length≤4∧∀ q∈ps,insF (InstQ.e q)=0):=fun h0=>by
  have:=((ord_iff _).1 h0).1
  rw [List.length_map] at this
  exact ⟨this.1,this.2,fun q hq=>ord_mem h0 _ (List.mem_map.2 ⟨q,hq,rfl⟩)⟩
 have hco:=fun w h hlow=>cloneOrder_any v ps w h hlow hl
 obtain ⟨a,cap,rfl⟩:=h.shape
 obtain ⟨i0,hi,hz0,hz1,hz2⟩:=info_parts infoInstance
 have hw:=ni_ways (ps.map InstQ.e)
 have HDV:Hid (ordF (ps.map InstQ.e)=0→diV (ps.map InstQ.e)=(decN (ps.map InstQ.e):Int)):=fun h0=>if_pos h0
 have hdl:=decN_le (ps.map InstQ.e)
 rw [List.length_map] at hw hdl
 generalize niC (ps.map InstQ.e)=D at *
 generalize niO (ps.map InstQ.e)=O at *
 have HEP:Hid (∀ q1:List InstQ,∀ q:InstQ,q1.map InstQ.e=ps.map InstQ.e→q.e=newE→(q1 ++ [q]).map InstQ.e=ps.map InstQ.e ++ [newE]):=fun q1 q h1 h2=>by rw [List.map_append,h1,List.map_singleton,h2]
 have HLE:Hid (∀ q1:List InstQ,q1.map InstQ.e=ps.map InstQ.e→q1.length=ps.length):=fun q1 h1=>by simpa using congrArg List.length h1
 generalize ordF (ps.map InstQ.e)=C at *
 generalize diV (ps.map InstQ.e)=V at *
 generalize decN (ps.map InstQ.e)=M at *
 generalize ps.map InstQ.e=ds at *
 have hB:Below w.heap.size w (w.alloc (.cells #[.int .i64 0,.slice none 0 0] 33)):=by go_grown
 have Rb:=Blk.new w 33 #[.int .i64 0,.slice none 0 0]
 go_enter Tryz.func10,Tryz.ntmps10
 go_wp2_with fail
 generalize w.alloc (.cells #[.int .i64 0,.slice none 0 0] 33)=W at *
 refine (hof W (hG.below hB).r (h.below hB)).mono ?_
 rintro e w1 ⟨rfl,hb⟩
 have hbA:Below w1.heap.size w1 (w1.alloc (.cells #[.int .i64 C,.int .i64 V] 38)):=by go_grown
 replace hB:=hB.trans (hb.mono hB.size)
 replace hB:=hB.trans (hbA.mono hB.size)
 replace Rb:=(Rb.below hb).below hbA
 have Dk:=Blk.new w1 38 #[.int .i64 C,.int .i64 V]
 clear hb hof hbA
 rcases hw with ⟨hC,e1,e2⟩ | ⟨hC,hM,e1,e2⟩ | ⟨hC,hM,h4,e1,e2⟩ | ⟨hC,hM,h4,e1,e2⟩
 ·have hC' : (C != 0)=true:=by simpa using hC
  have E1:Hid (D=C∧O=[]):=⟨e1,e2⟩
  clear e1 e2 HEP HLE HO HDV hC
  have q0:=Rb.cell 0 _ rfl
  have q1:=Rb.cell 1 _ rfl
  have f0:=Rb.frozen 0
  have f1:=Rb.frozen 1
  obtain ⟨hn1,hn2⟩:=Kind.own_nil (K:=instK) w
  clear hn1
  go_wp2
  exact bodyPost_ret (v:=.agg #[.int .i64 C,.slice none 0 0]) (by simp [results,Tryz.results10,go_sem,q0,q1]) rfl ⟨.slice none 0 0,[],by rw [E1.out.1],by rw [E1.out.2];rfl,(Kind.own_nil _).1,by rw [hn2];simp,by rw [hn2];simp,(hB.setCell (p:=⟨w.heap.size,0,none⟩) (Nat.le_refl _) _).setCell (p:=⟨w.heap.size,1,none⟩) (Nat.le_refl _) _⟩
 ·have E1:Hid (D=8∧O=[]):=⟨e1,e2⟩
  have hV:=HDV.out hC
  subst hC hV
  have hM' : (M:Int) < (ps.length:Int):=by omega
  clear e1 e2 HEP HLE HO HDV hM
  have q0:=Rb.cell 0 _ rfl
  have q1:=Rb.cell 1 _ rfl
  have f0:=Rb.frozen 0
  have f1:=Rb.frozen 1
  obtain ⟨hn1,hn2⟩:=Kind.own_nil (K:=instK) w
  clear hn1
  go_wp2
  exact bodyPost_ret (v:=.agg #[.int .i64 8,.slice none 0 0]) (by simp [results,Tryz.results10,go_sem,q0,q1]) rfl ⟨.slice none 0 0,[],by rw [E1.out.1],by rw [E1.out.2];rfl,(Kind.own_nil _).1,by rw [hn2];simp,by rw [hn2];simp,(hB.setCell (p:=⟨w.heap.size,0,none⟩) (Nat.le_refl _) _).setCell (p:=⟨w.heap.size,1,none⟩) (Nat.le_refl _) _⟩
 ·have E1:Hid (D=7∧O=[]):=⟨e1,e2⟩
  have hV:=HDV.out hC
  subst hC hV
  have hM' : ¬ (M:Int) < (ps.length:Int):=by omega
  have h4' : ((ps.length:Int) == 4)=true:=by rw [h4];rfl
  clear e1 e2 HEP HLE HO HDV hM h4
  have q0:=Rb.cell 0 _ rfl
  have q1:=Rb.cell 1 _ rfl
  have f0:=Rb.frozen 0
  have f1:=Rb.frozen 1
  obtain ⟨hn1,hn2⟩:=Kind.own_nil (K:=instK) w
  clear hn1
  go_wp2
  exact bodyPost_ret (v:=.agg #[.int .i64 7,.slice none 0 0]) (by simp [results,Tryz.results10,go_sem,q0,q1]) rfl ⟨.slice none 0 0,[],by rw [E1.out.1],by rw [E1.out.2];rfl,(Kind.own_nil _).1,by rw [hn2];simp,by rw [hn2];simp,(hB.setCell (p:=⟨w.heap.size,0,none⟩) (Nat.le_refl _) _).setCell (p:=⟨w.heap.size,1,none⟩) (Nat.le_refl _) _⟩
 ·have HC0:Hid (D=0):=e1
  obtain ⟨p1,p4,hin⟩:=HO.out hC
  have hV:=HDV.out hC
  have hlow:=fun q hq=>ins_low (hin q hq)
  subst hC hV
  have hM' : ¬ (M:Int) < (ps.length:Int):=by omega
  have h4' : ((ps.length:Int) == 4)=false:=by simpa using (show ¬ (ps.length:Int)=4 by omega)
  clear e1 HO HDV hM h4 hin
  have hlt:=Dk.lt
  go_wp2_with fail
  have hWB:w.heap.size + 1≤(w1.alloc (.cells #[.int .i64 0,.int .i64 M] 38)).heap.size:=by have:=Rb.lt;omega
  generalize w1.alloc (.cells #[.int .i64 0,.int .i64 M] 38)=WB at *
  refine (hco WB (h.below hB) hlow).mono ?_
  rintro e Y ⟨vq,qs,rfl,eqs,hO,hn0,hlo0,hbY⟩
  obtain ⟨sa,sc,rfl⟩:=hO.shape
  have hqn:=HLE.out qs eqs
  have HQL:Hid (qs.length≤4):=show _≤_ by omega
  have HLT:Hid (∀ x∈instK.fp (.slice sa qs.length sc) qs,x < Y.heap.size):=hO.lt
  have HYS:Hid (WB.heap.size≤Y.heap.size):=hbY.size
  have HN:Hid ((instK.fp (.slice sa qs.length sc) qs).Nodup∧∀ k∈instK.fp (.slice sa qs.length sc) qs,WB.heap.size≤k):=⟨hn0,hlo0⟩
  clear hn0 hlo0 hco hlow hqn
  go_wp2_with fail
  refine (implNewInstance_any Y ((hG.below hB).o.below hbY)).mono ?_
  rintro e w2 ⟨q,rfl,eq,oq,nq,gq,hb2⟩
  have HQ5:Hid (_=O):=(HEP.out qs q eqs eq).trans e2.symm
  replace hO:=hO.below hb2
  have hb:=hbY.trans (hb2.mono hbY.size)
  have h2s:=hb2.size
  have Rw:=Rb
  clear hb2 hbY Rb Dk HEP HLE eqs eq e2
  obtain ⟨qh,qvb,qb,qvr,qr,qvd,qd⟩:=q
  obtain ⟨x1,y1,rfl⟩:∃ a c,qvb=.slice a qb.length c:=oq.1.shape
  obtain ⟨x2,y2,rfl⟩:∃ a c,qvr=.slice a qr.length c:=oq.2.1.shape
  obtain ⟨x3,y3,rfl⟩:∃ a c,qvd=.slice a qd.length c:=oq.2.2.shape
  have hfi:=fieldNI 0 0 false false 0 qh x1 x2 x3 qb.length y1 qr.length y2 qd.length y3
  simp only [resC]
  have hbA:Below w2.heap.size w2 (w2.alloc (.cells #[.bool qh,.slice x1 qb.length y1,.slice x2 qr.length y2,.slice x3 qd.length y3] 49)):=by go_grown
  have hOA:=hO.below hbA
  have hPA:=instK.own_out (F:=[]) oq (Out.of_below hbA) (fun _ _=>by simp)
  have hbB:=hb.trans (hbA.mono hb.size)
  have hYA:Y.heap.size≤(w2.alloc (.cells #[.bool qh,.slice x1 qb.length y1,.slice x2 qr.length y2,.slice x3 qd.length y3] 49)).heap.size:=by have:=hbA.size;omega
  clear hO oq
  have hrow0:=hOA.1
  go_wp2_with (at_builtin;refine wpList_append_own_at _ rfl _ _ 24 rfl 0 49 i0 (.agg #[.bool false,.slice none 0 0,.slice none 0 0,.slice none 0 0]) 4 80 Tryz.underlying24 hi hz0 hz1 hz2 rfl (by decide) _ qs.length (instK.row qs) rfl hrow0 ⟨w2.heap.size,0,none⟩ 1 1 [.bool qh,.slice x1 qb.length y1,.slice x2 qr.length y2,.slice x3 qd.length y3] rfl rfl ?c1 ?c2 ?c3 ?c4 ?c5 ?_)
  all_goals try (case c1=>intro j u hj;match j,hj with | 0,hj=>simp at hj;subst hj;simp [Addr.add] | 1,hj=>simp at hj;subst hj;simp [Addr.add] | 2,hj=>simp at hj;subst hj;simp [Addr.add] | 3,hj=>simp at hj;subst hj;simp [Addr.add])
  all_goals try (case c2=>intro u hu;simp at hu;rcases hu with rfl | rfl | rfl | rfl <;> rfl)
  all_goals try (case c3=>have:=HQL.out;unfold maxLen;omega)
  all_goals try (case c4=>have:=HQL.out;omega)
  all_goals try (case c5=>first | omega | simp)
  intro v' w5 hown hgrow hnil hat
  clear hnil hrow0
  rw [show w2.heap.size + 1=(w2.alloc (.cells #[.bool qh,.slice x1 qb.length y1,.slice x2 qr.length y2,.slice x3 qd.length y3] 49)).heap.size from (World.size_alloc _ _).symm] at hat
  generalize hwA:w2.alloc (.cells #[.bool qh,.slice x1 qb.length y1,.slice x2 qr.length y2,.slice x3 qd.length y3] 49)=WA at *
  clear hwA
  obtain ⟨hO5,hn5,hlo5,hou⟩:=hOA.snoc (p:=(⟨qh,.slice x1 qb.length y1,qb,.slice x2 qr.length y2,qr,.slice x3 qd.length y3,qd⟩:InstQ)) HN.out.1 HN.out.2 hPA nq (fun x hx hx' => by have:=HLT.out x hx';have:=gq x hx;omega) (fun x hx=>by have:=gq x hx;have:=HYS.out;omega) hbB.size hown hgrow hat
  have hb5:Below WB.heap.size WB w5:=Out.keep hbB hou hbB.size (fun x hx=>HN.out.2 x (by simp only [Kind.fp,List.mem_append];exact Or.inl hx))
  obtain ⟨xa,xc,hsh⟩:=hO5.shape
  subst hsh
  have R5:=Rw.below hb5
  have q0:=R5.cell 0 _ rfl
  have q1:=R5.cell 1 _ rfl
  have f0:=R5.frozen 0
  have f1:=R5.frozen 1
  generalize hQ5:qs ++ [(⟨qh,.slice x1 qb.length y1,qb,.slice x2 qr.length y2,qr,.slice x3 qd.length y3,qd⟩:InstQ)]=Q5 at *
  have HFIN:Hid (∀ u u',instK.Own ((w5.setCell ⟨w.heap.size,0,none⟩ u).setCell ⟨w.heap.size,1,none⟩ u') (.slice xa Q5.length xc) Q5∧Below w.heap.size w ((w5.setCell ⟨w.heap.size,0,none⟩ u).setCell ⟨w.heap.size,1,none⟩ u')):=fun u u' => by
   refine ⟨hO5.out (((Out.refl [w.heap.size] w5).set (b:=w.heap.size) (j:=0) (u:=u) (by simp)).set (b:=w.heap.size) (j:=1) (u:=u') (by simp)) (fun k hk=>by have:=hlo5 k hk;simp only [List.mem_singleton];omega),?_⟩
   have hbb:=hB.trans (hb5.mono hB.size)
   exact (hbb.setCell (p:=⟨w.heap.size,0,none⟩) (Nat.le_refl _) _).setCell (p:=⟨w.heap.size,1,none⟩) (Nat.le_refl _) _
  have HL5:Hid ((instK.fp (.slice xa Q5.length xc) Q5).Nodup∧∀ k∈instK.fp (.slice xa Q5.length xc) Q5,w.heap.size≤k):=⟨hn5,fun k hk=>by have:=hlo5 k hk;omega⟩
  clear hO5 hn5 hlo5 hb5 hB Rw R5 hou hown hgrow hat hOA hPA hbB hbA
  go_wp2
  exact bodyPost_ret (v:=.agg #[.int .i64 0,.slice xa Q5.length xc]) (by simp [results,Tryz.results10,go_sem,q0,q1]) rfl ⟨.slice xa Q5.length xc,Q5,by rw [HC0.out],HQ5.out,(HFIN.out _ _).1,HL5.out.1,HL5.out.2,(HFIN.out _ _).2⟩

end Go.Proofs.YtjjolkihiclopaaGreatDoor
namespace Go.Proofs.YtjjolkihiclopaaGreatDoor
open Go.RowKit
open Go.BigFrame
set_option maxRecDepth 100000
end Go.Proofs.YtjjolkihiclopaaGreatDoor
namespace Go.Proofs.YtjjolkihiclopaaGreatDoor
open Go.RowKit
open Go.BigFrame
set_option maxRecDepth 100000
end Go.Proofs.YtjjolkihiclopaaGreatDoor
namespace Go.Proofs.YtjjolkihiclopaaGreatDoor
open Go.RowKit
open Go.BigFrame
set_option maxRecDepth 100000
theorem txns_n {qs ps:List TxnQ} (h:qs.map TxnQ.e=ps.map TxnQ.e):qs.length + nmL TxnQ.n qs=ps.length + nmL TxnQ.n ps:=by
 have t1:qs.length=ps.length:=by simpa using congrArg List.length h
 have t2:nmL TxnQ.n qs=nmL TxnQ.n ps:=by
  have:=congrArg (fun l=>nmL (fun d:TxnD=>d.acts.length) l) h
  simp only [nmL,List.map_map] at this
  exact this
 omega

end Go.Proofs.YtjjolkihiclopaaGreatDoor
namespace Go.Proofs.YtjjolkihiclopaaGreatDoor
open Go.RowKit
open Go.BigFrame
set_option maxRecDepth 100000
set_option maxHeartbeats 8000000 in
theorem l7Next_any (v:Value) (ps:List InstQ) (w:World) (h:instK.At w v ps) (hl:(ps.length + nmL InstQ.n ps)≤1048576) (h0:ordF (ps.map InstQ.e)=0) :
  Calls Tryz.prog 41 #[v] w fun e w' => ∃ (v' : Value) (qs:List InstQ),e=.returned (.tuple #[v',.int .i64 (niC (ps.map InstQ.e))])∧qs.map InstQ.e=niO (ps.map InstQ.e)∧instK.Own w' v' qs∧(instK.fp v' qs).Nodup∧(∀ k∈instK.fp v' qs,w.heap.size≤k)∧Below w.heap.size w w' := by
 have HO:Hid (ordF (ps.map InstQ.e)=0→1≤ps.length∧ps.length≤4∧∀ q∈ps,insF (InstQ.e q)=0):=fun h0=>by
  have:=((ord_iff _).1 h0).1
  rw [List.length_map] at this
  exact ⟨this.1,this.2,fun q hq=>ord_mem h0 _ (List.mem_map.2 ⟨q,hq,rfl⟩)⟩
 obtain ⟨p1,p4,hin⟩:=HO.out h0
 have hlow:=fun q hq=>ins_low (hin q hq)
 have hof:=l7Decided_any v ps w h hl p1 p4
 have hco:=fun w h hlow=>l7Copy_any v ps w h hlow hl
 obtain ⟨a,cap,rfl⟩:=h.shape
 obtain ⟨i0,hi,hz0,hz1,hz2⟩:=info_parts infoInstance
 have hw:=ni_ways (ps.map InstQ.e)
 have hdl:=decN_le (ps.map InstQ.e)
 rw [List.length_map] at hw hdl
 generalize niC (ps.map InstQ.e)=D at *
 generalize niO (ps.map InstQ.e)=O at *
 have HEP:Hid (∀ q1:List InstQ,∀ q:InstQ,q1.map InstQ.e=ps.map InstQ.e→q.e=newE→(q1 ++ [q]).map InstQ.e=ps.map InstQ.e ++ [newE]):=fun q1 q h1 h2=>by rw [List.map_append,h1,List.map_singleton,h2]
 have HLE:Hid (∀ q1:List InstQ,q1.map InstQ.e=ps.map InstQ.e→q1.length=ps.length):=fun q1 h1=>by simpa using congrArg List.length h1
 clear HO hin
 generalize ordF (ps.map InstQ.e)=C at *
 generalize decN (ps.map InstQ.e)=M at *
 generalize ps.map InstQ.e=ds at *
 go_enter Tryz.func41,Tryz.ntmps41
 go_wp2_with fail
 refine hof.mono ?_
 rintro e WB ⟨rfl,hB⟩
 clear hof
 rcases hw with ⟨hC,e1,e2⟩ | ⟨hC,hM,e1,e2⟩ | ⟨hC,hM,h4,e1,e2⟩ | ⟨hC,hM,h4,e1,e2⟩
 ·exact absurd h0 hC
 ·have E1:Hid (D=8∧O=[]):=⟨e1,e2⟩
  have hM' : (M:Int) < (ps.length:Int):=by omega
  clear e1 e2 HEP HLE hM h0 hC
  obtain ⟨hn1,hn2⟩:=Kind.own_nil (K:=instK) w
  clear hn1
  go_wp2
  exact bodyPost_ret (v:=.tuple #[.slice none 0 0,.int .i64 8]) (by simp [results,Tryz.results41,go_sem]) rfl ⟨.slice none 0 0,[],by rw [E1.out.1],by rw [E1.out.2];rfl,(Kind.own_nil _).1,by rw [hn2];simp,by rw [hn2];simp,hB⟩
 ·have E1:Hid (D=7∧O=[]):=⟨e1,e2⟩
  have hM' : ¬ (M:Int) < (ps.length:Int):=by omega
  have h4' : 4≤ps.length:=by omega
  clear e1 e2 HEP HLE hM h4 h0 hC
  obtain ⟨hn1,hn2⟩:=Kind.own_nil (K:=instK) w
  clear hn1
  go_wp2
  exact bodyPost_ret (v:=.tuple #[.slice none 0 0,.int .i64 7]) (by simp [results,Tryz.results41,go_sem]) rfl ⟨.slice none 0 0,[],by rw [E1.out.1],by rw [E1.out.2];rfl,(Kind.own_nil _).1,by rw [hn2];simp,by rw [hn2];simp,hB⟩
 ·have HC0:Hid (D=0):=e1
  have hM' : ¬ (M:Int) < (ps.length:Int):=by omega
  have h4' : ¬ 4≤ps.length:=by omega
  clear e1 hM h4 h0 hC
  go_wp2_with fail
  refine (hco WB (h.below hB) hlow).mono ?_
  rintro e Y ⟨vq,qs,rfl,eqs,hO,hn0,hlo0,hbY⟩
  obtain ⟨sa,sc,rfl⟩:=hO.shape
  have hqn:=HLE.out qs eqs
  have HQL:Hid (qs.length≤4):=show _≤_ by omega
  have HLT:Hid (∀ x∈instK.fp (.slice sa qs.length sc) qs,x < Y.heap.size):=hO.lt
  have HYS:Hid (WB.heap.size≤Y.heap.size):=hbY.size
  have HN:Hid ((instK.fp (.slice sa qs.length sc) qs).Nodup∧∀ k∈instK.fp (.slice sa qs.length sc) qs,WB.heap.size≤k):=⟨hn0,hlo0⟩
  clear hn0 hlo0 hco hlow hqn
  go_wp2_with fail
  refine (l6New_any Y).mono ?_
  rintro e w2 ⟨q,rfl,eq,oq,nq,gq,hb2⟩
  have HQ5:Hid (_=O):=(HEP.out qs q eqs eq).trans e2.symm
  replace hO:=hO.below hb2
  have hb:=hbY.trans (hb2.mono hbY.size)
  have h2s:=hb2.size
  clear hb2 hbY HEP HLE eqs eq e2
  obtain ⟨qh,qvb,qb,qvr,qr,qvd,qd⟩:=q
  obtain ⟨x1,y1,rfl⟩:∃ a c,qvb=.slice a qb.length c:=oq.1.shape
  obtain ⟨x2,y2,rfl⟩:∃ a c,qvr=.slice a qr.length c:=oq.2.1.shape
  obtain ⟨x3,y3,rfl⟩:∃ a c,qvd=.slice a qd.length c:=oq.2.2.shape
  have hbA:Below w2.heap.size w2 (w2.alloc (.cells #[.bool qh,.slice x1 qb.length y1,.slice x2 qr.length y2,.slice x3 qd.length y3] 49)):=by go_grown
  have hOA:=hO.below hbA
  have hPA:=instK.own_out (F:=[]) oq (Out.of_below hbA) (fun _ _=>by simp)
  have hbB:=hb.trans (hbA.mono hb.size)
  have hYA:Y.heap.size≤(w2.alloc (.cells #[.bool qh,.slice x1 qb.length y1,.slice x2 qr.length y2,.slice x3 qd.length y3] 49)).heap.size:=by have:=hbA.size;omega
  clear hO oq
  have hrow0:=hOA.1
  go_wp2_with (at_builtin;refine wpList_append_own_at _ rfl _ _ 24 rfl 0 49 i0 (.agg #[.bool false,.slice none 0 0,.slice none 0 0,.slice none 0 0]) 4 80 Tryz.underlying24 hi hz0 hz1 hz2 rfl (by decide) _ qs.length (instK.row qs) rfl hrow0 ⟨w2.heap.size,0,none⟩ 1 1 [.bool qh,.slice x1 qb.length y1,.slice x2 qr.length y2,.slice x3 qd.length y3] rfl rfl ?c1 ?c2 ?c3 ?c4 ?c5 ?_)
  all_goals try (case c1=>intro j u hj;match j,hj with | 0,hj=>simp at hj;subst hj;simp [Addr.add] | 1,hj=>simp at hj;subst hj;simp [Addr.add] | 2,hj=>simp at hj;subst hj;simp [Addr.add] | 3,hj=>simp at hj;subst hj;simp [Addr.add])
  all_goals try (case c2=>intro u hu;simp at hu;rcases hu with rfl | rfl | rfl | rfl <;> rfl)
  all_goals try (case c3=>have:=HQL.out;unfold maxLen;omega)
  all_goals try (case c4=>have:=HQL.out;omega)
  all_goals try (case c5=>first | omega | simp)
  intro v' w5 hown hgrow hnil hat
  clear hnil hrow0
  rw [show w2.heap.size + 1=(w2.alloc (.cells #[.bool qh,.slice x1 qb.length y1,.slice x2 qr.length y2,.slice x3 qd.length y3] 49)).heap.size from (World.size_alloc _ _).symm] at hat
  generalize hwA:w2.alloc (.cells #[.bool qh,.slice x1 qb.length y1,.slice x2 qr.length y2,.slice x3 qd.length y3] 49)=WA at *
  clear hwA
  obtain ⟨hO5,hn5,hlo5,hou⟩:=hOA.snoc (p:=(⟨qh,.slice x1 qb.length y1,qb,.slice x2 qr.length y2,qr,.slice x3 qd.length y3,qd⟩:InstQ)) HN.out.1 HN.out.2 hPA nq (fun x hx hx' => by have:=HLT.out x hx';have:=gq x hx;omega) (fun x hx=>by have:=gq x hx;have:=HYS.out;omega) hbB.size hown hgrow hat
  have hb5:Below WB.heap.size WB w5:=Out.keep hbB hou hbB.size (fun x hx=>HN.out.2 x (by simp only [Kind.fp,List.mem_append];exact Or.inl hx))
  obtain ⟨xa,xc,hsh⟩:=hO5.shape
  subst hsh
  generalize hQ5:qs ++ [(⟨qh,.slice x1 qb.length y1,qb,.slice x2 qr.length y2,qr,.slice x3 qd.length y3,qd⟩:InstQ)]=Q5 at *
  have hbs:=hB.size
  have HFIN:Hid (instK.Own w5 (.slice xa Q5.length xc) Q5∧(instK.fp (.slice xa Q5.length xc) Q5).Nodup∧(∀ k∈instK.fp (.slice xa Q5.length xc) Q5,w.heap.size≤k)∧Below w.heap.size w w5):=⟨hO5,hn5,fun k hk=>by have:=hlo5 k hk;omega,hB.trans (hb5.mono hB.size)⟩
  clear hO5 hn5 hlo5 hb5 hB hou hown hgrow hat hOA hPA hbB hbA
  go_wp2
  exact bodyPost_ret (v:=.tuple #[.slice xa Q5.length xc,.int .i64 0]) (by simp [results,Tryz.results41,go_sem]) rfl ⟨.slice xa Q5.length xc,Q5,by rw [HC0.out],HQ5.out,HFIN.out.1,HFIN.out.2.1,HFIN.out.2.2.1,HFIN.out.2.2.2⟩

set_option maxHeartbeats 8000000 in
theorem specNextInstance_any (v:Value) (ps:List InstQ) (w:World) (h:instK.At w v ps) (hl:(ps.length + nmL InstQ.n ps)≤1048576) :
  Calls Tryz.prog 14 #[v] w fun e w' => ∃ (v' : Value) (qs:List InstQ),e=.returned (.agg #[.int .i64 (niC (ps.map InstQ.e)),v'])∧qs.map InstQ.e=niO (ps.map InstQ.e)∧instK.Own w' v' qs∧(instK.fp v' qs).Nodup∧(∀ k∈instK.fp v' qs,w.heap.size≤k)∧Below w.heap.size w w' := by
 have hof:=fun w h=>l7Fault_any v ps w h hl
 have hnx:=fun w h h0=>l7Next_any v ps w h hl h0
 obtain ⟨a,cap,rfl⟩:=h.shape
 have HB:Hid (ordF (ps.map InstQ.e)≠0→niC (ps.map InstQ.e)=ordF (ps.map InstQ.e)∧niO (ps.map InstQ.e)=[]):=fun h0=>by
  rcases ni_ways (ps.map InstQ.e) with ⟨_,e1,e2⟩ | ⟨hC,_⟩ | ⟨hC,_⟩ | ⟨hC,_⟩
  ·exact ⟨e1,e2⟩
  ·exact absurd hC h0
  ·exact absurd hC h0
  ·exact absurd hC h0
 generalize niC (ps.map InstQ.e)=D at *
 generalize niO (ps.map InstQ.e)=O at *
 generalize ordF (ps.map InstQ.e)=C at *
 have hB:Below w.heap.size w (w.alloc (.cells #[.int .i64 0,.slice none 0 0] 33)):=by go_grown
 have Rb:=Blk.new w 33 #[.int .i64 0,.slice none 0 0]
 go_enter Tryz.func14,Tryz.ntmps14
 go_wp2_with fail
 generalize w.alloc (.cells #[.int .i64 0,.slice none 0 0] 33)=W at *
 refine (hof W (h.below hB)).mono ?_
 rintro e w1 ⟨rfl,hb⟩
 replace hB:=hB.trans (hb.mono hB.size)
 replace Rb:=Rb.below hb
 clear hb hof
 by_cases hC:C=0
 ·have hnx1:=hnx w1 (h.below hB) hC
  have hlt:=Rb.lt
  subst hC
  clear HB hnx
  go_wp2_with fail
  refine hnx1.mono ?_
  rintro e w2 ⟨v',Q5,rfl,HQ,hO5,hn5,hlo5,hb5⟩
  obtain ⟨xa,xc,rfl⟩:=hO5.shape
  have R5:=Rb.below hb5
  have q0:=R5.cell 0 _ rfl
  have q1:=R5.cell 1 _ rfl
  have f0:=R5.frozen 0
  have f1:=R5.frozen 1
  have HQ5:Hid (_=O):=HQ
  have HFIN:Hid (∀ u u',instK.Own ((w2.setCell ⟨w.heap.size,0,none⟩ u).setCell ⟨w.heap.size,1,none⟩ u') (.slice xa Q5.length xc) Q5∧Below w.heap.size w ((w2.setCell ⟨w.heap.size,0,none⟩ u).setCell ⟨w.heap.size,1,none⟩ u')):=fun u u' => by
   refine ⟨hO5.out (((Out.refl [w.heap.size] w2).set (b:=w.heap.size) (j:=0) (u:=u) (by simp)).set (b:=w.heap.size) (j:=1) (u:=u') (by simp)) (fun k hk=>by have:=hlo5 k hk;simp only [List.mem_singleton];omega),?_⟩
   have hbb:=hB.trans (hb5.mono hB.size)
   exact (hbb.setCell (p:=⟨w.heap.size,0,none⟩) (Nat.le_refl _) _).setCell (p:=⟨w.heap.size,1,none⟩) (Nat.le_refl _) _
  have HL5:Hid ((instK.fp (.slice xa Q5.length xc) Q5).Nodup∧∀ k∈instK.fp (.slice xa Q5.length xc) Q5,w.heap.size≤k):=⟨hn5,fun k hk=>by have:=hlo5 k hk;omega⟩
  clear hO5 hn5 hlo5 hb5 hB Rb R5 HQ
  go_wp2
  exact bodyPost_ret (v:=.agg #[.int .i64 D,.slice xa Q5.length xc]) (by simp [results,Tryz.results14,go_sem,q0,q1]) rfl ⟨.slice xa Q5.length xc,Q5,rfl,HQ5.out,(HFIN.out _ _).1,HL5.out.1,HL5.out.2,(HFIN.out _ _).2⟩
 ·have hC' : (C != 0)=true:=by simpa using hC
  have E1:Hid (D=C∧O=[]):=HB.out hC
  clear HB hnx
  have q0:=Rb.cell 0 _ rfl
  have q1:=Rb.cell 1 _ rfl
  have f0:=Rb.frozen 0
  have f1:=Rb.frozen 1
  obtain ⟨hn1,hn2⟩:=Kind.own_nil (K:=instK) w
  clear hn1
  go_wp2
  exact bodyPost_ret (v:=.agg #[.int .i64 C,.slice none 0 0]) (by simp [results,Tryz.results14,go_sem,q0,q1]) rfl ⟨.slice none 0 0,[],by rw [E1.out.1],by rw [E1.out.2];rfl,(Kind.own_nil _).1,by rw [hn2];simp,by rw [hn2];simp,(hB.setCell (p:=⟨w.heap.size,0,none⟩) (Nat.le_refl _) _).setCell (p:=⟨w.heap.size,1,none⟩) (Nat.le_refl _) _⟩

theorem instE_n (q:InstQ):q.n=InstE.n q.e:=by
 unfold InstE.n txnsN roundsN InstQ.e
 simp only [InstQ.n,List.length_map,nmL,List.map_map]
 rfl

/-- Right instances are small. -/
theorem insts_small {qs:List InstQ} (h:∀ q∈qs,insF (InstQ.e q)=0):qs.length + nmL InstQ.n qs≤qs.length * 61:=by
 have h1:=nmL_bound InstQ.n 60 qs (fun q hq=>by rw [instE_n];exact ins_small (h q hq))
 omega

theorem niO_n {ps:List InstQ} {qs:List InstQ} (h:qs.map InstQ.e=niO (ps.map InstQ.e)) (hp:(ps.length + nmL InstQ.n ps)≤1048576):qs.length + nmL InstQ.n qs≤1048576:=by
 rcases ni_ways (ps.map InstQ.e) with ⟨_,_,e2⟩ | ⟨_,_,_,e2⟩ | ⟨_,_,_,_,e2⟩ | ⟨h0,_,_,_,e2⟩
 ·rw [e2] at h
  have:qs=[]:=by simpa using h
  subst this
  simp [nmL]
 ·rw [e2] at h
  have:qs=[]:=by simpa using h
  subst this
  simp [nmL]
 ·rw [e2] at h
  have:qs=[]:=by simpa using h
  subst this
  simp [nmL]
 ·rw [e2] at h
  have hl:=congrArg List.length h
  have hl2:=((ord_iff _).1 h0).1
  rw [List.length_map] at hl2
  simp only [List.length_map,List.length_append,List.length_singleton] at hl
  have:=insts_small (qs:=qs) (fun q hq=>by
   have hm:InstQ.e q∈ps.map InstQ.e ++ [newE]:=by rw [← h];exact List.mem_map.2 ⟨q,hq,rfl⟩
   rcases List.mem_append.1 hm with hm | hm
   ·exact ord_mem h0 _ hm
   ·simp only [List.mem_singleton] at hm
    rw [hm];decide +kernel)
  have h5:qs.length≤5:=by omega
  have h6:qs.length * 61≤5 * 61:=Nat.mul_le_mul_right _ h5
  omega

end Go.Proofs.YtjjolkihiclopaaGreatDoor
