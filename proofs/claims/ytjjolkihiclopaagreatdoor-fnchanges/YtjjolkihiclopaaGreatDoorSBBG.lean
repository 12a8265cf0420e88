/- Texts joined, with what the law reaches alone. -/
import Derived.Test.YtjjolkihiclopaaGreatDoorSBBC
import Derived.Test.YtjjolkihiclopaaGreatDoorSBBF
import Derived.Test.YtjjolkihiclopaaGreatDoorSBAU
import Derived.Test.YtjjolkihiclopaaGreatDoorSBAN
set_option linter.unusedVariables false
set_option linter.unusedSimpArgs false
namespace Go.Proofs.YtjjolkihiclopaaGreatDoor
open Go.RowKit
open Go.BigFrame
set_option maxRecDepth 100000
set_option maxHeartbeats 4000000 in
theorem l7Copy_any (v:Value) (ps:List InstQ) (w:World) (h:instK.At w v ps) (hlow:(∀ p∈ps,(∀ t∈p.batch,0 < t.acts.length)∧(∀ r∈p.rounds,0 < r.rep.length∧0 < r.pro.length)∧0 < p.dec.length)) (hl:(ps.length + nmL InstQ.n ps)≤1048576) :
  Calls Tryz.prog 55 #[v] w fun e w' => ∃ v' qs,e=.returned v' ∧ qs.map InstQ.e=ps.map InstQ.e∧instK.Own w' v' qs∧(instK.fp v' qs).Nodup∧(∀ k∈instK.fp v' qs,w.heap.size≤k)∧Below w.heap.size w w' := by
 obtain ⟨a,cap,rfl⟩:=h.shape
 obtain ⟨i0,hi,hz0,hz1,hz2⟩:=info_parts infoInstance
 have ho:=World.ownsRow_lit (e:=49) (size:=4) w #[] 0 (Nat.le_refl _) (by decide) rfl
 have hn1:instK.Own (w.alloc (.cells #[] 49)) (.slice (some ⟨w.heap.size,0,none⟩) 0 0) ([]:List InstQ):=⟨(own_zero ho).1,fun p hp=>by simp at hp⟩
 have hb0:Below w.heap.size w (w.alloc (.cells #[] 49)):=by go_grown
 have HN0:Hid ((instK.fp (.slice (some ⟨w.heap.size,0,none⟩) 0 0) ([]:List InstQ)).Nodup∧∀ k∈instK.fp (.slice (some ⟨w.heap.size,0,none⟩) 0 0) ([]:List InstQ),w.heap.size≤k):=by
  refine ⟨?_,?_⟩
  ·simp [Kind.fp,blk,Value.ownBlock]
  ·simp [Kind.fp,blk,Value.ownBlock]
 clear ho
 go_enter Tryz.func55,Tryz.ntmps55
 go_wp2
 go_loopw [3,4] (fun v j wr=>∃ (k:Nat) (qs:List InstQ),k≤ps.length∧j=.int .i64 k∧Hid (qs.map InstQ.e=(ps.take k).map InstQ.e)∧instK.Own wr v qs∧Hid ((instK.fp v qs).Nodup∧∀ k∈instK.fp v qs,w.heap.size≤k)∧Below w.heap.size w wr) (fun _ j _=>ps.length - (intOf j).toNat)
 case atStart=>exact ⟨0,[],Nat.zero_le _,rfl,(rfl:_=_),hn1,HN0,hb0⟩
 case round=>
  clear HN0 hn1 hb0
  obtain ⟨k,qs,hk,rfl,HE,hO,HN,hb⟩:=hrel
  obtain ⟨sa,sc,rfl⟩:=hO.shape
  have HQL:Hid (qs.length=k):=by
   have:=congrArg List.length HE.out
   rw [List.length_map,List.length_map,List.length_take] at this
   show qs.length=k
   omega
  by_cases hlt:k < ps.length
  ·obtain ⟨b,off,rfl,hbs,hc,hrd⟩:=(h.below hb).cell (by decide) k hlt
   have hc' : ∀ j x,(instK.cells ps[k])[j]? = some x→wr.cell? ⟨b,off + k * 4 + j,none⟩=some x:=hc
   have c0:=hc' 0 (.bool ps[k].has) rfl
   have c1:=hc' 1 ps[k].vb rfl
   have c2:=hc' 2 ps[k].vr rfl
   have c3:=hc' 3 ps[k].vd rfl
   rw [Nat.add_zero] at c0
   have hzl:=nm_le InstQ.n ps k hlt
   have hlow1:=hlow _ (List.getElem_mem hlt)
   have HPE:Hid (∀ p' : InstQ,p'.e=InstQ.e ps[k]→(qs ++ [p']).map InstQ.e=(ps.take (k + 1)).map InstQ.e):=fun p' hp' => by
    rw [List.take_succ_eq_append_getElem hlt,List.map_append,List.map_append,HE.out,List.map_singleton,List.map_singleton,hp']
   clear hc hc'
   have hcl0:=l6Copy_any ps[k]
   have hcl:=fun w h=>hcl0 w h (by omega) hlow1.1 hlow1.2.1 hlow1.2.2
   clear hcl0 HE
   generalize ps[k]=p at *
   obtain ⟨has,vb,batch,vr,rounds,vd,dec⟩:=p
   obtain ⟨ba,bk,rfl⟩:∃ a c,vb=.slice a batch.length c:=hrd.1.shape
   obtain ⟨va,vk,rfl⟩:∃ a c,vr=.slice a rounds.length c:=hrd.2.1.shape
   obtain ⟨da,dk,rfl⟩:∃ a c,vd=.slice a dec.length c:=hrd.2.2.shape
   dsimp only at c0 c1 c2 c3 hcl
   go_wp2_with fail
   clear c0 c1 c2 c3
   have HLT:Hid (∀ x∈instK.fp (.slice sa qs.length sc) qs,x < wr.heap.size):=hO.lt
   have HYS:Hid (w.heap.size≤wr.heap.size):=hb.size
   refine (hcl wr hrd).mono ?_
   rintro e w2 ⟨q,rfl,eq,oq,nq,gq,hb2⟩
   replace hO:=hO.below hb2
   replace hb:=hb.trans (hb2.mono hb.size)
   have h2s:=hb2.size
   clear hcl hb2
   obtain ⟨qh,qvb,qb,qvr,qr,qvd,qd⟩:=q
   obtain ⟨x1,y1,rfl⟩:∃ a c,qvb=.slice a qb.length c:=oq.1.shape
   obtain ⟨x2,y2,rfl⟩:∃ a c,qvr=.slice a qr.length c:=oq.2.1.shape
   obtain ⟨x3,y3,rfl⟩:∃ a c,qvd=.slice a qd.length c:=oq.2.2.shape
   have hbA:Below w2.heap.size w2 (w2.alloc (.cells #[.bool qh,.slice x1 qb.length y1,.slice x2 qr.length y2,.slice x3 qd.length y3] 49)):=by go_grown
   have hOA:=hO.below hbA
   have hPA:=instK.own_out (F:=[]) oq (Out.of_below hbA) (fun _ _=>by simp)
   have hbB:=hb.trans (hbA.mono hb.size)
   have hYA:wr.heap.size≤(w2.alloc (.cells #[.bool qh,.slice x1 qb.length y1,.slice x2 qr.length y2,.slice x3 qd.length y3] 49)).heap.size:=by have:=hbA.size;omega
   clear hO oq
   have hrow0:=hOA.1
   go_wp2_with (at_builtin;refine wpList_append_own_at _ rfl _ _ 24 rfl 0 49 i0 (.agg #[.bool false,.slice none 0 0,.slice none 0 0,.slice none 0 0]) 4 80 Tryz.underlying24 hi hz0 hz1 hz2 rfl (by decide) _ qs.length (instK.row qs) rfl hrow0 ⟨w2.heap.size,0,none⟩ 1 1 [.bool qh,.slice x1 qb.length y1,.slice x2 qr.length y2,.slice x3 qd.length y3] rfl rfl ?c1 ?c2 ?c3 ?c4 ?c5 ?_)
   all_goals try (case c1=>intro j u hj;match j,hj with | 0,hj=>simp at hj;subst hj;simp [Addr.add] | 1,hj=>simp at hj;subst hj;simp [Addr.add] | 2,hj=>simp at hj;subst hj;simp [Addr.add] | 3,hj=>simp at hj;subst hj;simp [Addr.add])
   all_goals try (case c2=>intro u hu;simp at hu;rcases hu with rfl | rfl | rfl | rfl <;> rfl)
   all_goals try (case c3=>have:=HQL.out;unfold maxLen;omega)
   all_goals try (case c4=>have:=HQL.out;omega)
   all_goals try (case c5=>first | omega | simp)
   intro v' w5 hown hgrow hnil hat
   clear hnil hrow0
   rw [show w2.heap.size + 1=(w2.alloc (.cells #[.bool qh,.slice x1 qb.length y1,.slice x2 qr.length y2,.slice x3 qd.length y3] 49)).heap.size from (World.size_alloc _ _).symm] at hat
   generalize hwA:w2.alloc (.cells #[.bool qh,.slice x1 qb.length y1,.slice x2 qr.length y2,.slice x3 qd.length y3] 49)=WA at *
   clear hwA
   obtain ⟨hO5,hn5,hlo5,hou⟩:=hOA.snoc (p:=(⟨qh,.slice x1 qb.length y1,qb,.slice x2 qr.length y2,qr,.slice x3 qd.length y3,qd⟩:InstQ)) HN.out.1 HN.out.2 hPA nq (fun x hx hx' => by have:=HLT.out x hx';have:=gq x hx;omega) (fun x hx=>by have:=gq x hx;have:=HYS.out;omega) hbB.size hown hgrow hat
   have hb5:Below w.heap.size w w5:=Out.keep hbB hou hbB.size (fun x hx=>HN.out.2 x (by simp only [Kind.fp,List.mem_append];exact Or.inl hx))
   have HE5:Hid ((qs ++ [(⟨qh,.slice x1 qb.length y1,qb,.slice x2 qr.length y2,qr,.slice x3 qd.length y3,qd⟩:InstQ)]).map InstQ.e=(ps.take (k + 1)).map InstQ.e):=HPE.out _ eq
   have HN5:Hid ((instK.fp v' (qs ++ [(⟨qh,.slice x1 qb.length y1,qb,.slice x2 qr.length y2,qr,.slice x3 qd.length y3,qd⟩:InstQ)])).Nodup∧∀ k∈instK.fp v' (qs ++ [(⟨qh,.slice x1 qb.length y1,qb,.slice x2 qr.length y2,qr,.slice x3 qd.length y3,qd⟩:InstQ)]),w.heap.size≤k):=⟨hn5,hlo5⟩
   clear HPE HN HLT HYS hPA hOA hbB hown hgrow hat hou hn5 hlo5 hrd hb hbA hzl hlow1 hYA gq nq eq
   go_wp2
   go_roundw
   case rel=>exact ⟨k + 1,_,by omega,by go_num,HE5,hO5,HN5,hb5⟩
   case measure=>simp [intOf];omega
  ·have hkl:k=ps.length:=by omega
   subst hkl
   have hE:=HE.out
   rw [List.take_length] at hE
   clear HE
   go_wp2
   go_ret
   exact ⟨_,qs,rfl,hE,hO,HN.out.1,HN.out.2,hb⟩

end Go.Proofs.YtjjolkihiclopaaGreatDoor
namespace Go.Proofs.YtjjolkihiclopaaGreatDoor
open Go.RowKit
open Go.BigFrame
set_option maxRecDepth 100000
end Go.Proofs.YtjjolkihiclopaaGreatDoor
namespace Go.Proofs.YtjjolkihiclopaaGreatDoor
open Go.RowKit
open Go.BigFrame
set_option maxRecDepth 100000
end Go.Proofs.YtjjolkihiclopaaGreatDoor
namespace Go.Proofs.YtjjolkihiclopaaGreatDoor
open Go.RowKit
open Go.BigFrame
set_option maxRecDepth 100000
end Go.Proofs.YtjjolkihiclopaaGreatDoor
namespace Go.Proofs.YtjjolkihiclopaaGreatDoor
open Go.RowKit
open Go.BigFrame
set_option maxRecDepth 100000
theorem instE_n (q:InstQ):q.n=InstE.n q.e:=by
 unfold InstE.n txnsN roundsN InstQ.e
 simp only [InstQ.n,List.length_map,nmL,List.map_map]
 rfl

/-- Right instances are small. -/
theorem insts_small {qs:List InstQ} (h:∀ q∈qs,insF (InstQ.e q)=0):qs.length + nmL InstQ.n qs≤qs.length * 61:=by
 have h1:=nmL_bound InstQ.n 60 qs (fun q hq=>by rw [instE_n];exact ins_small (h q hq))
 omega

end Go.Proofs.YtjjolkihiclopaaGreatDoor
