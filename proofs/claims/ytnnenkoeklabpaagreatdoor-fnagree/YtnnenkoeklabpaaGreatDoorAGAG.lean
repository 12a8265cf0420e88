/- Texts joined, with what the laws reach alone. -/
import Derived.Test.YtnnenkoeklabpaaGreatDoorAGAF
set_option linter.unusedVariables false
set_option linter.unusedSimpArgs false
namespace Go.Proofs.YtnnenkoeklabpaaGreatDoor
open Go.RowKit
open Go.BigFrame
set_option maxRecDepth 100000
set_option maxHeartbeats 1000000 in
theorem l6Open_any (w:World) :
  Calls Tryz.prog 49 #[] w fun e w' => ∃ a c,e=.returned (.slice a 3 c)∧intK.Own w' (.slice a 3 c) [3,3,3]∧(∀ k∈intK.fp (.slice a 3 c) [3,3,3],w.heap.size≤k)∧Below w.heap.size w w' := by
 have hB:Below w.heap.size w (w.alloc (.cells #[.int .i64 3,.int .i64 3,.int .i64 3] 2)):=by go_grown
 have ho:=World.ownsRow_lit (e:=2) (size:=1) w #[.int .i64 3,.int .i64 3,.int .i64 3] 3 (Nat.le_refl _) (by decide) rfl
 obtain ⟨O,G⟩:=list_own (zs:=[3,3,3]) (n:=3) rfl ho
 have HO:Hid (_∧_):=And.intro O G
 clear ho O G
 go_enter Tryz.func49,Tryz.ntmps49
 go_wp2
 go_ret
 exact ⟨_,_,rfl,HO.out.1,HO.out.2,hB⟩

/-- A report in the next round: its code, and the rounds behind it. -/
def rpC (rs:List RoundE) (nx n:Nat):Int:=if nx < 4∧nx < rs.length∧repA rs nx n≠3 then 6 else 0

def rpI (rs:List RoundE) (nx n:Nat) (v:Int):List RoundE:=if nx < 4∧¬ (nx < rs.length∧repA rs nx n≠3) then rstR (ensR rs nx) nx n v else rs

theorem repA_at (ks:List RoundQ) (r n:Nat) (hr:r < ks.length) (hn:n < (ks[r]).rep.length):repA (ks.map RoundQ.e) r n=(ks[r]).rep[n]:=by
 unfold repA
 rw [rnd_at ks r hr]
 show (ks[r]).rep.getD n 0=_
 simp [List.getD,hn]

set_option maxHeartbeats 4000000 in
theorem l6Report_any (g:Nat) (q:InstQ) (n nx:Nat) (v:Int) (w:World) (hG:Blk w g 28 #[.bool q.has,q.vb,q.vr,q.vd]) (oq:instK.own w q) (nq:(instK.foot q).Nodup) (hg:g ∉ instK.foot q) (hwel:Wel q.e.rounds) (h4:q.rounds.length≤4) (h0:0 < q.rounds.length) (hnx:nx≤q.rounds.length) (hn:n < 3) :
  Calls Tryz.prog 78 #[.pointer (some ⟨g,0,none⟩),.int .i64 (n:Int),.int .i64 (nx:Int),.int .i64 v] w fun e w' => ∃ q' : InstQ,e=.returned (.int .i64 (rpC q.e.rounds nx n))∧q'.e=⟨q.e.has,q.e.batch,rpI q.e.rounds nx n v,q.e.dec⟩∧Blk w' g 28 #[.bool q'.has,q'.vb,q'.vr,q'.vd]∧instK.own w' q' ∧ (instK.foot q').Nodup∧(∀ k∈instK.foot q',k∈instK.foot q∨w.heap.size≤k)∧Out (g :: instK.foot q) w w' := by
 have hrl:q.e.rounds.length=q.rounds.length:=List.length_map _
 have hgl:=hG.lt
 by_cases hx4:nx < 4
 case neg=>
  have e1:rpC q.e.rounds nx n=0:=if_neg (fun h=>hx4 h.1)
  have e2:rpI q.e.rounds nx n v=q.e.rounds:=if_neg (fun h=>hx4 h.1)
  rw [e1,e2]
  have hx4' : (4:Int)≤nx:=by omega
  go_enter Tryz.func78,Tryz.ntmps78
  go_wp2
  go_ret
  exact ⟨q,rfl,rfl,hG,oq,nq,fun k hk=>Or.inl hk,Out.refl _ _⟩
 case pos=>
  have hx4' : (nx:Int) < 4:=by omega
  by_cases hlt:nx < q.rounds.length
  case pos=>
   obtain ⟨hl1,_⟩:=wel_at hwel nx (by omega)
   have hat:q.e.rounds.getD nx rnd0=RoundQ.e q.rounds[nx]:=rnd_at q.rounds nx hlt
   rw [hat] at hl1
   replace hl1:(q.rounds[nx]).rep.length=3:=hl1
   have hre:repA q.e.rounds nx n=(q.rounds[nx]).rep[n]:=repA_at q.rounds nx n hlt (by omega)
   obtain ⟨g5,cap5,hv5,hg5,kc,kf,own5,foot5⟩:=own_setR oq nq nx n hlt (by omega) v
   rw [hl1] at hv5
   rw [← hre] at kc
   have hne:g≠g5:=fun e=>hg (e ▸ hg5)
   have hG5:=hG.other (b' := g5) hne n (iv v)
   have hU5:Out (g :: instK.foot q) w (w.setCell ⟨g5,n,none⟩ (iv v)):=(Out.refl _ w).set (List.mem_cons_of_mem _ hg5)
   have he5:=setR_e q nx n v hlt
   have HC:Hid ((repA q.e.rounds nx n≠3→rpC q.e.rounds nx n=6∧rpI q.e.rounds nx n v=q.e.rounds)∧(repA q.e.rounds nx n=3→rpC q.e.rounds nx n=0∧rpI q.e.rounds nx n v=rstR q.e.rounds nx n v)):=by
    refine ⟨fun h3=>⟨if_pos ⟨hx4,by omega,h3⟩,if_neg (fun h=>h.2 ⟨by omega,h3⟩)⟩,fun h3=>⟨if_neg (fun h=>h.2.2 h3),?_⟩⟩
    unfold rpI
    rw [if_pos ⟨hx4,fun h=>h.2 h3⟩]
    unfold ensR
    rw [if_neg (by omega)]
   have HR:Hid (∀ w',w' = w.setCell ⟨g5,n,none⟩ (iv v)→Blk w' g 28 #[.bool q.has,q.vb,q.vr,q.vd]∧instK.own w' (q.setR nx n v hlt)∧Out (g :: instK.foot q) w w'):=fun w' hw' => by subst hw';exact ⟨hG5,own5,hU5⟩
   have HQ:Hid (instK.own w q∧(q.setR nx n v hlt).e=⟨q.e.has,q.e.batch,rstR q.e.rounds nx n v,q.e.dec⟩∧(instK.foot (q.setR nx n v hlt)).Nodup∧∀ k∈instK.foot (q.setR nx n v hlt),k∈instK.foot q):=⟨oq,he5,by rw [foot5];exact nq,fun k hk=>by rw [foot5] at hk;exact hk⟩
   obtain ⟨va,vk,hvr⟩:∃ a c,q.vr=.slice a q.rounds.length c:=oq.2.1.shape
   have oR:=oq.2.1
   rw [hvr] at oR
   obtain ⟨gr,rfl⟩:=oR.blkOf h0
   have hcr:=(oR.cell nx hlt 0 (.slice (some ⟨g5,0,none⟩) 3 cap5) (by show ([(q.rounds[nx]).vr,(q.rounds[nx]).vp]:List Value)[0]? = _;rw [← hv5];rfl)).1
   have hcr2:w.cell? ⟨gr,nx * 2,none⟩=some (.slice (some ⟨g5,0,none⟩) 3 cap5):=hcr
   have z2:w.cell? ⟨g,2,none⟩=some (.slice (some ⟨gr,0,none⟩) q.rounds.length vk):=by rw [← hvr];exact hG.cell 2 _ rfl
   have hnri:(nx:Int) < q.rounds.length:=by omega
   have hneq:((nx:Int) == (q.rounds.length:Int))=false:=by simp;omega
   have hn3:(n:Int) < 3:=by omega
   clear hcr oR hvr foot5 own5 hU5 hG5 he5 hre hv5 hat
   generalize repA q.e.rounds nx n=RE at *
   by_cases hr3:RE=3
   case neg=>
    have hr3' : (RE != 3)=true:=by simpa using hr3
    obtain ⟨e1,e2⟩:=HC.out.1 hr3
    rw [e1,e2]
    clear HC e1 e2 hr3
    go_enter Tryz.func78,Tryz.ntmps78
    go_wp2
    go_ret
    exact ⟨q,rfl,rfl,hG,HQ.out.1,nq,fun k hk=>Or.inl hk,Out.refl _ _⟩
   case pos=>
    have hr3' : (RE != 3)=false:=by rw [hr3];rfl
    obtain ⟨e1,e2⟩:=HC.out.2 hr3
    rw [e1,e2]
    clear HC e1 e2 hr3
    go_enter Tryz.func78,Tryz.ntmps78
    go_wp2
    go_ret
    obtain ⟨k1,k2,k3⟩:=HR.out _ rfl
    exact ⟨q.setR nx n v hlt,rfl,HQ.out.2.1,k1,k2,HQ.out.2.2.1,fun k hk=>Or.inl (HQ.out.2.2.2 k hk),k3⟩
  case neg=>
   have hnl:nx=q.rounds.length:=by omega
   have e1:rpC q.e.rounds nx n=0:=if_neg (fun h=>by omega)
   have e2:rpI q.e.rounds nx n v=rstR (ensR q.e.rounds nx) nx n v:=if_pos ⟨hx4,fun h=>by omega⟩
   have e3:ensR q.e.rounds nx=q.e.rounds ++ [opn3]:=if_pos (by omega)
   rw [e1,e2,e3]
   have HPE:Hid (∀ (ks:List RoundQ) (vr:Value) (hk:nx < ks.length),ks.map RoundQ.e=q.e.rounds ++ [opn3]→(InstQ.setR ⟨q.has,q.vb,q.batch,vr,ks,q.vd,q.dec⟩ nx n v hk).e=⟨q.e.has,q.e.batch,rstR (q.e.rounds ++ [opn3]) nx n v,q.e.dec⟩):=fun ks vr hk he=>by
    rw [setR_e]
    show InstE.mk q.has (q.batch.map TxnQ.e) (rstR (ks.map RoundQ.e) nx n v) q.dec=_
    rw [he]
    rfl
   have HQE:Hid (q.rounds.map RoundQ.e=q.e.rounds):=(rfl:_=_)
   have hneq:((nx:Int) == (q.rounds.length:Int))=true:=by rw [hnl];simp
   clear e1 e2 e3 hx4 hlt
   obtain ⟨i0,hi,hz0,hz1,hz2⟩:=info_parts infoRound
   generalize q.e=pe at *
   obtain ⟨has,vb,batch,vr,qs,vd,dec⟩:=q
   obtain ⟨ba,bk,rfl⟩:∃ a c,vb=.slice a batch.length c:=oq.1.shape
   obtain ⟨sa,sc,rfl⟩:∃ a c,vr=.slice a qs.length c:=oq.2.1.shape
   obtain ⟨da,dk,rfl⟩:∃ a c,vd=.slice a dec.length c:=oq.2.2.shape
   dsimp only at hG HPE HQE hneq h4 h0 hnl hrl
   have HNL:Hid (nx=qs.length):=hnl
   clear hnl hrl hnx
   obtain ⟨hn1,hn23,hd1⟩:=List.nodup_append.1 nq
   obtain ⟨hn2,hn3',hd2⟩:=List.nodup_append.1 hn23
   obtain ⟨o1,hO,o3⟩:=oq
   dsimp only at o1 hO o3
   have hgT:g ∉ txnK.fp (.slice ba batch.length bk) batch:=fun h=>hg (List.mem_append_left _ h)
   have hgR:g ∉ roundK.fp (.slice sa qs.length sc) qs:=fun h=>hg (List.mem_append_right _ (List.mem_append_left _ h))
   have hgD:g ∉ intK.fp (.slice da dec.length dk) dec:=fun h=>hg (List.mem_append_right _ (List.mem_append_right _ h))
   have hFg:g ∉ blk (.slice sa qs.length sc):=fun hx=>hgR (by simp only [Kind.fp,List.mem_append];exact Or.inl hx)
   have HF:Hid (∀ x∈roundK.fp (.slice sa qs.length sc) qs,x < w.heap.size):=hO.lt
   have z2:w.cell? ⟨g,2,none⟩=some (.slice sa qs.length sc):=hG.cell 2 _ rfl
   have m0:=lato_cell (F:=blk (.slice sa qs.length sc)) z2 hFg
   have hnn:Nonempty (LatO (blk (.slice sa qs.length sc)) w):=⟨⟨w,Out.refl _ _⟩⟩
   have hW:Below w.heap.size w w.drew:=(Below.refl _ _).drew
   have hnw:∀ w',Below w.heap.size w w' → ∃ u:LatO (blk (.slice sa qs.length sc)) w,w' = u.val:=fun w' hw' => ⟨⟨w',Out.of_below hw'⟩,rfl⟩
   have hn3:(n:Int) < 3:=by omega
   go_enter Tryz.func78,Tryz.ntmps78
   go_wp2_with fail
   clear z2
   refine beginX (S:=fun w' => ∃ u:LatO (blk (.slice sa qs.length sc)) w,w' = u.val) (R:=fun _ _=>False) 12 (by kernel_rfl) (fun _ _ _ _ h=>h.elim) ?_
   refine sgX [(0,5)] 8 (by kernel_rfl) (hnw _ hW) ?_
   simp only [pkE]
   repeat go_big_quiet_step (fail)
   refine wpQuiet_nil ?_
   refine clX 5 (some 23) 49 #[] 7 (by kernel_rfl) rfl ?_
   refine (l6Open_any _).mono ?_
   rintro e w8 ⟨x1,y1,rfl,oa,ga,hb8⟩
   have LA:∀ x∈intK.fp (.slice x1 3 y1) [3,3,3],w.heap.size≤x:=fun x hx=>by have:=ga x hx;have:=hW.size;omega
   have MA:=oa.lt
   replace hW:=hW.trans (hb8.mono hW.size)
   clear hb8 ga
   refine Or.inl ⟨_,rfl,hnw _ hW,?_⟩
   simp only [Act.put,pgE,pjE]
   refine clX 6 (some 24) 49 #[] 6 (by kernel_rfl) rfl ?_
   refine (l6Open_any _).mono ?_
   rintro e w9 ⟨x2,y2,rfl,ob,gb,hb9⟩
   have LB:∀ x∈intK.fp (.slice x2 3 y2) [3,3,3],w.heap.size≤x:=fun x hx=>by have:=gb x hx;have:=hW.size;omega
   have hdis:∀ x∈intK.fp (.slice x1 3 y1) [3,3,3],∀ y∈intK.fp (.slice x2 3 y2) [3,3,3],x≠y:=fun x hx y hy e=>by have:=MA x hx;have:=gb y hy;omega
   replace oa:=oa.below hb9
   replace hW:=hW.trans (hb9.mono hW.size)
   clear hb9 gb MA
   refine Or.inl ⟨_,rfl,hnw _ hW,?_⟩
   simp only [Act.put,pgE,pjE]
   refine onX 7 5 rfl (by kernel_rfl) ?_
   go_wp2
   refine ThenX.to ⟨Or.inr (hnw _ hW),?_⟩
   refine onX 8 4 rfl (by kernel_rfl) ?_
   have hbA:Below w9.heap.size w9 (w9.alloc (.cells #[.slice x1 3 y1,.slice x2 3 y2] 51)):=by go_grown
   replace hW:=hW.trans (hbA.mono hW.size)
   replace oa:=oa.below hbA
   replace ob:=ob.below hbA
   have hsrc:∀ j u,[Value.slice x1 3 y1,.slice x2 3 y2][j]? = some u→(w9.alloc (.cells #[.slice x1 3 y1,.slice x2 3 y2] 51)).cell? ((⟨w9.heap.size,0,none⟩:Addr).add j)=some u:=by
    intro j u hj;match j,hj with | 0,hj=>simp at hj;subst hj;simp [Addr.add] | 1,hj=>simp at hj;subst hj;simp [Addr.add]
   go_wp2
   refine ThenX.to ⟨Or.inr (hnw _ hW),?_⟩
   generalize w9.alloc (.cells #[.slice x1 3 y1,.slice x2 3 y2] 51)=Z at *
   clear hbA
   have hO3:=hO.below hW
   have hrow0:=hO3.1
   have hsZ:=hW.size
   refine onX 9 3 rfl (by kernel_rfl) ?_
   refine wpList_append_own_at _ rfl _ _ 25 rfl 0 51 i0 (.agg #[.slice none 0 0,.slice none 0 0]) 2 48 Tryz.underlying25 hi hz0 hz1 hz2 rfl (by decide) _ qs.length (roundK.row qs) rfl hrow0 ⟨w9.heap.size,0,none⟩ 1 1 [.slice x1 3 y1,.slice x2 3 y2] rfl rfl hsrc ?c2 ?c3 ?c4 ?c5 ?_
   case c2=>intro u hu;simp at hu;rcases hu with rfl | rfl <;> rfl
   case c3=>unfold maxLen;omega
   case c4=>omega
   case c5=>omega
   intro v' w5 hown hgrow hnil hat
   clear hnil hrow0 hsrc
   obtain ⟨hO5,hn5,hlo5,hou⟩:=hO3.snoc (p:=(⟨.slice x1 3 y1,[3,3,3],.slice x2 3 y2,[3,3,3]⟩:RoundQ)) (B:=0) hn2 (fun _ _=>Nat.zero_le _) ⟨oa,ob⟩ (List.nodup_append.2 ⟨intK_nodup _ _,intK_nodup _ _,hdis⟩) (fun x hx hx' => by
    have:=HF.out x hx'
    rcases List.mem_append.1 hx with hx | hx
    ·have:=LA x hx;omega
    ·have:=LB x hx;omega) (fun x hx=>Nat.zero_le _) (Nat.zero_le _) hown hgrow hat
   have hft:∀ k∈roundK.fp v' (qs ++ [(⟨.slice x1 3 y1,[3,3,3],.slice x2 3 y2,[3,3,3]⟩:RoundQ)]),k∈roundK.fp (.slice sa qs.length sc) qs∨w.heap.size≤k:=by
    intro k hk
    unfold Kind.fp at hk ⊢
    rw [List.flatMap_append] at hk
    rcases List.mem_append.1 hk with hk | hk
    ·rcases hat with hat | hat
     ·left
      apply List.mem_append_left
      unfold blk at hk ⊢
      rw [hat] at hk
      exact hk
     ·right
      unfold blk at hk
      rw [hat] at hk
      simp only [Option.toList,List.mem_singleton] at hk
      omega
    ·rcases List.mem_append.1 hk with hk | hk
     ·left
      exact List.mem_append_right _ hk
     ·right
      have hk' : k∈roundK.foot (⟨.slice x1 3 y1,[3,3,3],.slice x2 3 y2,[3,3,3]⟩:RoundQ):=by simpa using hk
      rcases List.mem_append.1 hk' with hk' | hk'
      ·exact LA k hk'
      ·exact LB k hk'
   obtain ⟨na,nc,rfl⟩:=hO5.shape
   have hO9:Out (blk (.slice sa qs.length sc)) w w5:=(Out.of_below hW).trans hou
   have Bg5:Blk w5 g 28 #[.bool has,.slice ba batch.length bk,.slice sa qs.length sc,.slice da dec.length dk]:=(hO9.block g hgl hFg).trans hG
   have hks:(qs ++ [(⟨.slice x1 3 y1,[3,3,3],.slice x2 3 y2,[3,3,3]⟩:RoundQ)]).map RoundQ.e=pe.rounds ++ [opn3]:=by rw [List.map_append,HQE.out];rfl
   have hkl:(qs ++ [(⟨.slice x1 3 y1,[3,3,3],.slice x2 3 y2,[3,3,3]⟩:RoundQ)]).length=qs.length + 1:=by simp
   have hkn:nx < (qs ++ [(⟨.slice x1 3 y1,[3,3,3],.slice x2 3 y2,[3,3,3]⟩:RoundQ)]).length:=by have:=HNL.out;omega
   have hke:((qs ++ [(⟨.slice x1 3 y1,[3,3,3],.slice x2 3 y2,[3,3,3]⟩:RoundQ)])[nx]'hkn)=(⟨.slice x1 3 y1,[3,3,3],.slice x2 3 y2,[3,3,3]⟩:RoundQ):=by
    simp only [HNL.out]
    simp
   have hgN:g ∉ roundK.fp (.slice na (qs ++ [(⟨.slice x1 3 y1,[3,3,3],.slice x2 3 y2,[3,3,3]⟩:RoundQ)]).length nc) (qs ++ [(⟨.slice x1 3 y1,[3,3,3],.slice x2 3 y2,[3,3,3]⟩:RoundQ)]):=fun hx=>by
    rcases hft g hx with hx | hx
    ·exact hgR hx
    ·omega
   have hoB:∀ x∈blk (.slice sa qs.length sc),x∈roundK.fp (.slice sa qs.length sc) qs:=fun x hx=>by simp only [Kind.fp,List.mem_append];exact Or.inl hx
   have p1:=o1.out hO9 (fun x hx hx' => hd1 x hx x (List.mem_append_left _ (hoB x hx')) rfl)
   have p3:=o3.out hO9 (fun x hx hx' => hd2 x (hoB x hx') x hx rfl)
   have T1:=o1.lt
   have T3:=o3.lt
   have hU9:Out (g :: instK.foot (⟨has,.slice ba batch.length bk,batch,.slice sa qs.length sc,qs,.slice da dec.length dk,dec⟩:InstQ)) w w5:=hO9.mono (fun x hx=>List.mem_cons_of_mem _ (List.mem_append_right _ (List.mem_append_left _ (hoB x hx))))
   generalize hKS:qs ++ [(⟨.slice x1 3 y1,[3,3,3],.slice x2 3 y2,[3,3,3]⟩:RoundQ)]=ks at *
   have hkr:(ks[nx]).rep=[3,3,3]:=by rw [hke]
   clear hKS hkl hke hou oa ob LA LB hdis hown hgrow hat hO3 m0 HF
   go_wp2
   refine ThenX.to ⟨Or.inr ⟨⟨_,hO9⟩,rfl⟩,?_⟩
   simp only [Act.put,pgE,pjE]
   refine onX 10 2 rfl (by kernel_rfl) ?_
   go_wp2
   refine ThenX.to ⟨Or.inr ⟨⟨_,hO9⟩,rfl⟩,?_⟩
   refine onX 11 1 rfl (by kernel_rfl) ?_
   go_wp2
   refine ThenX.to ⟨Or.inr ⟨⟨_,hO9⟩,rfl⟩,?_⟩
   refine onX 12 0 rfl (by kernel_rfl) ?_
   have t3:=Bg5.cell 2 _ rfl
   have t4:=Bg5.frozen 2
   have Bg6:Blk (w5.setCell ⟨g,2,none⟩ (.slice na ks.length nc)) g 28 #[.bool has,.slice ba batch.length bk,.slice na ks.length nc,.slice da dec.length dk]:=Bg5.set 2 (.slice na ks.length nc)
   have U6:=Out.setCell w5 g 2 (.slice na ks.length nc)
   have r1:=p1.out U6 (fun x hx hx' => by simp only [List.mem_singleton] at hx';subst hx';exact hgT hx)
   have r2:=hO5.out U6 (fun x hx hx' => by simp only [List.mem_singleton] at hx';subst hx';exact hgN hx)
   have r3:=p3.out U6 (fun x hx hx' => by simp only [List.mem_singleton] at hx';subst hx';exact hgD hx)
   have hU6:=hU9.set (b:=g) (j:=2) (u:=.slice na ks.length nc) (List.mem_cons_self ..)
   have ok:instK.own (w5.setCell ⟨g,2,none⟩ (.slice na ks.length nc)) (⟨has,.slice ba batch.length bk,batch,.slice na ks.length nc,ks,.slice da dec.length dk,dec⟩:InstQ):=⟨r1,r2,r3⟩
   have nk:(instK.foot (⟨has,.slice ba batch.length bk,batch,.slice na ks.length nc,ks,.slice da dec.length dk,dec⟩:InstQ)).Nodup:=by
    refine List.nodup_append.2 ⟨hn1,List.nodup_append.2 ⟨hn5,hn3',fun x hx y hy e=>?_⟩,fun x hx y hy e=>?_⟩
    ·subst e
     rcases hft x hx with hx | hx
     ·exact hd2 x hx x hy rfl
     ·have:=T3 x hy;omega
    ·subst e
     rcases List.mem_append.1 hy with hy | hy
     ·rcases hft x hy with hy | hy
      ·exact hd1 x hx x (List.mem_append_left _ hy) rfl
      ·have:=T1 x hx;omega
     ·exact hd1 x hx x (List.mem_append_right _ hy) rfl
   have hgk:g ∉ instK.foot (⟨has,.slice ba batch.length bk,batch,.slice na ks.length nc,ks,.slice da dec.length dk,dec⟩:InstQ):=fun hx=>by
    rcases List.mem_append.1 hx with hx | hx
    ·exact hgT hx
    ·rcases List.mem_append.1 hx with hx | hx
     ·exact hgN hx
     ·exact hgD hx
   have hfk:∀ x∈instK.foot (⟨has,.slice ba batch.length bk,batch,.slice na ks.length nc,ks,.slice da dec.length dk,dec⟩:InstQ),x∈instK.foot (⟨has,.slice ba batch.length bk,batch,.slice sa qs.length sc,qs,.slice da dec.length dk,dec⟩:InstQ)∨w.heap.size≤x:=fun x hx=>by
    rcases List.mem_append.1 hx with hx | hx
    ·exact Or.inl (List.mem_append_left _ hx)
    ·rcases List.mem_append.1 hx with hx | hx
     ·rcases hft x hx with hx | hx
      ·exact Or.inl (List.mem_append_right _ (List.mem_append_left _ hx))
      ·exact Or.inr hx
     ·exact Or.inl (List.mem_append_right _ (List.mem_append_right _ hx))
   clear Bg5 U6 r1 r3 p1 p3 hO5 hn5 hlo5 hft hU9 hn1 hn23 hn2 hn3' hd1 hd2 hgT hgR hgD hgN T1 T3 hoB hG o1 hO o3 nq
   go_wp2
   refine ThenX.to ⟨Or.inl (by kernel_rfl),?_⟩
   refine endX (by kernel_rfl) ?_
   clear t3 t4 hO9 hnn hnw hFg hW
   generalize w5.setCell ⟨g,2,none⟩ (.slice na ks.length nc)=w6 at *
   obtain ⟨gr,rfl⟩:=r2.blkOf (by omega)
   have hcz:=r2.cell nx hkn 0 ((ks[nx]).vr) rfl
   clear r2
   have hrl3:(ks[nx]).rep.length=3:=by rw [hkr];rfl
   obtain ⟨g5,cap5,hv5,hg5,kc,kf,own5,foot5⟩:=own_setR ok nk nx n hkn (by show n < (ks[nx]).rep.length;omega) v
   have hv5' : (ks[nx]).vr=.slice (some ⟨g5,0,none⟩) 3 cap5:=by rw [← hrl3];exact hv5
   rw [hv5'] at hcz
   have hcr2:w6.cell? ⟨gr,nx * 2,none⟩=some (.slice (some ⟨g5,0,none⟩) 3 cap5):=hcz.1
   have kc2:w6.cell? ⟨g5,n,none⟩=some (.int .i64 3):=by
    have e:(ks[nx]).rep[n]'(by omega)=3:=by
     simp only [hkr]
     match n,hn with
     | 0,_=>rfl
     | 1,_=>rfl
     | 2,_=>rfl
    have kc' : w6.cell? ⟨g5,n,none⟩=some (iv ((ks[nx]).rep[n]'(by omega))):=kc
    rw [e] at kc'
    exact kc'
   have hne:g≠g5:=fun e=>hgk (e ▸ hg5)
   have hG7:=Bg6.other (b' := g5) hne n (iv v)
   have hU7:Out (g :: instK.foot (⟨has,.slice ba batch.length bk,batch,.slice sa qs.length sc,qs,.slice da dec.length dk,dec⟩:InstQ)) w (w6.setCell ⟨g5,n,none⟩ (iv v)):=by
    have:=Out.setCell w6 g5 n (iv v)
    refine ⟨this.os.trans hU6.os,this.tape.trans hU6.tape,this.output.trans hU6.output,Nat.le_trans hU6.size this.size,fun x hx hn=>?_⟩
    refine (this.block x (Nat.lt_of_lt_of_le hx hU6.size) (fun hx' => ?_)).trans (hU6.block x hx hn)
    simp only [List.mem_singleton] at hx'
    subst hx'
    rcases hfk x hg5 with h | h
    ·exact hn (List.mem_cons_of_mem _ h)
    ·omega
   have he7:=HPE.out ks (.slice (some ⟨gr,0,none⟩) ks.length nc) hkn hks
   have z2:w6.cell? ⟨g,2,none⟩=some (.slice (some ⟨gr,0,none⟩) ks.length nc):=Bg6.cell 2 _ rfl
   have hnri:(nx:Int) < ks.length:=by omega
   have HZ:Hid (∀ w',w' = w6.setCell ⟨g5,n,none⟩ (iv v)→∃ q' : InstQ,q'.e=⟨pe.has,pe.batch,rstR (pe.rounds ++ [opn3]) nx n v,pe.dec⟩∧Blk w' g 28 #[.bool q'.has,q'.vb,q'.vr,q'.vd]∧instK.own w' q' ∧ (instK.foot q').Nodup∧(∀ k∈instK.foot q',k∈instK.foot (⟨has,.slice ba batch.length bk,batch,.slice sa qs.length sc,qs,.slice da dec.length dk,dec⟩:InstQ)∨w.heap.size≤k)∧Out (g :: instK.foot (⟨has,.slice ba batch.length bk,batch,.slice sa qs.length sc,qs,.slice da dec.length dk,dec⟩:InstQ)) w w'):=fun w' hw' => by
    subst hw'
    exact ⟨_,he7,hG7,own5,by rw [foot5];exact nk,fun k hk=>hfk k (by rw [foot5] at hk;exact hk),hU7⟩
   clear he7 hG7 own5 hU7 foot5 hfk hU6 ok nk hcz kc HPE hks hv5 hv5' Bg6 hkr hgk
   go_wp2
   go_ret
   obtain ⟨q',k1,k2,k3,k4,k5,k6⟩:=HZ.out _ rfl
   exact ⟨q',rfl,k1,k2,k3,k4,k5,k6⟩

end Go.Proofs.YtnnenkoeklabpaaGreatDoor
namespace Go.Proofs.YtnnenkoeklabpaaGreatDoor
open Go.RowKit
open Go.BigFrame
set_option maxRecDepth 100000
/-- The coin of who has no batch. -/
def coF (has:Bool) (coin:Int):Int:=if coin=1∧has=false then 0 else coin

/-- GoOn, plainly: its code, its instance, its choice. -/
def goC (x:InstE) (node round mask coin:Int):Int:=if atC x node round=0 then (if proA x.rounds round.toNat node.toNat=3 then 8 else if chC (x.rounds.getD round.toNat rnd0).pro mask (coF x.has coin)=0 then rpC x.rounds (round.toNat + 1) node.toNat else chC (x.rounds.getD round.toNat rnd0).pro mask (coF x.has coin)) else atC x node round

def goI (x:InstE) (node round mask coin:Int):InstE:=if goC x node round mask coin=0 then ⟨x.has,x.batch,rpI x.rounds (round.toNat + 1) node.toNat (cfV (x.rounds.getD round.toNat rnd0).pro mask (coF x.has coin)),if cfD (x.rounds.getD round.toNat rnd0).pro mask (coF x.has coin) then x.dec.set node.toNat (cfV (x.rounds.getD round.toNat rnd0).pro mask (coF x.has coin)) else x.dec⟩ else ine0

def goZ (x:InstE) (node round mask coin:Int):Int:=0

def goD (x:InstE) (node round mask coin:Int):Bool:=if goC x node round mask coin=0 then cfD (x.rounds.getD round.toNat rnd0).pro mask (coF x.has coin) else false

def goK (x:InstE) (node round mask coin:Int):Bool:=if goC x node round mask coin=0 then cfK (x.rounds.getD round.toNat rnd0).pro mask (coF x.has coin) else false

def goV (x:InstE) (node round mask coin:Int):Int:=if goC x node round mask coin=0 then cfV (x.rounds.getD round.toNat rnd0).pro mask (coF x.has coin) else 0

/-- No answer but a code. -/
def goNo (x:InstE) (node round mask coin c:Int):Prop:=goC x node round mask coin=c∧goI x node round mask coin=ine0∧goZ x node round mask coin=0∧goD x node round mask coin=false∧goK x node round mask coin=false∧goV x node round mask coin=0

theorem go_no {x:InstE} {node round mask coin c:Int} (h:goC x node round mask coin=c) (h0:c≠0):goNo x node round mask coin c:=by
 have hc:¬ goC x node round mask coin=0:=by rw [h];exact h0
 exact ⟨h,if_neg hc,rfl,if_neg hc,if_neg hc,if_neg hc⟩

theorem go_facts (x:InstE) (node round mask coin:Int):(atC x node round≠0→goNo x node round mask coin (atC x node round)) ∧
  (atC x node round=0→insF x=0∧∃ n r:Nat,node=(n:Int)∧round=(r:Int)∧n < 3∧r < x.rounds.length ∧
   (proA x.rounds r n=3→goNo x node round mask coin 8) ∧
   (proA x.rounds r n≠3→chC (x.rounds.getD r rnd0).pro mask (coF x.has coin)≠0→goNo x node round mask coin (chC (x.rounds.getD r rnd0).pro mask (coF x.has coin))) ∧
   (proA x.rounds r n≠3→chC (x.rounds.getD r rnd0).pro mask (coF x.has coin)=0→rpC x.rounds (r + 1) n≠0→goNo x node round mask coin (rpC x.rounds (r + 1) n)) ∧
   (proA x.rounds r n≠3→chC (x.rounds.getD r rnd0).pro mask (coF x.has coin)=0→rpC x.rounds (r + 1) n=0→goC x node round mask coin=0∧goI x node round mask coin=⟨x.has,x.batch,rpI x.rounds (r + 1) n (cfV (x.rounds.getD r rnd0).pro mask (coF x.has coin)),if cfD (x.rounds.getD r rnd0).pro mask (coF x.has coin) then x.dec.set n (cfV (x.rounds.getD r rnd0).pro mask (coF x.has coin)) else x.dec⟩∧goZ x node round mask coin=0∧goD x node round mask coin=cfD (x.rounds.getD r rnd0).pro mask (coF x.has coin)∧goK x node round mask coin=cfK (x.rounds.getD r rnd0).pro mask (coF x.has coin)∧goV x node round mask coin=cfV (x.rounds.getD r rnd0).pro mask (coF x.has coin))):=by
 refine ⟨fun h0=>go_no (if_neg h0) h0,fun h0=>?_⟩
 obtain ⟨hi,n,r,rfl,rfl,hn,hr⟩:=at_zero h0
 refine ⟨hi,n,r,rfl,rfl,hn,hr,fun h1=>?_,fun h1 h2=>?_,fun h1 h2 h3=>?_,fun h1 h2 h3=>?_⟩
 ·exact go_no (by unfold goC;rw [if_pos h0,Int.toNat_natCast,Int.toNat_natCast,if_pos h1]) (by decide)
 ·exact go_no (by unfold goC;rw [if_pos h0,Int.toNat_natCast,Int.toNat_natCast,if_neg h1,if_neg h2]) h2
 ·exact go_no (by unfold goC;rw [if_pos h0,Int.toNat_natCast,Int.toNat_natCast,if_neg h1,if_pos h2]) h3
 ·have e:goC x n r mask coin=0:=by unfold goC;rw [if_pos h0,Int.toNat_natCast,Int.toNat_natCast,if_neg h1,if_pos h2,h3]
  refine ⟨e,?_,rfl,?_,?_,?_⟩
  ·unfold goI;rw [if_pos e,Int.toNat_natCast,Int.toNat_natCast]
  ·unfold goD;rw [if_pos e,Int.toNat_natCast]
  ·unfold goK;rw [if_pos e,Int.toNat_natCast]
  ·unfold goV;rw [if_pos e,Int.toNat_natCast]

end Go.Proofs.YtnnenkoeklabpaaGreatDoor
namespace Go.Proofs.YtnnenkoeklabpaaGreatDoor
open Go.RowKit
open Go.BigFrame
set_option maxRecDepth 100000
set_option maxHeartbeats 8000000 in
theorem l6GoOn_any (b o:Nat) (p:InstQ) (node round mask coin:Int) (w:World) (hP:InstP w b o p) (hbw:b < w.heap.size) (hl:p.n≤1048576) (h0:insF p.e=0) :
  Calls Tryz.prog 54 #[.pointer (some ⟨b,o,none⟩),.int .i64 node,.int .i64 round,.int .i64 mask,.int .i64 coin] w fun e w' => ∃ q:InstQ,e=.returned (.agg (resC (goC p.e node round mask coin) (goZ p.e node round mask coin) (goD p.e node round mask coin) (goK p.e node round mask coin) (goV p.e node round mask coin) q))∧q.e=goI p.e node round mask coin∧instK.own w' q∧(instK.foot q).Nodup∧(∀ k∈instK.foot q,w.heap.size≤k)∧Below w.heap.size w w' := by
 obtain ⟨hne,hro,hd0⟩:=ins_low h0
 obtain ⟨hwel,⟨_,h4⟩,hd3,hF,_⟩:=ins_ok h0
 have hcp:=fun w h=>l6Copy_any p w h hl hne hro hd0
 have h4' : p.rounds.length≤4:=by have:p.e.rounds.length=p.rounds.length:=List.length_map _;omega
 have hAs:=fun w' hP=>l6Asked_any b o p node round w' hP h4'
 have hIR:=fun (r:Nat) (hr:r < p.e.rounds.length)=>inst_round hP r (by have:p.e.rounds.length=p.rounds.length:=List.length_map _;omega) hF
 have hLE:=True.intro
 have HF:=go_facts p.e node round mask coin
 unfold goNo at HF
 have HA:Hid (atC p.e node round=if inB node 0 2 && inB round 0 ((p.rounds.length:Int) - 1) then 0 else 3):=by
  have:p.e.rounds.length=p.rounds.length:=List.length_map _
  unfold atC
  rw [if_pos h0,this]
  exact (rfl:_=_)
 have HD3:Hid (p.e.dec.length=3):=hd3
 have HRL:Hid (p.e.rounds.length=p.rounds.length):=List.length_map _
 have HH:Hid (p.e.has=p.has):=(rfl:_=_)
 generalize hAA:(inB node 0 2 && inB round 0 ((p.rounds.length:Int) - 1))=AA at *
 clear hAA hne hro hd0 hF h0 hd3
 generalize goC p.e node round mask coin=D at *
 generalize goI p.e node round mask coin=E at *
 generalize goZ p.e node round mask coin=K0 at *
 generalize goD p.e node round mask coin=K1 at *
 generalize goK p.e node round mask coin=K2 at *
 generalize goV p.e node round mask coin=K3 at *
 generalize atC p.e node round=C at *
 replace HF:Hid _:=HF
 have hrd:=hP.rd
 have hrb:=fun (w' : World) hb=>instK.rd_below (w' := w') hrd hb
 generalize hpe:p.e=pe at *
 clear hpe
 obtain ⟨has,vb,batch,vr,rounds,vd,dec⟩:=p
 obtain ⟨ba,bk,rfl⟩:∃ a c,vb=.slice a batch.length c:=hrd.1.shape
 obtain ⟨va,vk,rfl⟩:∃ a c,vr=.slice a rounds.length c:=hrd.2.1.shape
 obtain ⟨da,dk,rfl⟩:∃ a c,vd=.slice a dec.length c:=hrd.2.2.shape
 dsimp only at hcp hrb h4' hAs hIR HRL HA HH
 have hB:Below w.heap.size w (w.alloc (.cells #[.int .i64 0,.int .i64 0,.bool false,.bool false,.int .i64 0,.bool false,.slice none 0 0,.slice none 0 0,.slice none 0 0] 88)):=by go_grown
 have Rb:=Blk.new w 88 #[.int .i64 0,.int .i64 0,.bool false,.bool false,.int .i64 0,.bool false,.slice none 0 0,.slice none 0 0,.slice none 0 0]
 go_enter Tryz.func54,Tryz.ntmps54
 go_wp2_with fail
 generalize w.alloc (.cells #[.int .i64 0,.int .i64 0,.bool false,.bool false,.int .i64 0,.bool false,.slice none 0 0,.slice none 0 0,.slice none 0 0] 88)=W at *
 refine (hAs W (hP.below hB)).mono ?_
 rintro e w1 ⟨rfl,hb1⟩
 replace Rb:=Rb.below hb1
 replace hB:=hB.trans (hb1.mono hB.size)
 clear hb1 hAs
 cases AA with
 | false=>
  have hC:C=3:=HA.out
  have E1:Hid (D=3∧E=ine0∧K0=0∧K1=false∧K2=false∧K3=0):=by
   obtain ⟨h1,h2⟩:=HF.out.1 (by rw [hC];decide)
   exact ⟨h1.trans hC,h2⟩
  clear HF hIR hLE hcp hC HA
  go_wp2_with fail
  refine (l6Bad_any 3 _).mono ?_
  rintro e w8 ⟨rfl,hb8⟩
  replace hB:=hB.trans (hb8.mono hB.size)
  replace Rb:=Rb.below hb8
  clear hb8
  have Rr:=Rb.row #[.int .i64 3,.int .i64 0,.bool false,.bool false,.int .i64 0,.bool false,.slice none 0 0,.slice none 0 0,.slice none 0 0]
  have hBr:=below_row hB (g:=w.heap.size) (by omega) #[.int .i64 3,.int .i64 0,.bool false,.bool false,.int .i64 0,.bool false,.slice none 0 0,.slice none 0 0,.slice none 0 0]
  have hsr:(Tryz.prog.info? 88).map (·.size)=some (#[.int .i64 3,.int .i64 0,.bool false,.bool false,.int .i64 0,.bool false,.slice none 0 0,.slice none 0 0,.slice none 0 0]:Array Value).size:=sz_res
  go_wp2_with (first | (refine st_row (by kernel_rfl) 88 _ _ rfl _ #[.int .i64 3,.int .i64 0,.bool false,.bool false,.int .i64 0,.bool false,.slice none 0 0,.slice none 0 0,.slice none 0 0] rfl rfl 88 _ Rb hsr rfl (by simp [Value.oneCell']) ?_))
  obtain ⟨q0,q1,q2,q3,q4,q5,q6,q7,q8⟩:=Rr.cel9
  exact bodyPost_ret (v:=.agg #[.int .i64 3,.int .i64 0,.bool false,.bool false,.int .i64 0,.bool false,.slice none 0 0,.slice none 0 0,.slice none 0 0]) (by simp [results,Tryz.results54,go_sem,q0,q1,q2,q3,q4,q5,q6,q7,q8]) rfl ⟨inst0,by rw [E1.out.1,E1.out.2.2.1,E1.out.2.2.2.1,E1.out.2.2.2.2.1,E1.out.2.2.2.2.2];rfl,E1.out.2.1.symm,inst0_own _,inst0_nd,fun k hk=>by rw [inst0_ft] at hk;simp at hk,hBr⟩

 | true=>
  have hC:C=0:=HA.out
  obtain ⟨hi0,n,r,rfl,rfl,hn,hr,f8,fC,f6,f0⟩:=HF.out.2 hC
  have F8:Hid _:=f8
  have FC1:Hid _:=fC
  have F61:Hid _:=f6
  have F01:Hid _:=f0
  clear hi0 f8 fC f6 f0 HF hC HA
  obtain ⟨rb,ro,vk',xb,xo,xc,yb,yo,yc,hvr,k0,k1,kx,ky,Rx,Ry⟩:=hIR r hr
  simp only [Value.slice.injEq,true_and] at hvr
  obtain ⟨rfl,rfl⟩:=hvr
  replace kx:=kx n hn
  replace ky:=ky n hn
  replace k0:=cellB k0 hB
  replace k1:=cellB k1 hB
  replace kx:=cellB kx hB
  replace ky:=cellB ky hB
  have hPW:=hP.below hB
  obtain ⟨d0,d1,d2,d3⟩:=hPW.box
  dsimp only at d0 d1 d2 d3
  have hr4:(r:Int) < rounds.length:=by have:=HRL.out;omega
  have hn3:(n:Int) < 3:=by omega
  have hri:(r:Int) + 1≤4:=by omega
  have hl2:=(wel_at hwel r hr).2
  have hsp:=fun a c w (hR:Row .i64 w a (pe.rounds.getD r rnd0).pro)=>specChoice_any a c (pe.rounds.getD r rnd0).pro mask (coF pe.has coin) w hR (by omega)
  rw [hl2] at hsp
  generalize hpr:proA pe.rounds r n=PP at *
  clear hpr hIR hl2 hPW Rx
  by_cases hp3:PP=3
  case pos=>
   have E1:Hid (D=8∧E=ine0∧K0=0∧K1=false∧K2=false∧K3=0):=F8.out hp3
   have hq:(PP == 3)=true:=by rw [hp3];rfl
   clear F8 FC1 F61 F01 hp3 hLE hcp hsp
   go_wp2_with fail
   refine (l6Bad_any 8 _).mono ?_
   rintro e w8 ⟨rfl,hb8⟩
   replace hB:=hB.trans (hb8.mono hB.size)
   replace Rb:=Rb.below hb8
   clear hb8
   have Rr:=Rb.row #[.int .i64 8,.int .i64 0,.bool false,.bool false,.int .i64 0,.bool false,.slice none 0 0,.slice none 0 0,.slice none 0 0]
   have hBr:=below_row hB (g:=w.heap.size) (by omega) #[.int .i64 8,.int .i64 0,.bool false,.bool false,.int .i64 0,.bool false,.slice none 0 0,.slice none 0 0,.slice none 0 0]
   have hsr:(Tryz.prog.info? 88).map (·.size)=some (#[.int .i64 8,.int .i64 0,.bool false,.bool false,.int .i64 0,.bool false,.slice none 0 0,.slice none 0 0,.slice none 0 0]:Array Value).size:=sz_res
   go_wp2_with (first | (refine st_row (by kernel_rfl) 88 _ _ rfl _ #[.int .i64 8,.int .i64 0,.bool false,.bool false,.int .i64 0,.bool false,.slice none 0 0,.slice none 0 0,.slice none 0 0] rfl rfl 88 _ Rb hsr rfl (by simp [Value.oneCell']) ?_))
   obtain ⟨q0,q1,q2,q3,q4,q5,q6,q7,q8⟩:=Rr.cel9
   exact bodyPost_ret (v:=.agg #[.int .i64 8,.int .i64 0,.bool false,.bool false,.int .i64 0,.bool false,.slice none 0 0,.slice none 0 0,.slice none 0 0]) (by simp [results,Tryz.results54,go_sem,q0,q1,q2,q3,q4,q5,q6,q7,q8]) rfl ⟨inst0,by rw [E1.out.1,E1.out.2.2.1,E1.out.2.2.2.1,E1.out.2.2.2.2.1,E1.out.2.2.2.2.2];rfl,E1.out.2.1.symm,inst0_own _,inst0_nd,fun k hk=>by rw [inst0_ft] at hk;simp at hk,hBr⟩

  case neg=>
   have hq:(PP == 3)=false:=by simpa using hp3
   have FC:Hid _:=FC1.out hp3
   have F6:Hid _:=F61.out hp3
   have F0:Hid _:=F01.out hp3
   clear FC1 F61 F01 F8 hp3
   have HCO:Hid (coF pe.has coin=if coin=1∧has=false then 0 else coin):=by
    show coF pe.has coin=_
    rw [HH.out]
    rfl
   generalize chC (pe.rounds.getD r rnd0).pro mask (coF pe.has coin)=CC at *
   generalize cfD (pe.rounds.getD r rnd0).pro mask (coF pe.has coin)=CD at *
   generalize cfK (pe.rounds.getD r rnd0).pro mask (coF pe.has coin)=CK at *
   generalize cfV (pe.rounds.getD r rnd0).pro mask (coF pe.has coin)=CV at *
   generalize coF pe.has coin=co at *
   by_cases hc1:coin=1
   ·have hco' : (coin == 1)=true:=by rw [hc1];rfl
    cases has with
    | true=>
     have e:co=coin:=by rw [HCO.out];exact if_neg (fun h=>by simp at h)
     subst e
     clear HCO hc1
     go_wp2_with fail
     clear kx ky k0 k1 d0 d1 d2 d3 hq hco'
     refine (hsp _ _ w1 (Ry.below hB)).mono ?_
     rintro e w2 ⟨rfl,hb2⟩
     have hbA:Below w2.heap.size w2 (w2.alloc (.cells #[.int .i64 CC,.bool CD,.bool CK,.int .i64 CV] 86)):=by go_grown
     have BC:=Blk.new w2 86 #[.int .i64 CC,.bool CD,.bool CK,.int .i64 CV]
     have h12:w.heap.size < w2.heap.size:=(Rb.below hb2).lt
     replace Rb:=(Rb.below hb2).below hbA
     replace hB:=hB.trans (hb2.mono hB.size)
     replace hB:=hB.trans (hbA.mono hB.size)
     clear hb2 hsp hbA
     by_cases hcc:CC=0
     case neg=>
      have E1:Hid (D=CC∧E=ine0∧K0=0∧K1=false∧K2=false∧K3=0):=FC.out hcc
      have h0' : (CC != 0)=true:=by simpa using hcc
      clear FC F6 F0 hcc hLE hcp
      go_wp2_with fail
      refine (l6Bad_any CC _).mono ?_
      rintro e w8 ⟨rfl,hb8⟩
      replace hB:=hB.trans (hb8.mono hB.size)
      replace Rb:=Rb.below hb8
      clear hb8
      have Rr:=Rb.row #[.int .i64 CC,.int .i64 0,.bool false,.bool false,.int .i64 0,.bool false,.slice none 0 0,.slice none 0 0,.slice none 0 0]
      have hBr:=below_row hB (g:=w.heap.size) (by omega) #[.int .i64 CC,.int .i64 0,.bool false,.bool false,.int .i64 0,.bool false,.slice none 0 0,.slice none 0 0,.slice none 0 0]
      have hsr:(Tryz.prog.info? 88).map (·.size)=some (#[.int .i64 CC,.int .i64 0,.bool false,.bool false,.int .i64 0,.bool false,.slice none 0 0,.slice none 0 0,.slice none 0 0]:Array Value).size:=sz_res
      go_wp2_with (first | (refine st_row (by kernel_rfl) 88 _ _ rfl _ #[.int .i64 CC,.int .i64 0,.bool false,.bool false,.int .i64 0,.bool false,.slice none 0 0,.slice none 0 0,.slice none 0 0] rfl rfl 88 _ Rb hsr rfl (by simp [Value.oneCell']) ?_))
      obtain ⟨q0,q1,q2,q3,q4,q5,q6,q7,q8⟩:=Rr.cel9
      exact bodyPost_ret (v:=.agg #[.int .i64 CC,.int .i64 0,.bool false,.bool false,.int .i64 0,.bool false,.slice none 0 0,.slice none 0 0,.slice none 0 0]) (by simp [results,Tryz.results54,go_sem,q0,q1,q2,q3,q4,q5,q6,q7,q8]) rfl ⟨inst0,by rw [E1.out.1,E1.out.2.2.1,E1.out.2.2.2.1,E1.out.2.2.2.2.1,E1.out.2.2.2.2.2];rfl,E1.out.2.1.symm,inst0_own _,inst0_nd,fun k hk=>by rw [inst0_ft] at hk;simp at hk,hBr⟩

     case pos=>
      replace F6:Hid _:=F6.out hcc
      replace F0:Hid _:=F0.out hcc
      subst hcc
      clear FC
      have hPW2:=hP.below hB
      obtain ⟨d0,d1,d2,d3⟩:=hPW2.box
      dsimp only at d0 d1 d2 d3
      go_wp2_with fail
      clear d0 d1 d2 d3 hPW2
      have hYY:w2.heap.size < (w2.alloc (.cells #[.int .i64 0,.bool CD,.bool CK,.int .i64 CV] 86)).heap.size:=by simp
      generalize (w2.alloc (.cells #[.int .i64 0,.bool CD,.bool CK,.int .i64 CV] 86))=Y at *
      refine (hcp Y (hrb Y hB)).mono ?_
      rintro e w3 ⟨q,rfl,eq,oq,nq,gq,hb3⟩
      have hY3:Y.heap.size≤w3.heap.size:=hb3.size
      replace Rb:=Rb.below hb3
      replace BC:=BC.below hb3
      replace hB:=hB.trans (hb3.mono hB.size)
      have M:=instK.own_lt oq
      have hQE:q.e.rounds=pe.rounds:=by rw [eq]
      have hQl:q.rounds.length=pe.rounds.length:=by rw [← hQE];exact (List.length_map _).symm
      have HED:Hid (q.e=pe):=eq
      have hdq:q.dec.length=3:=by
       have:q.e.dec=pe.dec:=by rw [eq]
       have h9:q.dec=pe.dec:=this
       rw [h9]
       exact HD3.out
      clear hb3 hcp eq
      obtain ⟨qh,qb,qbs,qr,qrs,qd,qds⟩:=q
      obtain ⟨s1,t1,rfl⟩:∃ a c,qb=.slice a qbs.length c:=oq.1.shape
      obtain ⟨s2,t2,rfl⟩:∃ a c,qr=.slice a qrs.length c:=oq.2.1.shape
      obtain ⟨s3,t3,rfl⟩:∃ a c,qd=.slice a qds.length c:=oq.2.2.shape
      cases CD with
      | true=>
       simp only [if_true] at F0
       obtain ⟨g5,cap5,hv5,hg5,kc,kf,own5,foot5⟩:=own_setD oq nq n (by show n < qds.length;have:qds.length=3:=hdq;omega) CV
       have hdl:qds.length=3:=hdq
       replace hv5:(Value.slice s3 qds.length t3)=.slice (some ⟨g5,0,none⟩) qds.length cap5:=hv5
       simp only [Value.slice.injEq,true_and] at hv5
       obtain ⟨rfl,rfl⟩:=hv5
       have hg5l:Y.heap.size≤g5∧g5 < w3.heap.size:=⟨gq g5 hg5,M g5 hg5⟩
       have hss:(w3.setCell ⟨g5,n,none⟩ (iv CV)).heap.size=w3.heap.size:=by simp
       have hbA:Below (w3.setCell ⟨g5,n,none⟩ (iv CV)).heap.size (w3.setCell ⟨g5,n,none⟩ (iv CV)) ((w3.setCell ⟨g5,n,none⟩ (iv CV)).alloc (.cells #[.bool qh,.slice s1 qbs.length t1,.slice s2 qrs.length t2,.slice (some ⟨g5,0,none⟩) qds.length t3] 28)):=by go_grown
       have Gz:=Blk.new (w3.setCell ⟨g5,n,none⟩ (iv CV)) 28 #[.bool qh,.slice s1 qbs.length t1,.slice s2 qrs.length t2,.slice (some ⟨g5,0,none⟩) qds.length t3]
       rw [hss] at Gz
       replace Rb:=(Rb.other (b' := g5) (by omega) n (iv CV)).below hbA
       have hAl:Below w3.heap.size w3 (w3.alloc (.cells #[.bool qh,.slice s1 qbs.length t1,.slice s2 qrs.length t2,.slice (some ⟨g5,0,none⟩) qds.length t3] 28)):=by go_grown
       have a1:=BC.cell 1 _ rfl
       have a3:=BC.cell 3 _ rfl
       have e1:=cellB a1 hAl
       have e3:=cellB a3 hAl
       clear hAl
       replace BC:=(BC.other (b' := g5) (by omega) n (iv CV)).below hbA
       have hB1:Below w.heap.size w (w3.setCell ⟨g5,n,none⟩ (iv CV)):=hB.setCell (p:=⟨g5,n,none⟩) (by show w.heap.size≤g5;omega) _
       replace hB:=hB1.trans (hbA.mono hB1.size)
       replace own5:=instK.own_out (F:=[]) own5 (Out.of_below hbA) (fun _ _=>by simp)
       have L5:∀ k∈instK.foot (InstQ.setD (⟨qh,.slice s1 qbs.length t1,qbs,.slice s2 qrs.length t2,qrs,.slice (some ⟨g5,0,none⟩) qds.length t3,qds⟩:InstQ) n CV),Y.heap.size≤k:=fun k hk=>by rw [foot5] at hk;exact gq k hk
       have M5:∀ k∈instK.foot (InstQ.setD (⟨qh,.slice s1 qbs.length t1,qbs,.slice s2 qrs.length t2,qrs,.slice (some ⟨g5,0,none⟩) qds.length t3,qds⟩:InstQ) n CV),k < w3.heap.size:=fun k hk=>by rw [foot5] at hk;exact M k hk
       have nq5:(instK.foot (InstQ.setD (⟨qh,.slice s1 qbs.length t1,qbs,.slice s2 qrs.length t2,qrs,.slice (some ⟨g5,0,none⟩) qds.length t3,qds⟩:InstQ) n CV)).Nodup:=by rw [foot5];exact nq
       have hQR:(InstQ.setD (⟨qh,.slice s1 qbs.length t1,qbs,.slice s2 qrs.length t2,qrs,.slice (some ⟨g5,0,none⟩) qds.length t3,qds⟩:InstQ) n CV).e=⟨pe.has,pe.batch,pe.rounds,pe.dec.set n CV⟩:=by rw [setD_e,HED.out]
       have hwelQ:Wel (InstQ.setD (⟨qh,.slice s1 qbs.length t1,qbs,.slice s2 qrs.length t2,qrs,.slice (some ⟨g5,0,none⟩) qds.length t3,qds⟩:InstQ) n CV).e.rounds:=by rw [hQR];exact hwel
       have h4Q:(InstQ.setD (⟨qh,.slice s1 qbs.length t1,qbs,.slice s2 qrs.length t2,qrs,.slice (some ⟨g5,0,none⟩) qds.length t3,qds⟩:InstQ) n CV).rounds.length≤4:=by show qrs.length≤4;have:qrs.length=pe.rounds.length:=hQl;omega
       have h0Q:0 < (InstQ.setD (⟨qh,.slice s1 qbs.length t1,qbs,.slice s2 qrs.length t2,qrs,.slice (some ⟨g5,0,none⟩) qds.length t3,qds⟩:InstQ) n CV).rounds.length:=by show 0 < qrs.length;have:qrs.length=pe.rounds.length:=hQl;omega
       have hnxQ:r + 1≤(InstQ.setD (⟨qh,.slice s1 qbs.length t1,qbs,.slice s2 qrs.length t2,qrs,.slice (some ⟨g5,0,none⟩) qds.length t3,qds⟩:InstQ) n CV).rounds.length:=by show r + 1≤qrs.length;have:qrs.length=pe.rounds.length:=hQl;omega
       obtain ⟨old,kc2⟩:∃ z,w3.cell? ⟨g5,n,none⟩=some (iv z):=⟨_,kc⟩
       obtain ⟨c0,c1,c2,c3⟩:=BC.cel4
       clear kc hbA hB1 foot5 oq nq gq M hQE hdq hQl
       have hn4:(n:Int) < qds.length:=by omega
       clear hdl
       go_wp2_with fail
       clear c0 c1 c2 c3 a1 a3 e1 e3 kc2 kf
       have hgx:=Gz.lt
       generalize (w3.setCell ⟨g5,n,none⟩ (iv CV)).alloc (.cells #[.bool qh,.slice s1 qbs.length t1,.slice s2 qrs.length t2,.slice (some ⟨g5,0,none⟩) qds.length t3] 28)=X at *
       have hrep:Calls Tryz.prog 78 #[.pointer (some ⟨w3.heap.size,0,none⟩),.int .i64 (n:Int),.int .i64 ((r:Int) + 1),.int .i64 CV] X _:=l6Report_any w3.heap.size (InstQ.setD (⟨qh,.slice s1 qbs.length t1,qbs,.slice s2 qrs.length t2,qrs,.slice (some ⟨g5,0,none⟩) qds.length t3,qds⟩:InstQ) n CV) n (r + 1) CV X Gz own5 nq5 (fun hx=>by have:=M5 _ hx;omega) hwelQ h4Q h0Q hnxQ hn
       refine hrep.mono ?_
       rintro e X6 ⟨q6,rfl,e6,G6,own6,nq6,ft6,hU6⟩
       clear hrep
       have hlow:∀ k∈w3.heap.size :: instK.foot (InstQ.setD (⟨qh,.slice s1 qbs.length t1,qbs,.slice s2 qrs.length t2,qrs,.slice (some ⟨g5,0,none⟩) qds.length t3,qds⟩:InstQ) n CV),Y.heap.size≤k:=fun k hk=>by
        rcases List.mem_cons.1 hk with rfl | hk
        ·exact hY3
        ·exact L5 k hk
       replace Rb:Blk X6 w.heap.size 88 _:=(hU6.block _ Rb.lt (fun hx=>by have:=hlow _ hx;omega)).trans Rb
       replace BC:Blk X6 w2.heap.size 86 _:=(hU6.block _ BC.lt (fun hx=>by have:=hlow _ hx;omega)).trans BC
       replace hB:=Out.keep hB hU6 hB.size (fun k hk=>by have:=hlow k hk;omega)
       have HFT:Hid (∀ k∈instK.foot q6,w.heap.size < k):=fun k hk=>by
        rcases ft6 k hk with h | h
        ·have:=L5 k h;omega
        ·omega
       have HE6:Hid (q6.e=_):=e6
       rw [hQR] at HE6
       rw [hQR]
       clear Gz own5 nq5 L5 M5 hlow hU6 ft6 e6 hQR hwelQ
       generalize rpC pe.rounds (r + 1) n=RC at *
       by_cases hrc:RC=0
       case neg=>
        have E1:Hid (D=RC∧E=ine0∧K0=0∧K1=false∧K2=false∧K3=0):=F6.out hrc
        have hrc' : (RC != 0)=true:=by simpa using hrc
        clear F6 F0 hrc
        go_wp2_with fail
        refine (l6Bad_any RC _).mono ?_
        rintro e w8 ⟨rfl,hb8⟩
        replace hB:=hB.trans (hb8.mono hB.size)
        replace Rb:=Rb.below hb8
        clear hb8
        have Rr:=Rb.row #[.int .i64 RC,.int .i64 0,.bool false,.bool false,.int .i64 0,.bool false,.slice none 0 0,.slice none 0 0,.slice none 0 0]
        have hBr:=below_row hB (g:=w.heap.size) (by omega) #[.int .i64 RC,.int .i64 0,.bool false,.bool false,.int .i64 0,.bool false,.slice none 0 0,.slice none 0 0,.slice none 0 0]
        have hsr:(Tryz.prog.info? 88).map (·.size)=some (#[.int .i64 RC,.int .i64 0,.bool false,.bool false,.int .i64 0,.bool false,.slice none 0 0,.slice none 0 0,.slice none 0 0]:Array Value).size:=sz_res
        go_wp2_with (first | (refine st_row (by kernel_rfl) 88 _ _ rfl _ #[.int .i64 RC,.int .i64 0,.bool false,.bool false,.int .i64 0,.bool false,.slice none 0 0,.slice none 0 0,.slice none 0 0] rfl rfl 88 _ Rb hsr rfl (by simp [Value.oneCell']) ?_))
        obtain ⟨q0,q1,q2,q3,q4,q5,q6,q7,q8⟩:=Rr.cel9
        exact bodyPost_ret (v:=.agg #[.int .i64 RC,.int .i64 0,.bool false,.bool false,.int .i64 0,.bool false,.slice none 0 0,.slice none 0 0,.slice none 0 0]) (by simp [results,Tryz.results54,go_sem,q0,q1,q2,q3,q4,q5,q6,q7,q8]) rfl ⟨inst0,by rw [E1.out.1,E1.out.2.2.1,E1.out.2.2.2.1,E1.out.2.2.2.2.1,E1.out.2.2.2.2.2];rfl,E1.out.2.1.symm,inst0_own _,inst0_nd,fun k hk=>by rw [inst0_ft] at hk;simp at hk,hBr⟩

       case pos=>
        have E1:Hid _:=F0.out hrc
        subst hrc
        clear F6 F0
        have hous:∀ cs,instK.own (X6.setRow w.heap.size cs) q6:=fun cs=>instK.own_out own6 (out_row _ w.heap.size cs) (fun k hk=>by have:=HFT.out k hk;simp only [List.mem_singleton];omega)
        have HQ:Hid (q6.e=E∧(instK.foot q6).Nodup∧(∀ k∈instK.foot q6,w.heap.size≤k)∧∀ cs,instK.own (X6.setRow w.heap.size cs) q6):=⟨by rw [E1.out.2.1];exact HE6.out,nq6,fun k hk=>by have:=HFT.out k hk;omega,hous⟩
        have HD0:Hid (D=0∧K0=0∧K1=true∧K2=CK∧K3=CV):=⟨E1.out.1,E1.out.2.2⟩
        clear E1 HE6 hous nq6 HFT
        obtain ⟨jh,jb,jbs,jr,jrs,jd,jds⟩:=q6
        obtain ⟨j1,u1,rfl⟩:∃ a c,jb=.slice a jbs.length c:=own6.1.shape
        obtain ⟨j2,u2,rfl⟩:∃ a c,jr=.slice a jrs.length c:=own6.2.1.shape
        obtain ⟨j3,u3,rfl⟩:∃ a c,jd=.slice a jds.length c:=own6.2.2.shape
        clear own6
        have Rr:=Rb.row #[.int .i64 0,.int .i64 0,.bool true,.bool CK,.int .i64 CV,.bool jh,.slice j1 jbs.length u1,.slice j2 jrs.length u2,.slice j3 jds.length u3]
        have hBr:=below_row hB (g:=w.heap.size) (Nat.le_refl _) #[.int .i64 0,.int .i64 0,.bool true,.bool CK,.int .i64 CV,.bool jh,.slice j1 jbs.length u1,.slice j2 jrs.length u2,.slice j3 jds.length u3]
        have hsr:(Tryz.prog.info? 88).map (·.size)=some (#[.int .i64 0,.int .i64 0,.bool true,.bool CK,.int .i64 CV,.bool jh,.slice j1 jbs.length u1,.slice j2 jrs.length u2,.slice j3 jds.length u3]:Array Value).size:=sz_res
        obtain ⟨z0,z1,z2,z3⟩:=G6.cel4
        obtain ⟨c0,c1,c2,c3⟩:=BC.cel4
        dsimp only at z0 z1 z2 z3
        go_wp2_with (first | (refine st_row (by kernel_rfl) 88 _ _ rfl _ #[.int .i64 0,.int .i64 0,.bool true,.bool CK,.int .i64 CV,.bool jh,.slice j1 jbs.length u1,.slice j2 jrs.length u2,.slice j3 jds.length u3] rfl rfl 88 _ Rb hsr rfl (by simp [Value.oneCell']) ?_))
        obtain ⟨q0,q1,q2,q3,q4,q5,q6,q7,q8⟩:=Rr.cel9
        exact bodyPost_ret (v:=.agg #[.int .i64 0,.int .i64 0,.bool true,.bool CK,.int .i64 CV,.bool jh,.slice j1 jbs.length u1,.slice j2 jrs.length u2,.slice j3 jds.length u3]) (by simp [results,Tryz.results54,go_sem,q0,q1,q2,q3,q4,q5,q6,q7,q8]) rfl ⟨⟨jh,.slice j1 jbs.length u1,jbs,.slice j2 jrs.length u2,jrs,.slice j3 jds.length u3,jds⟩,by rw [HD0.out.1,HD0.out.2.1,HD0.out.2.2.1,HD0.out.2.2.2.1,HD0.out.2.2.2.2],HQ.out.1,HQ.out.2.2.2 _,HQ.out.2.1,HQ.out.2.2.1,hBr⟩

      | false=>
       simp only [Bool.false_eq_true,if_false] at F0
       have hbA:Below w3.heap.size w3 (w3.alloc (.cells #[.bool qh,.slice s1 qbs.length t1,.slice s2 qrs.length t2,.slice s3 qds.length t3] 28)):=by go_grown
       have Gz:=Blk.new w3 28 #[.bool qh,.slice s1 qbs.length t1,.slice s2 qrs.length t2,.slice s3 qds.length t3]
       replace Rb:=Rb.below hbA
       have c1:=BC.cell 1 _ rfl
       have c3:=BC.cell 3 _ rfl
       replace BC:=BC.below hbA
       have c0:=BC.cell 1 _ rfl
       have c2:=BC.cell 3 _ rfl
       replace hB:=hB.trans (hbA.mono hB.size)
       have own5:=instK.own_out (F:=[]) oq (Out.of_below hbA) (fun _ _=>by simp)
       have L5:=gq
       have M5:=M
       have nq5:=nq
       have hQR:(InstQ.e (⟨qh,.slice s1 qbs.length t1,qbs,.slice s2 qrs.length t2,qrs,.slice s3 qds.length t3,qds⟩:InstQ))=⟨pe.has,pe.batch,pe.rounds,pe.dec⟩:=HED.out
       have hwelQ:Wel (InstQ.e (⟨qh,.slice s1 qbs.length t1,qbs,.slice s2 qrs.length t2,qrs,.slice s3 qds.length t3,qds⟩:InstQ)).rounds:=by rw [hQR];exact hwel
       have h4Q:(InstQ.rounds (⟨qh,.slice s1 qbs.length t1,qbs,.slice s2 qrs.length t2,qrs,.slice s3 qds.length t3,qds⟩:InstQ)).length≤4:=by show qrs.length≤4;have:qrs.length=pe.rounds.length:=hQl;omega
       have h0Q:0 < (InstQ.rounds (⟨qh,.slice s1 qbs.length t1,qbs,.slice s2 qrs.length t2,qrs,.slice s3 qds.length t3,qds⟩:InstQ)).length:=by show 0 < qrs.length;have:qrs.length=pe.rounds.length:=hQl;omega
       have hnxQ:r + 1≤(InstQ.rounds (⟨qh,.slice s1 qbs.length t1,qbs,.slice s2 qrs.length t2,qrs,.slice s3 qds.length t3,qds⟩:InstQ)).length:=by show r + 1≤qrs.length;have:qrs.length=pe.rounds.length:=hQl;omega
       clear hbA oq nq gq M hQE hQl hdq
       go_wp2_with fail
       clear c0 c1 c2 c3
       have hgx:=Gz.lt
       generalize w3.alloc (.cells #[.bool qh,.slice s1 qbs.length t1,.slice s2 qrs.length t2,.slice s3 qds.length t3] 28)=X at *
       have hrep:Calls Tryz.prog 78 #[.pointer (some ⟨w3.heap.size,0,none⟩),.int .i64 (n:Int),.int .i64 ((r:Int) + 1),.int .i64 CV] X _:=l6Report_any w3.heap.size (⟨qh,.slice s1 qbs.length t1,qbs,.slice s2 qrs.length t2,qrs,.slice s3 qds.length t3,qds⟩:InstQ) n (r + 1) CV X Gz own5 nq5 (fun hx=>by have:=M5 _ hx;omega) hwelQ h4Q h0Q hnxQ hn
       refine hrep.mono ?_
       rintro e X6 ⟨q6,rfl,e6,G6,own6,nq6,ft6,hU6⟩
       clear hrep
       have hlow:∀ k∈w3.heap.size :: instK.foot (⟨qh,.slice s1 qbs.length t1,qbs,.slice s2 qrs.length t2,qrs,.slice s3 qds.length t3,qds⟩:InstQ),Y.heap.size≤k:=fun k hk=>by
        rcases List.mem_cons.1 hk with rfl | hk
        ·exact hY3
        ·exact L5 k hk
       replace Rb:Blk X6 w.heap.size 88 _:=(hU6.block _ Rb.lt (fun hx=>by have:=hlow _ hx;omega)).trans Rb
       replace BC:Blk X6 w2.heap.size 86 _:=(hU6.block _ BC.lt (fun hx=>by have:=hlow _ hx;omega)).trans BC
       replace hB:=Out.keep hB hU6 hB.size (fun k hk=>by have:=hlow k hk;omega)
       have HFT:Hid (∀ k∈instK.foot q6,w.heap.size < k):=fun k hk=>by
        rcases ft6 k hk with h | h
        ·have:=L5 k h;omega
        ·omega
       have HE6:Hid (q6.e=_):=e6
       rw [hQR] at HE6
       rw [hQR]
       clear Gz own5 nq5 L5 M5 hlow hU6 ft6 e6 hQR hwelQ
       generalize rpC pe.rounds (r + 1) n=RC at *
       by_cases hrc:RC=0
       case neg=>
        have E1:Hid (D=RC∧E=ine0∧K0=0∧K1=false∧K2=false∧K3=0):=F6.out hrc
        have hrc' : (RC != 0)=true:=by simpa using hrc
        clear F6 F0 hrc
        go_wp2_with fail
        refine (l6Bad_any RC _).mono ?_
        rintro e w8 ⟨rfl,hb8⟩
        replace hB:=hB.trans (hb8.mono hB.size)
        replace Rb:=Rb.below hb8
        clear hb8
        have Rr:=Rb.row #[.int .i64 RC,.int .i64 0,.bool false,.bool false,.int .i64 0,.bool false,.slice none 0 0,.slice none 0 0,.slice none 0 0]
        have hBr:=below_row hB (g:=w.heap.size) (by omega) #[.int .i64 RC,.int .i64 0,.bool false,.bool false,.int .i64 0,.bool false,.slice none 0 0,.slice none 0 0,.slice none 0 0]
        have hsr:(Tryz.prog.info? 88).map (·.size)=some (#[.int .i64 RC,.int .i64 0,.bool false,.bool false,.int .i64 0,.bool false,.slice none 0 0,.slice none 0 0,.slice none 0 0]:Array Value).size:=sz_res
        go_wp2_with (first | (refine st_row (by kernel_rfl) 88 _ _ rfl _ #[.int .i64 RC,.int .i64 0,.bool false,.bool false,.int .i64 0,.bool false,.slice none 0 0,.slice none 0 0,.slice none 0 0] rfl rfl 88 _ Rb hsr rfl (by simp [Value.oneCell']) ?_))
        obtain ⟨q0,q1,q2,q3,q4,q5,q6,q7,q8⟩:=Rr.cel9
        exact bodyPost_ret (v:=.agg #[.int .i64 RC,.int .i64 0,.bool false,.bool false,.int .i64 0,.bool false,.slice none 0 0,.slice none 0 0,.slice none 0 0]) (by simp [results,Tryz.results54,go_sem,q0,q1,q2,q3,q4,q5,q6,q7,q8]) rfl ⟨inst0,by rw [E1.out.1,E1.out.2.2.1,E1.out.2.2.2.1,E1.out.2.2.2.2.1,E1.out.2.2.2.2.2];rfl,E1.out.2.1.symm,inst0_own _,inst0_nd,fun k hk=>by rw [inst0_ft] at hk;simp at hk,hBr⟩

       case pos=>
        have E1:Hid _:=F0.out hrc
        subst hrc
        clear F6 F0
        have hous:∀ cs,instK.own (X6.setRow w.heap.size cs) q6:=fun cs=>instK.own_out own6 (out_row _ w.heap.size cs) (fun k hk=>by have:=HFT.out k hk;simp only [List.mem_singleton];omega)
        have HQ:Hid (q6.e=E∧(instK.foot q6).Nodup∧(∀ k∈instK.foot q6,w.heap.size≤k)∧∀ cs,instK.own (X6.setRow w.heap.size cs) q6):=⟨by rw [E1.out.2.1];exact HE6.out,nq6,fun k hk=>by have:=HFT.out k hk;omega,hous⟩
        have HD0:Hid (D=0∧K0=0∧K1=false∧K2=CK∧K3=CV):=⟨E1.out.1,E1.out.2.2⟩
        clear E1 HE6 hous nq6 HFT
        obtain ⟨jh,jb,jbs,jr,jrs,jd,jds⟩:=q6
        obtain ⟨j1,u1,rfl⟩:∃ a c,jb=.slice a jbs.length c:=own6.1.shape
        obtain ⟨j2,u2,rfl⟩:∃ a c,jr=.slice a jrs.length c:=own6.2.1.shape
        obtain ⟨j3,u3,rfl⟩:∃ a c,jd=.slice a jds.length c:=own6.2.2.shape
        clear own6
        have Rr:=Rb.row #[.int .i64 0,.int .i64 0,.bool false,.bool CK,.int .i64 CV,.bool jh,.slice j1 jbs.length u1,.slice j2 jrs.length u2,.slice j3 jds.length u3]
        have hBr:=below_row hB (g:=w.heap.size) (Nat.le_refl _) #[.int .i64 0,.int .i64 0,.bool false,.bool CK,.int .i64 CV,.bool jh,.slice j1 jbs.length u1,.slice j2 jrs.length u2,.slice j3 jds.length u3]
        have hsr:(Tryz.prog.info? 88).map (·.size)=some (#[.int .i64 0,.int .i64 0,.bool false,.bool CK,.int .i64 CV,.bool jh,.slice j1 jbs.length u1,.slice j2 jrs.length u2,.slice j3 jds.length u3]:Array Value).size:=sz_res
        obtain ⟨z0,z1,z2,z3⟩:=G6.cel4
        obtain ⟨c0,c1,c2,c3⟩:=BC.cel4
        dsimp only at z0 z1 z2 z3
        go_wp2_with (first | (refine st_row (by kernel_rfl) 88 _ _ rfl _ #[.int .i64 0,.int .i64 0,.bool false,.bool CK,.int .i64 CV,.bool jh,.slice j1 jbs.length u1,.slice j2 jrs.length u2,.slice j3 jds.length u3] rfl rfl 88 _ Rb hsr rfl (by simp [Value.oneCell']) ?_))
        obtain ⟨q0,q1,q2,q3,q4,q5,q6,q7,q8⟩:=Rr.cel9
        exact bodyPost_ret (v:=.agg #[.int .i64 0,.int .i64 0,.bool false,.bool CK,.int .i64 CV,.bool jh,.slice j1 jbs.length u1,.slice j2 jrs.length u2,.slice j3 jds.length u3]) (by simp [results,Tryz.results54,go_sem,q0,q1,q2,q3,q4,q5,q6,q7,q8]) rfl ⟨⟨jh,.slice j1 jbs.length u1,jbs,.slice j2 jrs.length u2,jrs,.slice j3 jds.length u3,jds⟩,by rw [HD0.out.1,HD0.out.2.1,HD0.out.2.2.1,HD0.out.2.2.2.1,HD0.out.2.2.2.2],HQ.out.1,HQ.out.2.2.2 _,HQ.out.2.1,HQ.out.2.2.1,hBr⟩

    | false=>
     have e:co=0:=by rw [HCO.out];exact if_pos ⟨hc1,rfl⟩
     subst e
     clear HCO hc1
     go_wp2_with fail
     clear kx ky k0 k1 d0 d1 d2 d3 hq hco'
     refine (hsp _ _ w1 (Ry.below hB)).mono ?_
     rintro e w2 ⟨rfl,hb2⟩
     have hbA:Below w2.heap.size w2 (w2.alloc (.cells #[.int .i64 CC,.bool CD,.bool CK,.int .i64 CV] 86)):=by go_grown
     have BC:=Blk.new w2 86 #[.int .i64 CC,.bool CD,.bool CK,.int .i64 CV]
     have h12:w.heap.size < w2.heap.size:=(Rb.below hb2).lt
     replace Rb:=(Rb.below hb2).below hbA
     replace hB:=hB.trans (hb2.mono hB.size)
     replace hB:=hB.trans (hbA.mono hB.size)
     clear hb2 hsp hbA
     by_cases hcc:CC=0
     case neg=>
      have E1:Hid (D=CC∧E=ine0∧K0=0∧K1=false∧K2=false∧K3=0):=FC.out hcc
      have h0' : (CC != 0)=true:=by simpa using hcc
      clear FC F6 F0 hcc hLE hcp
      go_wp2_with fail
      refine (l6Bad_any CC _).mono ?_
      rintro e w8 ⟨rfl,hb8⟩
      replace hB:=hB.trans (hb8.mono hB.size)
      replace Rb:=Rb.below hb8
      clear hb8
      have Rr:=Rb.row #[.int .i64 CC,.int .i64 0,.bool false,.bool false,.int .i64 0,.bool false,.slice none 0 0,.slice none 0 0,.slice none 0 0]
      have hBr:=below_row hB (g:=w.heap.size) (by omega) #[.int .i64 CC,.int .i64 0,.bool false,.bool false,.int .i64 0,.bool false,.slice none 0 0,.slice none 0 0,.slice none 0 0]
      have hsr:(Tryz.prog.info? 88).map (·.size)=some (#[.int .i64 CC,.int .i64 0,.bool false,.bool false,.int .i64 0,.bool false,.slice none 0 0,.slice none 0 0,.slice none 0 0]:Array Value).size:=sz_res
      go_wp2_with (first | (refine st_row (by kernel_rfl) 88 _ _ rfl _ #[.int .i64 CC,.int .i64 0,.bool false,.bool false,.int .i64 0,.bool false,.slice none 0 0,.slice none 0 0,.slice none 0 0] rfl rfl 88 _ Rb hsr rfl (by simp [Value.oneCell']) ?_))
      obtain ⟨q0,q1,q2,q3,q4,q5,q6,q7,q8⟩:=Rr.cel9
      exact bodyPost_ret (v:=.agg #[.int .i64 CC,.int .i64 0,.bool false,.bool false,.int .i64 0,.bool false,.slice none 0 0,.slice none 0 0,.slice none 0 0]) (by simp [results,Tryz.results54,go_sem,q0,q1,q2,q3,q4,q5,q6,q7,q8]) rfl ⟨inst0,by rw [E1.out.1,E1.out.2.2.1,E1.out.2.2.2.1,E1.out.2.2.2.2.1,E1.out.2.2.2.2.2];rfl,E1.out.2.1.symm,inst0_own _,inst0_nd,fun k hk=>by rw [inst0_ft] at hk;simp at hk,hBr⟩

     case pos=>
      replace F6:Hid _:=F6.out hcc
      replace F0:Hid _:=F0.out hcc
      subst hcc
      clear FC
      have hPW2:=hP.below hB
      obtain ⟨d0,d1,d2,d3⟩:=hPW2.box
      dsimp only at d0 d1 d2 d3
      go_wp2_with fail
      clear d0 d1 d2 d3 hPW2
      have hYY:w2.heap.size < (w2.alloc (.cells #[.int .i64 0,.bool CD,.bool CK,.int .i64 CV] 86)).heap.size:=by simp
      generalize (w2.alloc (.cells #[.int .i64 0,.bool CD,.bool CK,.int .i64 CV] 86))=Y at *
      refine (hcp Y (hrb Y hB)).mono ?_
      rintro e w3 ⟨q,rfl,eq,oq,nq,gq,hb3⟩
      have hY3:Y.heap.size≤w3.heap.size:=hb3.size
      replace Rb:=Rb.below hb3
      replace BC:=BC.below hb3
      replace hB:=hB.trans (hb3.mono hB.size)
      have M:=instK.own_lt oq
      have hQE:q.e.rounds=pe.rounds:=by rw [eq]
      have hQl:q.rounds.length=pe.rounds.length:=by rw [← hQE];exact (List.length_map _).symm
      have HED:Hid (q.e=pe):=eq
      have hdq:q.dec.length=3:=by
       have:q.e.dec=pe.dec:=by rw [eq]
       have h9:q.dec=pe.dec:=this
       rw [h9]
       exact HD3.out
      clear hb3 hcp eq
      obtain ⟨qh,qb,qbs,qr,qrs,qd,qds⟩:=q
      obtain ⟨s1,t1,rfl⟩:∃ a c,qb=.slice a qbs.length c:=oq.1.shape
      obtain ⟨s2,t2,rfl⟩:∃ a c,qr=.slice a qrs.length c:=oq.2.1.shape
      obtain ⟨s3,t3,rfl⟩:∃ a c,qd=.slice a qds.length c:=oq.2.2.shape
      cases CD with
      | true=>
       simp only [if_true] at F0
       obtain ⟨g5,cap5,hv5,hg5,kc,kf,own5,foot5⟩:=own_setD oq nq n (by show n < qds.length;have:qds.length=3:=hdq;omega) CV
       have hdl:qds.length=3:=hdq
       replace hv5:(Value.slice s3 qds.length t3)=.slice (some ⟨g5,0,none⟩) qds.length cap5:=hv5
       simp only [Value.slice.injEq,true_and] at hv5
       obtain ⟨rfl,rfl⟩:=hv5
       have hg5l:Y.heap.size≤g5∧g5 < w3.heap.size:=⟨gq g5 hg5,M g5 hg5⟩
       have hss:(w3.setCell ⟨g5,n,none⟩ (iv CV)).heap.size=w3.heap.size:=by simp
       have hbA:Below (w3.setCell ⟨g5,n,none⟩ (iv CV)).heap.size (w3.setCell ⟨g5,n,none⟩ (iv CV)) ((w3.setCell ⟨g5,n,none⟩ (iv CV)).alloc (.cells #[.bool qh,.slice s1 qbs.length t1,.slice s2 qrs.length t2,.slice (some ⟨g5,0,none⟩) qds.length t3] 28)):=by go_grown
       have Gz:=Blk.new (w3.setCell ⟨g5,n,none⟩ (iv CV)) 28 #[.bool qh,.slice s1 qbs.length t1,.slice s2 qrs.length t2,.slice (some ⟨g5,0,none⟩) qds.length t3]
       rw [hss] at Gz
       replace Rb:=(Rb.other (b' := g5) (by omega) n (iv CV)).below hbA
       have hAl:Below w3.heap.size w3 (w3.alloc (.cells #[.bool qh,.slice s1 qbs.length t1,.slice s2 qrs.length t2,.slice (some ⟨g5,0,none⟩) qds.length t3] 28)):=by go_grown
       have a1:=BC.cell 1 _ rfl
       have a3:=BC.cell 3 _ rfl
       have e1:=cellB a1 hAl
       have e3:=cellB a3 hAl
       clear hAl
       replace BC:=(BC.other (b' := g5) (by omega) n (iv CV)).below hbA
       have hB1:Below w.heap.size w (w3.setCell ⟨g5,n,none⟩ (iv CV)):=hB.setCell (p:=⟨g5,n,none⟩) (by show w.heap.size≤g5;omega) _
       replace hB:=hB1.trans (hbA.mono hB1.size)
       replace own5:=instK.own_out (F:=[]) own5 (Out.of_below hbA) (fun _ _=>by simp)
       have L5:∀ k∈instK.foot (InstQ.setD (⟨qh,.slice s1 qbs.length t1,qbs,.slice s2 qrs.length t2,qrs,.slice (some ⟨g5,0,none⟩) qds.length t3,qds⟩:InstQ) n CV),Y.heap.size≤k:=fun k hk=>by rw [foot5] at hk;exact gq k hk
       have M5:∀ k∈instK.foot (InstQ.setD (⟨qh,.slice s1 qbs.length t1,qbs,.slice s2 qrs.length t2,qrs,.slice (some ⟨g5,0,none⟩) qds.length t3,qds⟩:InstQ) n CV),k < w3.heap.size:=fun k hk=>by rw [foot5] at hk;exact M k hk
       have nq5:(instK.foot (InstQ.setD (⟨qh,.slice s1 qbs.length t1,qbs,.slice s2 qrs.length t2,qrs,.slice (some ⟨g5,0,none⟩) qds.length t3,qds⟩:InstQ) n CV)).Nodup:=by rw [foot5];exact nq
       have hQR:(InstQ.setD (⟨qh,.slice s1 qbs.length t1,qbs,.slice s2 qrs.length t2,qrs,.slice (some ⟨g5,0,none⟩) qds.length t3,qds⟩:InstQ) n CV).e=⟨pe.has,pe.batch,pe.rounds,pe.dec.set n CV⟩:=by rw [setD_e,HED.out]
       have hwelQ:Wel (InstQ.setD (⟨qh,.slice s1 qbs.length t1,qbs,.slice s2 qrs.length t2,qrs,.slice (some ⟨g5,0,none⟩) qds.length t3,qds⟩:InstQ) n CV).e.rounds:=by rw [hQR];exact hwel
       have h4Q:(InstQ.setD (⟨qh,.slice s1 qbs.length t1,qbs,.slice s2 qrs.length t2,qrs,.slice (some ⟨g5,0,none⟩) qds.length t3,qds⟩:InstQ) n CV).rounds.length≤4:=by show qrs.length≤4;have:qrs.length=pe.rounds.length:=hQl;omega
       have h0Q:0 < (InstQ.setD (⟨qh,.slice s1 qbs.length t1,qbs,.slice s2 qrs.length t2,qrs,.slice (some ⟨g5,0,none⟩) qds.length t3,qds⟩:InstQ) n CV).rounds.length:=by show 0 < qrs.length;have:qrs.length=pe.rounds.length:=hQl;omega
       have hnxQ:r + 1≤(InstQ.setD (⟨qh,.slice s1 qbs.length t1,qbs,.slice s2 qrs.length t2,qrs,.slice (some ⟨g5,0,none⟩) qds.length t3,qds⟩:InstQ) n CV).rounds.length:=by show r + 1≤qrs.length;have:qrs.length=pe.rounds.length:=hQl;omega
       obtain ⟨old,kc2⟩:∃ z,w3.cell? ⟨g5,n,none⟩=some (iv z):=⟨_,kc⟩
       obtain ⟨c0,c1,c2,c3⟩:=BC.cel4
       clear kc hbA hB1 foot5 oq nq gq M hQE hdq hQl
       have hn4:(n:Int) < qds.length:=by omega
       clear hdl
       go_wp2_with fail
       clear c0 c1 c2 c3 a1 a3 e1 e3 kc2 kf
       have hgx:=Gz.lt
       generalize (w3.setCell ⟨g5,n,none⟩ (iv CV)).alloc (.cells #[.bool qh,.slice s1 qbs.length t1,.slice s2 qrs.length t2,.slice (some ⟨g5,0,none⟩) qds.length t3] 28)=X at *
       have hrep:Calls Tryz.prog 78 #[.pointer (some ⟨w3.heap.size,0,none⟩),.int .i64 (n:Int),.int .i64 ((r:Int) + 1),.int .i64 CV] X _:=l6Report_any w3.heap.size (InstQ.setD (⟨qh,.slice s1 qbs.length t1,qbs,.slice s2 qrs.length t2,qrs,.slice (some ⟨g5,0,none⟩) qds.length t3,qds⟩:InstQ) n CV) n (r + 1) CV X Gz own5 nq5 (fun hx=>by have:=M5 _ hx;omega) hwelQ h4Q h0Q hnxQ hn
       refine hrep.mono ?_
       rintro e X6 ⟨q6,rfl,e6,G6,own6,nq6,ft6,hU6⟩
       clear hrep
       have hlow:∀ k∈w3.heap.size :: instK.foot (InstQ.setD (⟨qh,.slice s1 qbs.length t1,qbs,.slice s2 qrs.length t2,qrs,.slice (some ⟨g5,0,none⟩) qds.length t3,qds⟩:InstQ) n CV),Y.heap.size≤k:=fun k hk=>by
        rcases List.mem_cons.1 hk with rfl | hk
        ·exact hY3
        ·exact L5 k hk
       replace Rb:Blk X6 w.heap.size 88 _:=(hU6.block _ Rb.lt (fun hx=>by have:=hlow _ hx;omega)).trans Rb
       replace BC:Blk X6 w2.heap.size 86 _:=(hU6.block _ BC.lt (fun hx=>by have:=hlow _ hx;omega)).trans BC
       replace hB:=Out.keep hB hU6 hB.size (fun k hk=>by have:=hlow k hk;omega)
       have HFT:Hid (∀ k∈instK.foot q6,w.heap.size < k):=fun k hk=>by
        rcases ft6 k hk with h | h
        ·have:=L5 k h;omega
        ·omega
       have HE6:Hid (q6.e=_):=e6
       rw [hQR] at HE6
       rw [hQR]
       clear Gz own5 nq5 L5 M5 hlow hU6 ft6 e6 hQR hwelQ
       generalize rpC pe.rounds (r + 1) n=RC at *
       by_cases hrc:RC=0
       case neg=>
        have E1:Hid (D=RC∧E=ine0∧K0=0∧K1=false∧K2=false∧K3=0):=F6.out hrc
        have hrc' : (RC != 0)=true:=by simpa using hrc
        clear F6 F0 hrc
        go_wp2_with fail
        refine (l6Bad_any RC _).mono ?_
        rintro e w8 ⟨rfl,hb8⟩
        replace hB:=hB.trans (hb8.mono hB.size)
        replace Rb:=Rb.below hb8
        clear hb8
        have Rr:=Rb.row #[.int .i64 RC,.int .i64 0,.bool false,.bool false,.int .i64 0,.bool false,.slice none 0 0,.slice none 0 0,.slice none 0 0]
        have hBr:=below_row hB (g:=w.heap.size) (by omega) #[.int .i64 RC,.int .i64 0,.bool false,.bool false,.int .i64 0,.bool false,.slice none 0 0,.slice none 0 0,.slice none 0 0]
        have hsr:(Tryz.prog.info? 88).map (·.size)=some (#[.int .i64 RC,.int .i64 0,.bool false,.bool false,.int .i64 0,.bool false,.slice none 0 0,.slice none 0 0,.slice none 0 0]:Array Value).size:=sz_res
        go_wp2_with (first | (refine st_row (by kernel_rfl) 88 _ _ rfl _ #[.int .i64 RC,.int .i64 0,.bool false,.bool false,.int .i64 0,.bool false,.slice none 0 0,.slice none 0 0,.slice none 0 0] rfl rfl 88 _ Rb hsr rfl (by simp [Value.oneCell']) ?_))
        obtain ⟨q0,q1,q2,q3,q4,q5,q6,q7,q8⟩:=Rr.cel9
        exact bodyPost_ret (v:=.agg #[.int .i64 RC,.int .i64 0,.bool false,.bool false,.int .i64 0,.bool false,.slice none 0 0,.slice none 0 0,.slice none 0 0]) (by simp [results,Tryz.results54,go_sem,q0,q1,q2,q3,q4,q5,q6,q7,q8]) rfl ⟨inst0,by rw [E1.out.1,E1.out.2.2.1,E1.out.2.2.2.1,E1.out.2.2.2.2.1,E1.out.2.2.2.2.2];rfl,E1.out.2.1.symm,inst0_own _,inst0_nd,fun k hk=>by rw [inst0_ft] at hk;simp at hk,hBr⟩

       case pos=>
        have E1:Hid _:=F0.out hrc
        subst hrc
        clear F6 F0
        have hous:∀ cs,instK.own (X6.setRow w.heap.size cs) q6:=fun cs=>instK.own_out own6 (out_row _ w.heap.size cs) (fun k hk=>by have:=HFT.out k hk;simp only [List.mem_singleton];omega)
        have HQ:Hid (q6.e=E∧(instK.foot q6).Nodup∧(∀ k∈instK.foot q6,w.heap.size≤k)∧∀ cs,instK.own (X6.setRow w.heap.size cs) q6):=⟨by rw [E1.out.2.1];exact HE6.out,nq6,fun k hk=>by have:=HFT.out k hk;omega,hous⟩
        have HD0:Hid (D=0∧K0=0∧K1=true∧K2=CK∧K3=CV):=⟨E1.out.1,E1.out.2.2⟩
        clear E1 HE6 hous nq6 HFT
        obtain ⟨jh,jb,jbs,jr,jrs,jd,jds⟩:=q6
        obtain ⟨j1,u1,rfl⟩:∃ a c,jb=.slice a jbs.length c:=own6.1.shape
        obtain ⟨j2,u2,rfl⟩:∃ a c,jr=.slice a jrs.length c:=own6.2.1.shape
        obtain ⟨j3,u3,rfl⟩:∃ a c,jd=.slice a jds.length c:=own6.2.2.shape
        clear own6
        have Rr:=Rb.row #[.int .i64 0,.int .i64 0,.bool true,.bool CK,.int .i64 CV,.bool jh,.slice j1 jbs.length u1,.slice j2 jrs.length u2,.slice j3 jds.length u3]
        have hBr:=below_row hB (g:=w.heap.size) (Nat.le_refl _) #[.int .i64 0,.int .i64 0,.bool true,.bool CK,.int .i64 CV,.bool jh,.slice j1 jbs.length u1,.slice j2 jrs.length u2,.slice j3 jds.length u3]
        have hsr:(Tryz.prog.info? 88).map (·.size)=some (#[.int .i64 0,.int .i64 0,.bool true,.bool CK,.int .i64 CV,.bool jh,.slice j1 jbs.length u1,.slice j2 jrs.length u2,.slice j3 jds.length u3]:Array Value).size:=sz_res
        obtain ⟨z0,z1,z2,z3⟩:=G6.cel4
        obtain ⟨c0,c1,c2,c3⟩:=BC.cel4
        dsimp only at z0 z1 z2 z3
        go_wp2_with (first | (refine st_row (by kernel_rfl) 88 _ _ rfl _ #[.int .i64 0,.int .i64 0,.bool true,.bool CK,.int .i64 CV,.bool jh,.slice j1 jbs.length u1,.slice j2 jrs.length u2,.slice j3 jds.length u3] rfl rfl 88 _ Rb hsr rfl (by simp [Value.oneCell']) ?_))
        obtain ⟨q0,q1,q2,q3,q4,q5,q6,q7,q8⟩:=Rr.cel9
        exact bodyPost_ret (v:=.agg #[.int .i64 0,.int .i64 0,.bool true,.bool CK,.int .i64 CV,.bool jh,.slice j1 jbs.length u1,.slice j2 jrs.length u2,.slice j3 jds.length u3]) (by simp [results,Tryz.results54,go_sem,q0,q1,q2,q3,q4,q5,q6,q7,q8]) rfl ⟨⟨jh,.slice j1 jbs.length u1,jbs,.slice j2 jrs.length u2,jrs,.slice j3 jds.length u3,jds⟩,by rw [HD0.out.1,HD0.out.2.1,HD0.out.2.2.1,HD0.out.2.2.2.1,HD0.out.2.2.2.2],HQ.out.1,HQ.out.2.2.2 _,HQ.out.2.1,HQ.out.2.2.1,hBr⟩

      | false=>
       simp only [Bool.false_eq_true,if_false] at F0
       have hbA:Below w3.heap.size w3 (w3.alloc (.cells #[.bool qh,.slice s1 qbs.length t1,.slice s2 qrs.length t2,.slice s3 qds.length t3] 28)):=by go_grown
       have Gz:=Blk.new w3 28 #[.bool qh,.slice s1 qbs.length t1,.slice s2 qrs.length t2,.slice s3 qds.length t3]
       replace Rb:=Rb.below hbA
       have c1:=BC.cell 1 _ rfl
       have c3:=BC.cell 3 _ rfl
       replace BC:=BC.below hbA
       have c0:=BC.cell 1 _ rfl
       have c2:=BC.cell 3 _ rfl
       replace hB:=hB.trans (hbA.mono hB.size)
       have own5:=instK.own_out (F:=[]) oq (Out.of_below hbA) (fun _ _=>by simp)
       have L5:=gq
       have M5:=M
       have nq5:=nq
       have hQR:(InstQ.e (⟨qh,.slice s1 qbs.length t1,qbs,.slice s2 qrs.length t2,qrs,.slice s3 qds.length t3,qds⟩:InstQ))=⟨pe.has,pe.batch,pe.rounds,pe.dec⟩:=HED.out
       have hwelQ:Wel (InstQ.e (⟨qh,.slice s1 qbs.length t1,qbs,.slice s2 qrs.length t2,qrs,.slice s3 qds.length t3,qds⟩:InstQ)).rounds:=by rw [hQR];exact hwel
       have h4Q:(InstQ.rounds (⟨qh,.slice s1 qbs.length t1,qbs,.slice s2 qrs.length t2,qrs,.slice s3 qds.length t3,qds⟩:InstQ)).length≤4:=by show qrs.length≤4;have:qrs.length=pe.rounds.length:=hQl;omega
       have h0Q:0 < (InstQ.rounds (⟨qh,.slice s1 qbs.length t1,qbs,.slice s2 qrs.length t2,qrs,.slice s3 qds.length t3,qds⟩:InstQ)).length:=by show 0 < qrs.length;have:qrs.length=pe.rounds.length:=hQl;omega
       have hnxQ:r + 1≤(InstQ.rounds (⟨qh,.slice s1 qbs.length t1,qbs,.slice s2 qrs.length t2,qrs,.slice s3 qds.length t3,qds⟩:InstQ)).length:=by show r + 1≤qrs.length;have:qrs.length=pe.rounds.length:=hQl;omega
       clear hbA oq nq gq M hQE hQl hdq
       go_wp2_with fail
       clear c0 c1 c2 c3
       have hgx:=Gz.lt
       generalize w3.alloc (.cells #[.bool qh,.slice s1 qbs.length t1,.slice s2 qrs.length t2,.slice s3 qds.length t3] 28)=X at *
       have hrep:Calls Tryz.prog 78 #[.pointer (some ⟨w3.heap.size,0,none⟩),.int .i64 (n:Int),.int .i64 ((r:Int) + 1),.int .i64 CV] X _:=l6Report_any w3.heap.size (⟨qh,.slice s1 qbs.length t1,qbs,.slice s2 qrs.length t2,qrs,.slice s3 qds.length t3,qds⟩:InstQ) n (r + 1) CV X Gz own5 nq5 (fun hx=>by have:=M5 _ hx;omega) hwelQ h4Q h0Q hnxQ hn
       refine hrep.mono ?_
       rintro e X6 ⟨q6,rfl,e6,G6,own6,nq6,ft6,hU6⟩
       clear hrep
       have hlow:∀ k∈w3.heap.size :: instK.foot (⟨qh,.slice s1 qbs.length t1,qbs,.slice s2 qrs.length t2,qrs,.slice s3 qds.length t3,qds⟩:InstQ),Y.heap.size≤k:=fun k hk=>by
        rcases List.mem_cons.1 hk with rfl | hk
        ·exact hY3
        ·exact L5 k hk
       replace Rb:Blk X6 w.heap.size 88 _:=(hU6.block _ Rb.lt (fun hx=>by have:=hlow _ hx;omega)).trans Rb
       replace BC:Blk X6 w2.heap.size 86 _:=(hU6.block _ BC.lt (fun hx=>by have:=hlow _ hx;omega)).trans BC
       replace hB:=Out.keep hB hU6 hB.size (fun k hk=>by have:=hlow k hk;omega)
       have HFT:Hid (∀ k∈instK.foot q6,w.heap.size < k):=fun k hk=>by
        rcases ft6 k hk with h | h
        ·have:=L5 k h;omega
        ·omega
       have HE6:Hid (q6.e=_):=e6
       rw [hQR] at HE6
       rw [hQR]
       clear Gz own5 nq5 L5 M5 hlow hU6 ft6 e6 hQR hwelQ
       generalize rpC pe.rounds (r + 1) n=RC at *
       by_cases hrc:RC=0
       case neg=>
        have E1:Hid (D=RC∧E=ine0∧K0=0∧K1=false∧K2=false∧K3=0):=F6.out hrc
        have hrc' : (RC != 0)=true:=by simpa using hrc
        clear F6 F0 hrc
        go_wp2_with fail
        refine (l6Bad_any RC _).mono ?_
        rintro e w8 ⟨rfl,hb8⟩
        replace hB:=hB.trans (hb8.mono hB.size)
        replace Rb:=Rb.below hb8
        clear hb8
        have Rr:=Rb.row #[.int .i64 RC,.int .i64 0,.bool false,.bool false,.int .i64 0,.bool false,.slice none 0 0,.slice none 0 0,.slice none 0 0]
        have hBr:=below_row hB (g:=w.heap.size) (by omega) #[.int .i64 RC,.int .i64 0,.bool false,.bool false,.int .i64 0,.bool false,.slice none 0 0,.slice none 0 0,.slice none 0 0]
        have hsr:(Tryz.prog.info? 88).map (·.size)=some (#[.int .i64 RC,.int .i64 0,.bool false,.bool false,.int .i64 0,.bool false,.slice none 0 0,.slice none 0 0,.slice none 0 0]:Array Value).size:=sz_res
        go_wp2_with (first | (refine st_row (by kernel_rfl) 88 _ _ rfl _ #[.int .i64 RC,.int .i64 0,.bool false,.bool false,.int .i64 0,.bool false,.slice none 0 0,.slice none 0 0,.slice none 0 0] rfl rfl 88 _ Rb hsr rfl (by simp [Value.oneCell']) ?_))
        obtain ⟨q0,q1,q2,q3,q4,q5,q6,q7,q8⟩:=Rr.cel9
        exact bodyPost_ret (v:=.agg #[.int .i64 RC,.int .i64 0,.bool false,.bool false,.int .i64 0,.bool false,.slice none 0 0,.slice none 0 0,.slice none 0 0]) (by simp [results,Tryz.results54,go_sem,q0,q1,q2,q3,q4,q5,q6,q7,q8]) rfl ⟨inst0,by rw [E1.out.1,E1.out.2.2.1,E1.out.2.2.2.1,E1.out.2.2.2.2.1,E1.out.2.2.2.2.2];rfl,E1.out.2.1.symm,inst0_own _,inst0_nd,fun k hk=>by rw [inst0_ft] at hk;simp at hk,hBr⟩

       case pos=>
        have E1:Hid _:=F0.out hrc
        subst hrc
        clear F6 F0
        have hous:∀ cs,instK.own (X6.setRow w.heap.size cs) q6:=fun cs=>instK.own_out own6 (out_row _ w.heap.size cs) (fun k hk=>by have:=HFT.out k hk;simp only [List.mem_singleton];omega)
        have HQ:Hid (q6.e=E∧(instK.foot q6).Nodup∧(∀ k∈instK.foot q6,w.heap.size≤k)∧∀ cs,instK.own (X6.setRow w.heap.size cs) q6):=⟨by rw [E1.out.2.1];exact HE6.out,nq6,fun k hk=>by have:=HFT.out k hk;omega,hous⟩
        have HD0:Hid (D=0∧K0=0∧K1=false∧K2=CK∧K3=CV):=⟨E1.out.1,E1.out.2.2⟩
        clear E1 HE6 hous nq6 HFT
        obtain ⟨jh,jb,jbs,jr,jrs,jd,jds⟩:=q6
        obtain ⟨j1,u1,rfl⟩:∃ a c,jb=.slice a jbs.length c:=own6.1.shape
        obtain ⟨j2,u2,rfl⟩:∃ a c,jr=.slice a jrs.length c:=own6.2.1.shape
        obtain ⟨j3,u3,rfl⟩:∃ a c,jd=.slice a jds.length c:=own6.2.2.shape
        clear own6
        have Rr:=Rb.row #[.int .i64 0,.int .i64 0,.bool false,.bool CK,.int .i64 CV,.bool jh,.slice j1 jbs.length u1,.slice j2 jrs.length u2,.slice j3 jds.length u3]
        have hBr:=below_row hB (g:=w.heap.size) (Nat.le_refl _) #[.int .i64 0,.int .i64 0,.bool false,.bool CK,.int .i64 CV,.bool jh,.slice j1 jbs.length u1,.slice j2 jrs.length u2,.slice j3 jds.length u3]
        have hsr:(Tryz.prog.info? 88).map (·.size)=some (#[.int .i64 0,.int .i64 0,.bool false,.bool CK,.int .i64 CV,.bool jh,.slice j1 jbs.length u1,.slice j2 jrs.length u2,.slice j3 jds.length u3]:Array Value).size:=sz_res
        obtain ⟨z0,z1,z2,z3⟩:=G6.cel4
        obtain ⟨c0,c1,c2,c3⟩:=BC.cel4
        dsimp only at z0 z1 z2 z3
        go_wp2_with (first | (refine st_row (by kernel_rfl) 88 _ _ rfl _ #[.int .i64 0,.int .i64 0,.bool false,.bool CK,.int .i64 CV,.bool jh,.slice j1 jbs.length u1,.slice j2 jrs.length u2,.slice j3 jds.length u3] rfl rfl 88 _ Rb hsr rfl (by simp [Value.oneCell']) ?_))
        obtain ⟨q0,q1,q2,q3,q4,q5,q6,q7,q8⟩:=Rr.cel9
        exact bodyPost_ret (v:=.agg #[.int .i64 0,.int .i64 0,.bool false,.bool CK,.int .i64 CV,.bool jh,.slice j1 jbs.length u1,.slice j2 jrs.length u2,.slice j3 jds.length u3]) (by simp [results,Tryz.results54,go_sem,q0,q1,q2,q3,q4,q5,q6,q7,q8]) rfl ⟨⟨jh,.slice j1 jbs.length u1,jbs,.slice j2 jrs.length u2,jrs,.slice j3 jds.length u3,jds⟩,by rw [HD0.out.1,HD0.out.2.1,HD0.out.2.2.1,HD0.out.2.2.2.1,HD0.out.2.2.2.2],HQ.out.1,HQ.out.2.2.2 _,HQ.out.2.1,HQ.out.2.2.1,hBr⟩

   ·have hco' : (coin == 1)=false:=by simpa using hc1
    have e:co=coin:=by rw [HCO.out];exact if_neg (fun h=>hc1 h.1)
    subst e
    clear HCO hc1
    go_wp2_with fail
    clear kx ky k0 k1 d0 d1 d2 d3 hq hco'
    refine (hsp _ _ w1 (Ry.below hB)).mono ?_
    rintro e w2 ⟨rfl,hb2⟩
    have hbA:Below w2.heap.size w2 (w2.alloc (.cells #[.int .i64 CC,.bool CD,.bool CK,.int .i64 CV] 86)):=by go_grown
    have BC:=Blk.new w2 86 #[.int .i64 CC,.bool CD,.bool CK,.int .i64 CV]
    have h12:w.heap.size < w2.heap.size:=(Rb.below hb2).lt
    replace Rb:=(Rb.below hb2).below hbA
    replace hB:=hB.trans (hb2.mono hB.size)
    replace hB:=hB.trans (hbA.mono hB.size)
    clear hb2 hsp hbA
    by_cases hcc:CC=0
    case neg=>
     have E1:Hid (D=CC∧E=ine0∧K0=0∧K1=false∧K2=false∧K3=0):=FC.out hcc
     have h0' : (CC != 0)=true:=by simpa using hcc
     clear FC F6 F0 hcc hLE hcp
     go_wp2_with fail
     refine (l6Bad_any CC _).mono ?_
     rintro e w8 ⟨rfl,hb8⟩
     replace hB:=hB.trans (hb8.mono hB.size)
     replace Rb:=Rb.below hb8
     clear hb8
     have Rr:=Rb.row #[.int .i64 CC,.int .i64 0,.bool false,.bool false,.int .i64 0,.bool false,.slice none 0 0,.slice none 0 0,.slice none 0 0]
     have hBr:=below_row hB (g:=w.heap.size) (by omega) #[.int .i64 CC,.int .i64 0,.bool false,.bool false,.int .i64 0,.bool false,.slice none 0 0,.slice none 0 0,.slice none 0 0]
     have hsr:(Tryz.prog.info? 88).map (·.size)=some (#[.int .i64 CC,.int .i64 0,.bool false,.bool false,.int .i64 0,.bool false,.slice none 0 0,.slice none 0 0,.slice none 0 0]:Array Value).size:=sz_res
     go_wp2_with (first | (refine st_row (by kernel_rfl) 88 _ _ rfl _ #[.int .i64 CC,.int .i64 0,.bool false,.bool false,.int .i64 0,.bool false,.slice none 0 0,.slice none 0 0,.slice none 0 0] rfl rfl 88 _ Rb hsr rfl (by simp [Value.oneCell']) ?_))
     obtain ⟨q0,q1,q2,q3,q4,q5,q6,q7,q8⟩:=Rr.cel9
     exact bodyPost_ret (v:=.agg #[.int .i64 CC,.int .i64 0,.bool false,.bool false,.int .i64 0,.bool false,.slice none 0 0,.slice none 0 0,.slice none 0 0]) (by simp [results,Tryz.results54,go_sem,q0,q1,q2,q3,q4,q5,q6,q7,q8]) rfl ⟨inst0,by rw [E1.out.1,E1.out.2.2.1,E1.out.2.2.2.1,E1.out.2.2.2.2.1,E1.out.2.2.2.2.2];rfl,E1.out.2.1.symm,inst0_own _,inst0_nd,fun k hk=>by rw [inst0_ft] at hk;simp at hk,hBr⟩

    case pos=>
     replace F6:Hid _:=F6.out hcc
     replace F0:Hid _:=F0.out hcc
     subst hcc
     clear FC
     have hPW2:=hP.below hB
     obtain ⟨d0,d1,d2,d3⟩:=hPW2.box
     dsimp only at d0 d1 d2 d3
     go_wp2_with fail
     clear d0 d1 d2 d3 hPW2
     have hYY:w2.heap.size < (w2.alloc (.cells #[.int .i64 0,.bool CD,.bool CK,.int .i64 CV] 86)).heap.size:=by simp
     generalize (w2.alloc (.cells #[.int .i64 0,.bool CD,.bool CK,.int .i64 CV] 86))=Y at *
     refine (hcp Y (hrb Y hB)).mono ?_
     rintro e w3 ⟨q,rfl,eq,oq,nq,gq,hb3⟩
     have hY3:Y.heap.size≤w3.heap.size:=hb3.size
     replace Rb:=Rb.below hb3
     replace BC:=BC.below hb3
     replace hB:=hB.trans (hb3.mono hB.size)
     have M:=instK.own_lt oq
     have hQE:q.e.rounds=pe.rounds:=by rw [eq]
     have hQl:q.rounds.length=pe.rounds.length:=by rw [← hQE];exact (List.length_map _).symm
     have HED:Hid (q.e=pe):=eq
     have hdq:q.dec.length=3:=by
      have:q.e.dec=pe.dec:=by rw [eq]
      have h9:q.dec=pe.dec:=this
      rw [h9]
      exact HD3.out
     clear hb3 hcp eq
     obtain ⟨qh,qb,qbs,qr,qrs,qd,qds⟩:=q
     obtain ⟨s1,t1,rfl⟩:∃ a c,qb=.slice a qbs.length c:=oq.1.shape
     obtain ⟨s2,t2,rfl⟩:∃ a c,qr=.slice a qrs.length c:=oq.2.1.shape
     obtain ⟨s3,t3,rfl⟩:∃ a c,qd=.slice a qds.length c:=oq.2.2.shape
     cases CD with
     | true=>
      simp only [if_true] at F0
      obtain ⟨g5,cap5,hv5,hg5,kc,kf,own5,foot5⟩:=own_setD oq nq n (by show n < qds.length;have:qds.length=3:=hdq;omega) CV
      have hdl:qds.length=3:=hdq
      replace hv5:(Value.slice s3 qds.length t3)=.slice (some ⟨g5,0,none⟩) qds.length cap5:=hv5
      simp only [Value.slice.injEq,true_and] at hv5
      obtain ⟨rfl,rfl⟩:=hv5
      have hg5l:Y.heap.size≤g5∧g5 < w3.heap.size:=⟨gq g5 hg5,M g5 hg5⟩
      have hss:(w3.setCell ⟨g5,n,none⟩ (iv CV)).heap.size=w3.heap.size:=by simp
      have hbA:Below (w3.setCell ⟨g5,n,none⟩ (iv CV)).heap.size (w3.setCell ⟨g5,n,none⟩ (iv CV)) ((w3.setCell ⟨g5,n,none⟩ (iv CV)).alloc (.cells #[.bool qh,.slice s1 qbs.length t1,.slice s2 qrs.length t2,.slice (some ⟨g5,0,none⟩) qds.length t3] 28)):=by go_grown
      have Gz:=Blk.new (w3.setCell ⟨g5,n,none⟩ (iv CV)) 28 #[.bool qh,.slice s1 qbs.length t1,.slice s2 qrs.length t2,.slice (some ⟨g5,0,none⟩) qds.length t3]
      rw [hss] at Gz
      replace Rb:=(Rb.other (b' := g5) (by omega) n (iv CV)).below hbA
      have hAl:Below w3.heap.size w3 (w3.alloc (.cells #[.bool qh,.slice s1 qbs.length t1,.slice s2 qrs.length t2,.slice (some ⟨g5,0,none⟩) qds.length t3] 28)):=by go_grown
      have a1:=BC.cell 1 _ rfl
      have a3:=BC.cell 3 _ rfl
      have e1:=cellB a1 hAl
      have e3:=cellB a3 hAl
      clear hAl
      replace BC:=(BC.other (b' := g5) (by omega) n (iv CV)).below hbA
      have hB1:Below w.heap.size w (w3.setCell ⟨g5,n,none⟩ (iv CV)):=hB.setCell (p:=⟨g5,n,none⟩) (by show w.heap.size≤g5;omega) _
      replace hB:=hB1.trans (hbA.mono hB1.size)
      replace own5:=instK.own_out (F:=[]) own5 (Out.of_below hbA) (fun _ _=>by simp)
      have L5:∀ k∈instK.foot (InstQ.setD (⟨qh,.slice s1 qbs.length t1,qbs,.slice s2 qrs.length t2,qrs,.slice (some ⟨g5,0,none⟩) qds.length t3,qds⟩:InstQ) n CV),Y.heap.size≤k:=fun k hk=>by rw [foot5] at hk;exact gq k hk
      have M5:∀ k∈instK.foot (InstQ.setD (⟨qh,.slice s1 qbs.length t1,qbs,.slice s2 qrs.length t2,qrs,.slice (some ⟨g5,0,none⟩) qds.length t3,qds⟩:InstQ) n CV),k < w3.heap.size:=fun k hk=>by rw [foot5] at hk;exact M k hk
      have nq5:(instK.foot (InstQ.setD (⟨qh,.slice s1 qbs.length t1,qbs,.slice s2 qrs.length t2,qrs,.slice (some ⟨g5,0,none⟩) qds.length t3,qds⟩:InstQ) n CV)).Nodup:=by rw [foot5];exact nq
      have hQR:(InstQ.setD (⟨qh,.slice s1 qbs.length t1,qbs,.slice s2 qrs.length t2,qrs,.slice (some ⟨g5,0,none⟩) qds.length t3,qds⟩:InstQ) n CV).e=⟨pe.has,pe.batch,pe.rounds,pe.dec.set n CV⟩:=by rw [setD_e,HED.out]
      have hwelQ:Wel (InstQ.setD (⟨qh,.slice s1 qbs.length t1,qbs,.slice s2 qrs.length t2,qrs,.slice (some ⟨g5,0,none⟩) qds.length t3,qds⟩:InstQ) n CV).e.rounds:=by rw [hQR];exact hwel
      have h4Q:(InstQ.setD (⟨qh,.slice s1 qbs.length t1,qbs,.slice s2 qrs.length t2,qrs,.slice (some ⟨g5,0,none⟩) qds.length t3,qds⟩:InstQ) n CV).rounds.length≤4:=by show qrs.length≤4;have:qrs.length=pe.rounds.length:=hQl;omega
      have h0Q:0 < (InstQ.setD (⟨qh,.slice s1 qbs.length t1,qbs,.slice s2 qrs.length t2,qrs,.slice (some ⟨g5,0,none⟩) qds.length t3,qds⟩:InstQ) n CV).rounds.length:=by show 0 < qrs.length;have:qrs.length=pe.rounds.length:=hQl;omega
      have hnxQ:r + 1≤(InstQ.setD (⟨qh,.slice s1 qbs.length t1,qbs,.slice s2 qrs.length t2,qrs,.slice (some ⟨g5,0,none⟩) qds.length t3,qds⟩:InstQ) n CV).rounds.length:=by show r + 1≤qrs.length;have:qrs.length=pe.rounds.length:=hQl;omega
      obtain ⟨old,kc2⟩:∃ z,w3.cell? ⟨g5,n,none⟩=some (iv z):=⟨_,kc⟩
      obtain ⟨c0,c1,c2,c3⟩:=BC.cel4
      clear kc hbA hB1 foot5 oq nq gq M hQE hdq hQl
      have hn4:(n:Int) < qds.length:=by omega
      clear hdl
      go_wp2_with fail
      clear c0 c1 c2 c3 a1 a3 e1 e3 kc2 kf
      have hgx:=Gz.lt
      generalize (w3.setCell ⟨g5,n,none⟩ (iv CV)).alloc (.cells #[.bool qh,.slice s1 qbs.length t1,.slice s2 qrs.length t2,.slice (some ⟨g5,0,none⟩) qds.length t3] 28)=X at *
      have hrep:Calls Tryz.prog 78 #[.pointer (some ⟨w3.heap.size,0,none⟩),.int .i64 (n:Int),.int .i64 ((r:Int) + 1),.int .i64 CV] X _:=l6Report_any w3.heap.size (InstQ.setD (⟨qh,.slice s1 qbs.length t1,qbs,.slice s2 qrs.length t2,qrs,.slice (some ⟨g5,0,none⟩) qds.length t3,qds⟩:InstQ) n CV) n (r + 1) CV X Gz own5 nq5 (fun hx=>by have:=M5 _ hx;omega) hwelQ h4Q h0Q hnxQ hn
      refine hrep.mono ?_
      rintro e X6 ⟨q6,rfl,e6,G6,own6,nq6,ft6,hU6⟩
      clear hrep
      have hlow:∀ k∈w3.heap.size :: instK.foot (InstQ.setD (⟨qh,.slice s1 qbs.length t1,qbs,.slice s2 qrs.length t2,qrs,.slice (some ⟨g5,0,none⟩) qds.length t3,qds⟩:InstQ) n CV),Y.heap.size≤k:=fun k hk=>by
       rcases List.mem_cons.1 hk with rfl | hk
       ·exact hY3
       ·exact L5 k hk
      replace Rb:Blk X6 w.heap.size 88 _:=(hU6.block _ Rb.lt (fun hx=>by have:=hlow _ hx;omega)).trans Rb
      replace BC:Blk X6 w2.heap.size 86 _:=(hU6.block _ BC.lt (fun hx=>by have:=hlow _ hx;omega)).trans BC
      replace hB:=Out.keep hB hU6 hB.size (fun k hk=>by have:=hlow k hk;omega)
      have HFT:Hid (∀ k∈instK.foot q6,w.heap.size < k):=fun k hk=>by
       rcases ft6 k hk with h | h
       ·have:=L5 k h;omega
       ·omega
      have HE6:Hid (q6.e=_):=e6
      rw [hQR] at HE6
      rw [hQR]
      clear Gz own5 nq5 L5 M5 hlow hU6 ft6 e6 hQR hwelQ
      generalize rpC pe.rounds (r + 1) n=RC at *
      by_cases hrc:RC=0
      case neg=>
       have E1:Hid (D=RC∧E=ine0∧K0=0∧K1=false∧K2=false∧K3=0):=F6.out hrc
       have hrc' : (RC != 0)=true:=by simpa using hrc
       clear F6 F0 hrc
       go_wp2_with fail
       refine (l6Bad_any RC _).mono ?_
       rintro e w8 ⟨rfl,hb8⟩
       replace hB:=hB.trans (hb8.mono hB.size)
       replace Rb:=Rb.below hb8
       clear hb8
       have Rr:=Rb.row #[.int .i64 RC,.int .i64 0,.bool false,.bool false,.int .i64 0,.bool false,.slice none 0 0,.slice none 0 0,.slice none 0 0]
       have hBr:=below_row hB (g:=w.heap.size) (by omega) #[.int .i64 RC,.int .i64 0,.bool false,.bool false,.int .i64 0,.bool false,.slice none 0 0,.slice none 0 0,.slice none 0 0]
       have hsr:(Tryz.prog.info? 88).map (·.size)=some (#[.int .i64 RC,.int .i64 0,.bool false,.bool false,.int .i64 0,.bool false,.slice none 0 0,.slice none 0 0,.slice none 0 0]:Array Value).size:=sz_res
       go_wp2_with (first | (refine st_row (by kernel_rfl) 88 _ _ rfl _ #[.int .i64 RC,.int .i64 0,.bool false,.bool false,.int .i64 0,.bool false,.slice none 0 0,.slice none 0 0,.slice none 0 0] rfl rfl 88 _ Rb hsr rfl (by simp [Value.oneCell']) ?_))
       obtain ⟨q0,q1,q2,q3,q4,q5,q6,q7,q8⟩:=Rr.cel9
       exact bodyPost_ret (v:=.agg #[.int .i64 RC,.int .i64 0,.bool false,.bool false,.int .i64 0,.bool false,.slice none 0 0,.slice none 0 0,.slice none 0 0]) (by simp [results,Tryz.results54,go_sem,q0,q1,q2,q3,q4,q5,q6,q7,q8]) rfl ⟨inst0,by rw [E1.out.1,E1.out.2.2.1,E1.out.2.2.2.1,E1.out.2.2.2.2.1,E1.out.2.2.2.2.2];rfl,E1.out.2.1.symm,inst0_own _,inst0_nd,fun k hk=>by rw [inst0_ft] at hk;simp at hk,hBr⟩

      case pos=>
       have E1:Hid _:=F0.out hrc
       subst hrc
       clear F6 F0
       have hous:∀ cs,instK.own (X6.setRow w.heap.size cs) q6:=fun cs=>instK.own_out own6 (out_row _ w.heap.size cs) (fun k hk=>by have:=HFT.out k hk;simp only [List.mem_singleton];omega)
       have HQ:Hid (q6.e=E∧(instK.foot q6).Nodup∧(∀ k∈instK.foot q6,w.heap.size≤k)∧∀ cs,instK.own (X6.setRow w.heap.size cs) q6):=⟨by rw [E1.out.2.1];exact HE6.out,nq6,fun k hk=>by have:=HFT.out k hk;omega,hous⟩
       have HD0:Hid (D=0∧K0=0∧K1=true∧K2=CK∧K3=CV):=⟨E1.out.1,E1.out.2.2⟩
       clear E1 HE6 hous nq6 HFT
       obtain ⟨jh,jb,jbs,jr,jrs,jd,jds⟩:=q6
       obtain ⟨j1,u1,rfl⟩:∃ a c,jb=.slice a jbs.length c:=own6.1.shape
       obtain ⟨j2,u2,rfl⟩:∃ a c,jr=.slice a jrs.length c:=own6.2.1.shape
       obtain ⟨j3,u3,rfl⟩:∃ a c,jd=.slice a jds.length c:=own6.2.2.shape
       clear own6
       have Rr:=Rb.row #[.int .i64 0,.int .i64 0,.bool true,.bool CK,.int .i64 CV,.bool jh,.slice j1 jbs.length u1,.slice j2 jrs.length u2,.slice j3 jds.length u3]
       have hBr:=below_row hB (g:=w.heap.size) (Nat.le_refl _) #[.int .i64 0,.int .i64 0,.bool true,.bool CK,.int .i64 CV,.bool jh,.slice j1 jbs.length u1,.slice j2 jrs.length u2,.slice j3 jds.length u3]
       have hsr:(Tryz.prog.info? 88).map (·.size)=some (#[.int .i64 0,.int .i64 0,.bool true,.bool CK,.int .i64 CV,.bool jh,.slice j1 jbs.length u1,.slice j2 jrs.length u2,.slice j3 jds.length u3]:Array Value).size:=sz_res
       obtain ⟨z0,z1,z2,z3⟩:=G6.cel4
       obtain ⟨c0,c1,c2,c3⟩:=BC.cel4
       dsimp only at z0 z1 z2 z3
       go_wp2_with (first | (refine st_row (by kernel_rfl) 88 _ _ rfl _ #[.int .i64 0,.int .i64 0,.bool true,.bool CK,.int .i64 CV,.bool jh,.slice j1 jbs.length u1,.slice j2 jrs.length u2,.slice j3 jds.length u3] rfl rfl 88 _ Rb hsr rfl (by simp [Value.oneCell']) ?_))
       obtain ⟨q0,q1,q2,q3,q4,q5,q6,q7,q8⟩:=Rr.cel9
       exact bodyPost_ret (v:=.agg #[.int .i64 0,.int .i64 0,.bool true,.bool CK,.int .i64 CV,.bool jh,.slice j1 jbs.length u1,.slice j2 jrs.length u2,.slice j3 jds.length u3]) (by simp [results,Tryz.results54,go_sem,q0,q1,q2,q3,q4,q5,q6,q7,q8]) rfl ⟨⟨jh,.slice j1 jbs.length u1,jbs,.slice j2 jrs.length u2,jrs,.slice j3 jds.length u3,jds⟩,by rw [HD0.out.1,HD0.out.2.1,HD0.out.2.2.1,HD0.out.2.2.2.1,HD0.out.2.2.2.2],HQ.out.1,HQ.out.2.2.2 _,HQ.out.2.1,HQ.out.2.2.1,hBr⟩

     | false=>
      simp only [Bool.false_eq_true,if_false] at F0
      have hbA:Below w3.heap.size w3 (w3.alloc (.cells #[.bool qh,.slice s1 qbs.length t1,.slice s2 qrs.length t2,.slice s3 qds.length t3] 28)):=by go_grown
      have Gz:=Blk.new w3 28 #[.bool qh,.slice s1 qbs.length t1,.slice s2 qrs.length t2,.slice s3 qds.length t3]
      replace Rb:=Rb.below hbA
      have c1:=BC.cell 1 _ rfl
      have c3:=BC.cell 3 _ rfl
      replace BC:=BC.below hbA
      have c0:=BC.cell 1 _ rfl
      have c2:=BC.cell 3 _ rfl
      replace hB:=hB.trans (hbA.mono hB.size)
      have own5:=instK.own_out (F:=[]) oq (Out.of_below hbA) (fun _ _=>by simp)
      have L5:=gq
      have M5:=M
      have nq5:=nq
      have hQR:(InstQ.e (⟨qh,.slice s1 qbs.length t1,qbs,.slice s2 qrs.length t2,qrs,.slice s3 qds.length t3,qds⟩:InstQ))=⟨pe.has,pe.batch,pe.rounds,pe.dec⟩:=HED.out
      have hwelQ:Wel (InstQ.e (⟨qh,.slice s1 qbs.length t1,qbs,.slice s2 qrs.length t2,qrs,.slice s3 qds.length t3,qds⟩:InstQ)).rounds:=by rw [hQR];exact hwel
      have h4Q:(InstQ.rounds (⟨qh,.slice s1 qbs.length t1,qbs,.slice s2 qrs.length t2,qrs,.slice s3 qds.length t3,qds⟩:InstQ)).length≤4:=by show qrs.length≤4;have:qrs.length=pe.rounds.length:=hQl;omega
      have h0Q:0 < (InstQ.rounds (⟨qh,.slice s1 qbs.length t1,qbs,.slice s2 qrs.length t2,qrs,.slice s3 qds.length t3,qds⟩:InstQ)).length:=by show 0 < qrs.length;have:qrs.length=pe.rounds.length:=hQl;omega
      have hnxQ:r + 1≤(InstQ.rounds (⟨qh,.slice s1 qbs.length t1,qbs,.slice s2 qrs.length t2,qrs,.slice s3 qds.length t3,qds⟩:InstQ)).length:=by show r + 1≤qrs.length;have:qrs.length=pe.rounds.length:=hQl;omega
      clear hbA oq nq gq M hQE hQl hdq
      go_wp2_with fail
      clear c0 c1 c2 c3
      have hgx:=Gz.lt
      generalize w3.alloc (.cells #[.bool qh,.slice s1 qbs.length t1,.slice s2 qrs.length t2,.slice s3 qds.length t3] 28)=X at *
      have hrep:Calls Tryz.prog 78 #[.pointer (some ⟨w3.heap.size,0,none⟩),.int .i64 (n:Int),.int .i64 ((r:Int) + 1),.int .i64 CV] X _:=l6Report_any w3.heap.size (⟨qh,.slice s1 qbs.length t1,qbs,.slice s2 qrs.length t2,qrs,.slice s3 qds.length t3,qds⟩:InstQ) n (r + 1) CV X Gz own5 nq5 (fun hx=>by have:=M5 _ hx;omega) hwelQ h4Q h0Q hnxQ hn
      refine hrep.mono ?_
      rintro e X6 ⟨q6,rfl,e6,G6,own6,nq6,ft6,hU6⟩
      clear hrep
      have hlow:∀ k∈w3.heap.size :: instK.foot (⟨qh,.slice s1 qbs.length t1,qbs,.slice s2 qrs.length t2,qrs,.slice s3 qds.length t3,qds⟩:InstQ),Y.heap.size≤k:=fun k hk=>by
       rcases List.mem_cons.1 hk with rfl | hk
       ·exact hY3
       ·exact L5 k hk
      replace Rb:Blk X6 w.heap.size 88 _:=(hU6.block _ Rb.lt (fun hx=>by have:=hlow _ hx;omega)).trans Rb
      replace BC:Blk X6 w2.heap.size 86 _:=(hU6.block _ BC.lt (fun hx=>by have:=hlow _ hx;omega)).trans BC
      replace hB:=Out.keep hB hU6 hB.size (fun k hk=>by have:=hlow k hk;omega)
      have HFT:Hid (∀ k∈instK.foot q6,w.heap.size < k):=fun k hk=>by
       rcases ft6 k hk with h | h
       ·have:=L5 k h;omega
       ·omega
      have HE6:Hid (q6.e=_):=e6
      rw [hQR] at HE6
      rw [hQR]
      clear Gz own5 nq5 L5 M5 hlow hU6 ft6 e6 hQR hwelQ
      generalize rpC pe.rounds (r + 1) n=RC at *
      by_cases hrc:RC=0
      case neg=>
       have E1:Hid (D=RC∧E=ine0∧K0=0∧K1=false∧K2=false∧K3=0):=F6.out hrc
       have hrc' : (RC != 0)=true:=by simpa using hrc
       clear F6 F0 hrc
       go_wp2_with fail
       refine (l6Bad_any RC _).mono ?_
       rintro e w8 ⟨rfl,hb8⟩
       replace hB:=hB.trans (hb8.mono hB.size)
       replace Rb:=Rb.below hb8
       clear hb8
       have Rr:=Rb.row #[.int .i64 RC,.int .i64 0,.bool false,.bool false,.int .i64 0,.bool false,.slice none 0 0,.slice none 0 0,.slice none 0 0]
       have hBr:=below_row hB (g:=w.heap.size) (by omega) #[.int .i64 RC,.int .i64 0,.bool false,.bool false,.int .i64 0,.bool false,.slice none 0 0,.slice none 0 0,.slice none 0 0]
       have hsr:(Tryz.prog.info? 88).map (·.size)=some (#[.int .i64 RC,.int .i64 0,.bool false,.bool false,.int .i64 0,.bool false,.slice none 0 0,.slice none 0 0,.slice none 0 0]:Array Value).size:=sz_res
       go_wp2_with (first | (refine st_row (by kernel_rfl) 88 _ _ rfl _ #[.int .i64 RC,.int .i64 0,.bool false,.bool false,.int .i64 0,.bool false,.slice none 0 0,.slice none 0 0,.slice none 0 0] rfl rfl 88 _ Rb hsr rfl (by simp [Value.oneCell']) ?_))
       obtain ⟨q0,q1,q2,q3,q4,q5,q6,q7,q8⟩:=Rr.cel9
       exact bodyPost_ret (v:=.agg #[.int .i64 RC,.int .i64 0,.bool false,.bool false,.int .i64 0,.bool false,.slice none 0 0,.slice none 0 0,.slice none 0 0]) (by simp [results,Tryz.results54,go_sem,q0,q1,q2,q3,q4,q5,q6,q7,q8]) rfl ⟨inst0,by rw [E1.out.1,E1.out.2.2.1,E1.out.2.2.2.1,E1.out.2.2.2.2.1,E1.out.2.2.2.2.2];rfl,E1.out.2.1.symm,inst0_own _,inst0_nd,fun k hk=>by rw [inst0_ft] at hk;simp at hk,hBr⟩

      case pos=>
       have E1:Hid _:=F0.out hrc
       subst hrc
       clear F6 F0
       have hous:∀ cs,instK.own (X6.setRow w.heap.size cs) q6:=fun cs=>instK.own_out own6 (out_row _ w.heap.size cs) (fun k hk=>by have:=HFT.out k hk;simp only [List.mem_singleton];omega)
       have HQ:Hid (q6.e=E∧(instK.foot q6).Nodup∧(∀ k∈instK.foot q6,w.heap.size≤k)∧∀ cs,instK.own (X6.setRow w.heap.size cs) q6):=⟨by rw [E1.out.2.1];exact HE6.out,nq6,fun k hk=>by have:=HFT.out k hk;omega,hous⟩
       have HD0:Hid (D=0∧K0=0∧K1=false∧K2=CK∧K3=CV):=⟨E1.out.1,E1.out.2.2⟩
       clear E1 HE6 hous nq6 HFT
       obtain ⟨jh,jb,jbs,jr,jrs,jd,jds⟩:=q6
       obtain ⟨j1,u1,rfl⟩:∃ a c,jb=.slice a jbs.length c:=own6.1.shape
       obtain ⟨j2,u2,rfl⟩:∃ a c,jr=.slice a jrs.length c:=own6.2.1.shape
       obtain ⟨j3,u3,rfl⟩:∃ a c,jd=.slice a jds.length c:=own6.2.2.shape
       clear own6
       have Rr:=Rb.row #[.int .i64 0,.int .i64 0,.bool false,.bool CK,.int .i64 CV,.bool jh,.slice j1 jbs.length u1,.slice j2 jrs.length u2,.slice j3 jds.length u3]
       have hBr:=below_row hB (g:=w.heap.size) (Nat.le_refl _) #[.int .i64 0,.int .i64 0,.bool false,.bool CK,.int .i64 CV,.bool jh,.slice j1 jbs.length u1,.slice j2 jrs.length u2,.slice j3 jds.length u3]
       have hsr:(Tryz.prog.info? 88).map (·.size)=some (#[.int .i64 0,.int .i64 0,.bool false,.bool CK,.int .i64 CV,.bool jh,.slice j1 jbs.length u1,.slice j2 jrs.length u2,.slice j3 jds.length u3]:Array Value).size:=sz_res
       obtain ⟨z0,z1,z2,z3⟩:=G6.cel4
       obtain ⟨c0,c1,c2,c3⟩:=BC.cel4
       dsimp only at z0 z1 z2 z3
       go_wp2_with (first | (refine st_row (by kernel_rfl) 88 _ _ rfl _ #[.int .i64 0,.int .i64 0,.bool false,.bool CK,.int .i64 CV,.bool jh,.slice j1 jbs.length u1,.slice j2 jrs.length u2,.slice j3 jds.length u3] rfl rfl 88 _ Rb hsr rfl (by simp [Value.oneCell']) ?_))
       obtain ⟨q0,q1,q2,q3,q4,q5,q6,q7,q8⟩:=Rr.cel9
       exact bodyPost_ret (v:=.agg #[.int .i64 0,.int .i64 0,.bool false,.bool CK,.int .i64 CV,.bool jh,.slice j1 jbs.length u1,.slice j2 jrs.length u2,.slice j3 jds.length u3]) (by simp [results,Tryz.results54,go_sem,q0,q1,q2,q3,q4,q5,q6,q7,q8]) rfl ⟨⟨jh,.slice j1 jbs.length u1,jbs,.slice j2 jrs.length u2,jrs,.slice j3 jds.length u3,jds⟩,by rw [HD0.out.1,HD0.out.2.1,HD0.out.2.2.1,HD0.out.2.2.2.1,HD0.out.2.2.2.2],HQ.out.1,HQ.out.2.2.2 _,HQ.out.2.1,HQ.out.2.2.1,hBr⟩

end Go.Proofs.YtnnenkoeklabpaaGreatDoor
