/- Texts joined, with what the laws reach alone. -/
import Derived.Test.YtjjoahhnkpjolaaGreatDoorCFAM
set_option linter.unusedVariables false
set_option linter.unusedSimpArgs false
namespace Go.Proofs.YtjjoahhnkpjolaaGreatDoor
open Go.RowKit
open Go.BigFrame
set_option maxRecDepth 100000
theorem infoInstance:(Tryz.prog.info? 89).map (fun i=>(i.zero,i.size,i.bytes))=some (some (.agg #[.bool false,.slice none 0 0,.slice none 0 0,.slice none 0 0]),4,80):=by kernel_rfl

set_option maxHeartbeats 1000000 in
theorem szInstances_k (v:Value) (ps:List InstQ) (c:Int) (w:World) (h:instK.At w v ps) (hn:ps.length≤9223372036854775807) (hn1:∀ p∈ps,InstQ.wf p) (h0:0≤c) (h1:c≤1048576) :
  Calls Tryz.prog 20 #[v,.int .i64 c] w fun e w' => ∃ r:Int,e=.returned (.int .i64 r)∧(¬ r < 0→((ps.length + nmL InstQ.n ps:Nat):Int) + r=c)∧Below w.heap.size w w' := by
 obtain ⟨a,cap,rfl⟩:=h.shape
 by_cases hbig:c - ps.length < 0
 ·go_enter Tryz.func20,Tryz.ntmps20
  go_wp2
  go_ret
  exact ⟨_,rfl,fun h=>by omega,Below.refl _ _⟩
 ·go_enter Tryz.func20,Tryz.ntmps20
  go_wp2
  go_loopw [1,5] (fun l i wr=>∃ (k:Nat) (x:Int),k≤ps.length∧i=.int .i64 k∧l=.int .i64 x∧0≤x∧x≤1048576∧Hid (ps.length + nmL InstQ.n (ps.take k) + x=c)∧Below w.heap.size w wr) (fun _ i _=>ps.length - (intOf i).toNat)
  case atStart=>exact ⟨0,c - ps.length,Nat.zero_le _,rfl,by go_num,by omega,by omega,show _=_ by simp [nmL];omega,Below.refl _ _⟩
  case round=>
   obtain ⟨k,x,hk,rfl,rfl,hx0,hx1,HS,hb⟩:=hrel
   by_cases hlt:k < ps.length
   ·obtain ⟨b,off,rfl,hbs,hc,hrd⟩:=(h.below hb).cell (by decide) k hlt
    have hc' : ∀ j x,(instK.cells ps[k])[j]? = some x→wr.cell? ⟨b,off + k * 4 + j,none⟩=some x:=hc
    have c0:=hc' 0 (.bool ps[k].has) rfl
    have c1:=hc' 1 (ps[k].vb) rfl
    have c2:=hc' 2 (ps[k].vr) rfl
    have c3:=hc' 3 (ps[k].vd) rfl
    have hs:=nmL_succ InstQ.n ps k hlt
    have HN:=hn1 _ (List.getElem_mem hlt)
    have HS' : Hid (∀ y:Int,(InstQ.n ps[k]:Int) + y=x→ps.length + nmL InstQ.n (ps.take (k + 1)) + y=c):=by
     intro y hy
     have:=HS.out
     omega
    clear HS hs hc hc'
    generalize ps[k]=p at *
    have hsz:=szInstance_k p x wr hrd HN hx0 hx1
    generalize InstQ.n p=m at *
    rw [Nat.add_zero] at c0
    go_wp2_with fail
    refine hsz.mono ?_
    rintro e w2 ⟨r,rfl,hr,hb2⟩
    replace hb:=hb.trans (hb2.mono hb.size)
    clear hb2 hsz c0 c1 c2 c3
    by_cases hneg:r < 0
    ·go_wp2
     go_ret
     exact ⟨_,rfl,fun h=>by omega,hb⟩
    ·have hrx:=hr (by omega)
     have HR:Hid (ps.length + nmL InstQ.n (ps.take (k + 1)) + r=c):=HS'.out r hrx
     have hr1:r≤1048576:=by omega
     clear HS' hr hrx
     go_wp2
     go_roundw
     case rel=>exact ⟨k + 1,r,by omega,by go_num,rfl,by omega,hr1,HR.out,hb⟩
     case measure=>simp [intOf];omega
   ·have hkl:k=ps.length:=by omega
    subst hkl
    rw [List.take_length] at HS
    go_wp2
    go_ret
    exact ⟨_,rfl,fun _=>by have:=HS.out;omega,hb⟩

set_option maxHeartbeats 2000000 in
theorem eqInstances_k (v v' : Value) (ps qs:List InstQ) (w:World) (h:instK.At w v ps) (h' : instK.At w v' qs) (he:ps.map InstQ.e=qs.map InstQ.e) (hl:(ps.length + nmL InstQ.n ps)≤1048576) :
  Calls Tryz.prog 27 #[v,v'] w fun e w' => e=.returned (.bool true)∧Below w.heap.size w w' := by
 obtain ⟨a,cap,rfl⟩:=h.shape
 obtain ⟨a',cap',rfl⟩:=h'.shape
 have hlen:qs.length=ps.length:=by
  have:=congrArg List.length he
  simpa using this.symm
 rw [hlen] at h' ⊢
 have HL:Hid (qs.length=ps.length):=hlen
 clear hlen
 go_enter Tryz.func27,Tryz.ntmps27
 go_wp2
 go_loopw [5] (fun i wr=>∃ k:Nat,k≤ps.length∧i=.int .i64 k∧Below w.heap.size w wr) (fun i _=>ps.length - (intOf i).toNat)
 case atStart=>exact ⟨0,Nat.zero_le _,rfl,Below.refl _ _⟩
 case round=>
  obtain ⟨k,hk,rfl,hb⟩:=hrel
  by_cases hlt:k < ps.length
  ·have hlt' : k < qs.length:=by have:=HL.out;omega
   obtain ⟨b,off,rfl,hbs,hc,hrd⟩:=(h.below hb).cell (by decide) k hlt
   obtain ⟨b',off',rfl,hbs',hd,hrd'⟩:=(h'.below hb).cell (by decide) k hlt'
   have hc' : ∀ j x,(instK.cells ps[k])[j]? = some x→wr.cell? ⟨b,off + k * 4 + j,none⟩=some x:=hc
   have hd' : ∀ j x,(instK.cells qs[k])[j]? = some x→wr.cell? ⟨b',off' + k * 4 + j,none⟩=some x:=hd
   have c0:=hc' 0 (.bool ps[k].has) rfl
   have d0:=hd' 0 (.bool qs[k].has) rfl
   have c1:=hc' 1 (ps[k].vb) rfl
   have d1:=hd' 1 (qs[k].vb) rfl
   have c2:=hc' 2 (ps[k].vr) rfl
   have d2:=hd' 2 (qs[k].vr) rfl
   have c3:=hc' 3 (ps[k].vd) rfl
   have d3:=hd' 3 (qs[k].vd) rfl
   have hee:InstQ.e ps[k]=InstQ.e qs[k]:=by
    have:=congrArg (·[k]?) he
    simpa [hlt,hlt'] using this
   have hzl:=nm_le InstQ.n ps k hlt
   clear hc hc' hd hd'
   generalize ps[k]=p at *
   generalize qs[k]=p' at *
   have hEQ:=fun w h1 h2=>eqInstance_k p p' w h1 h2 hee (show InstQ.n p≤1048576 by omega)
   clear hee hzl
   rw [Nat.add_zero] at c0 d0
   have k0:=lat_cell c0
   have l0:=lat_cell d0
   have k1:=lat_cell c1
   have l1:=lat_cell d1
   have k2:=lat_cell c2
   have l2:=lat_cell d2
   have k3:=lat_cell c3
   have l3:=lat_cell d3
   clear c0 d0 c1 d1 c2 d2 c3 d3
   have hW:Below wr.heap.size wr wr.drew:=(Below.refl _ _).drew
   have hne:Nonempty (Lat wr):=⟨⟨wr,Below.refl _ _⟩⟩
   go_wp2_with fail
   refine text_begin (S:=fun w' => ∃ u:Lat wr,w' = u.val) (by kernel_rfl) ?_
   refine sgr [(0,8)] 2 (by kernel_rfl) ⟨⟨_,hW⟩,rfl⟩ ?_
   simp only [pkE]
   repeat go_big_quiet_step (fail)
   refine wpQuiet_nil ?_
   refine cla 8 (some 25) 51 #[.agg #[.bool p.has,p.vb,p.vr,p.vd],.agg #[.bool p'.has,p'.vb,p'.vr,p'.vd]] 1 (by kernel_rfl) ?_
   refine (hEQ _ (instK.rd_below hrd hW) (instK.rd_below hrd' hW)).mono ?_
   rintro e w2 ⟨rfl,hb2⟩
   replace hW:=hW.trans (hb2.mono hW.size)
   clear hb2
   refine ⟨_,rfl,⟨⟨_,hW⟩,rfl⟩,?_⟩
   simp only [Act.put,pjE]
   refine sgr [(9,1)] 0 (by kernel_rfl) ⟨⟨_,hW⟩,rfl⟩ ?_
   simp only [pkE]
   repeat go_big_quiet_step (fail)
   refine wpQuiet_nil ?_
   refine text_end (by kernel_rfl) ?_
   replace hb:=hb.trans (hW.mono hb.size)
   clear k0 l0 k1 l1 k2 l2 k3 l3 hW hne hrd hrd' hEQ
   go_wp2
   go_roundw
   case rel=>exact ⟨k + 1,by omega,by go_num,hb⟩
   case measure=>simp [intOf];omega
  ·go_wp2
   go_ret
   exact ⟨rfl,hb⟩

set_option maxHeartbeats 2000000 in
theorem toInstances_k (v:Value) (ps:List InstQ) (w:World) (h:instK.At w v ps) (hl:(ps.length + nmL InstQ.n ps)≤1048576) :
  Calls Tryz.prog 23 #[v] w fun e w' => ∃ v' qs,e=.returned v' ∧ qs.map InstQ.e=ps.map InstQ.e∧instK.Own w' v' qs∧(instK.fp v' qs).Nodup∧(∀ k∈instK.fp v' qs,w.heap.size≤k)∧Below w.heap.size w w' := by
 obtain ⟨a,cap,rfl⟩:=h.shape
 obtain ⟨i0,hi,hz0,hz1,hz2⟩:=info_parts infoInstance
 have hbytes:i0.bytes * ps.length≤281474976710656:=by rw [hz2];omega
 have hmax:ps.length≤maxLen:=by unfold maxLen;omega
 go_enter Tryz.func23,Tryz.ntmps23
 go_wp2_with (at_make;refine wpList_make_full _ rfl _ _ 28 rfl w.heap.size 89 i0 (.agg #[.bool false,.slice none 0 0,.slice none 0 0,.slice none 0 0]) 4 Tryz.underlying28 hi hz0 hz1 _ _ _ _ ps.length rfl rfl rfl rfl hbytes hmax (Nat.le_refl _) ?_)
 intro w1 hown hgrow
 have hb1:Below w.heap.size w w1:=(Below.refl _ _).grown hgrow (Nat.le_refl _) (by simp)
 have hO:instK.Own w1 (.slice (some ⟨w.heap.size,0,none⟩) ps.length ps.length) (List.replicate ps.length (⟨false,.slice none 0 0,[],.slice none 0 0,[],.slice none 0 0,[]⟩:InstQ)):=by
  refine ⟨?_,fun p hp=>?_⟩
  ·rw [List.length_replicate,← made_row (⟨false,.slice none 0 0,[],.slice none 0 0,[],.slice none 0 0,[]⟩:InstQ) _ (by decide)]
   exact own_base hown (Nat.zero_le _)
  ·rw [(List.mem_replicate.1 hp).2]
   exact ⟨⟨World.ownsRow_nil _ _ _ _,fun p hp=>by simp at hp⟩,⟨World.ownsRow_nil _ _ _ _,fun p hp=>by simp at hp⟩,⟨World.ownsRow_nil _ _ _ _,fun p hp=>by simp at hp⟩⟩
 have hF:instK.fp (.slice (some ⟨w.heap.size,0,none⟩) ps.length ps.length) (List.replicate ps.length (⟨false,.slice none 0 0,[],.slice none 0 0,[],.slice none 0 0,[]⟩:InstQ))=[w.heap.size]:=fp_new rfl
 have HN:Hid ((instK.fp (.slice (some ⟨w.heap.size,0,none⟩) ps.length ps.length) (List.replicate ps.length (⟨false,.slice none 0 0,[],.slice none 0 0,[],.slice none 0 0,[]⟩:InstQ))).Nodup):=by rw [hF];show List.Nodup _;simp
 have HG:Hid (∀ x∈instK.fp (.slice (some ⟨w.heap.size,0,none⟩) ps.length ps.length) (List.replicate ps.length (⟨false,.slice none 0 0,[],.slice none 0 0,[],.slice none 0 0,[]⟩:InstQ)),w.heap.size≤x):=by rw [hF];intro x hx;simp at hx;omega
 have HZ:Hid (∀ j (hj:j < (List.replicate ps.length (⟨false,.slice none 0 0,[],.slice none 0 0,[],.slice none 0 0,[]⟩:InstQ)).length),0≤j→(List.replicate ps.length (⟨false,.slice none 0 0,[],.slice none 0 0,[],.slice none 0 0,[]⟩:InstQ))[j]=(⟨false,.slice none 0 0,[],.slice none 0 0,[],.slice none 0 0,[]⟩:InstQ)):=fun j hj _=>by simp
 have hql:(List.replicate ps.length (⟨false,.slice none 0 0,[],.slice none 0 0,[],.slice none 0 0,[]⟩:InstQ)).length=ps.length:=by simp
 clear hown hgrow hF
 generalize List.replicate ps.length (⟨false,.slice none 0 0,[],.slice none 0 0,[],.slice none 0 0,[]⟩:InstQ)=qs0 at *
 have HE:Hid ((qs0.take 0).map InstQ.e=(ps.take 0).map InstQ.e):=show _=_ by simp
 go_wp2
 go_loopw [4] (fun i wr=>∃ (k:Nat) (qs:List InstQ),k≤ps.length∧i=.int .i64 k∧Hid (qs.length=ps.length)∧Hid ((qs.take k).map InstQ.e=(ps.take k).map InstQ.e)∧Hid (∀ j (hj:j < qs.length),k≤j→qs[j]=(⟨false,.slice none 0 0,[],.slice none 0 0,[],.slice none 0 0,[]⟩:InstQ))∧instK.Own wr (.slice (some ⟨w.heap.size,0,none⟩) ps.length ps.length) qs ∧
  Hid ((instK.fp (.slice (some ⟨w.heap.size,0,none⟩) ps.length ps.length) qs).Nodup)∧Hid (∀ x∈instK.fp (.slice (some ⟨w.heap.size,0,none⟩) ps.length ps.length) qs,w.heap.size≤x)∧Below w.heap.size w wr) (fun i _=>ps.length - (intOf i).toNat)
 case atStart=>exact ⟨0,qs0,Nat.zero_le _,rfl,hql,HE,HZ,hO,HN,HG,hb1⟩
 case round=>
  clear HE HZ hO HN HG hb1 hql
  obtain ⟨k,qs,hk,rfl,HQ,HE,HZ,hO,HN,HG,hb⟩:=hrel
  by_cases hlt:k < ps.length
  ·have hltq:k < qs.length:=by have:=HQ.out;omega
   have hzk:=HZ.out k hltq (Nat.le_refl _)
   obtain ⟨b,off,rfl,hbs,hc,hrd⟩:=(h.below hb).cell (by decide) k hlt
   have hc' : ∀ j x,(instK.cells ps[k])[j]? = some x→wr.cell? ⟨b,off + k * 4 + j,none⟩=some x:=hc
   have c0:=hc' 0 (.bool ps[k].has) rfl
   have c1:=hc' 1 (ps[k].vb) rfl
   have c2:=hc' 2 (ps[k].vr) rfl
   have c3:=hc' 3 (ps[k].vd) rfl
   have hzl:=nm_le InstQ.n ps k hlt
   have HPE:Hid (∀ p' : InstQ,p'.e=InstQ.e ps[k]→((qs.set k p').take (k + 1)).map InstQ.e=(ps.take (k + 1)).map InstQ.e):=by
    intro p' hp'
    have h1:=HE.out
    rw [List.take_succ_eq_append_getElem hlt,List.take_succ_eq_append_getElem (show k < (qs.set k p').length by simpa using hltq)]
    simp only [List.map_append,List.map_cons,List.map_nil,List.getElem_set_self,hp',List.take_set_of_le (Nat.le_refl k),h1]
   clear hc hc'
   generalize ps[k]=p at *
   have hto:=toInstance_k p wr hrd (by omega)
   rw [Nat.add_zero] at c0
   go_wp2_with fail
   refine hto.mono ?_
   rintro e w2 ⟨p',rfl,hpe,hown',hnd',hlo',hb2⟩
   obtain ⟨x0,x1,y1,x2,y2,x3,y3⟩:=p'
   obtain ⟨o1,o2,o3⟩:txnK.Own w2 x1 y1∧roundK.Own w2 x2 y2∧intK.Own w2 x3 y3:=And.intro hown'.1 hown'.2
   obtain ⟨a1,b1,rfl⟩:=o1.shape
   obtain ⟨a2,b2,rfl⟩:=o2.shape
   obtain ⟨a3,b3,rfl⟩:=o3.shape
   clear o1 o2 o3
   dsimp only
   generalize hP:(⟨x0,.slice a1 y1.length b1,y1,.slice a2 y2.length b2,y2,.slice a3 y3.length b3,y3⟩:InstQ)=p' at hpe hown' hnd' hlo'
   have hcp:instK.cells p' = [.bool x0,.slice a1 y1.length b1,.slice a2 y2.length b2,.slice a3 y3.length b3]:=by rw [← hP];rfl
   have hO2:=hO.below hb2
   obtain ⟨e0,f0⟩:=hO2.cell k hltq 0 _ (by rw [hzk];rfl)
   obtain ⟨e1,f1⟩:=hO2.cell k hltq 1 _ (by rw [hzk];rfl)
   obtain ⟨e2,f2⟩:=hO2.cell k hltq 2 _ (by rw [hzk];rfl)
   obtain ⟨e3,f3⟩:=hO2.cell k hltq 3 _ (by rw [hzk];rfl)
   have hkk:∀ j,k * instK.size + j=k * 4 + j:=fun j=>rfl
   rw [hkk] at e0 f0 e1 f1 e2 f2 e3 f3
   rw [Nat.add_zero] at e0 f0
   have hrow0:=hO2.1
   have hQ:=HQ.out
   rw [hQ] at hrow0
   have hrow:=own_setFrom hrow0 (k * 4) [.bool x0,.slice a1 y1.length b1,.slice a2 y2.length b2,.slice a3 y3.length b3]
   rw [← hcp] at hrow
   have hfp:∀ x∈instK.fp (.slice (some ⟨w.heap.size,0,none⟩) ps.length ps.length) qs,x < wr.heap.size:=hO.lt
   have hg0:w.heap.size∈instK.fp (.slice (some ⟨w.heap.size,0,none⟩) ps.length ps.length) qs:=by simp [Kind.fp,blk,Value.ownBlock]
   have hgl:w.heap.size < wr.heap.size:=hfp _ hg0
   have hNq:=HN.out
   have hdis:∀ x∈instK.foot p',x ∉ instK.fp (.slice (some ⟨w.heap.size,0,none⟩) ps.length ps.length) qs:=fun x hx hxx=>by have:=hlo' x hx;have:=hfp x hxx;omega
   have hput:instK.Own ((((w2.setCell ⟨w.heap.size,k * 4,none⟩ (.bool x0)).setCell ⟨w.heap.size,k * 4 + 1,none⟩ (.slice a1 y1.length b1)).setCell ⟨w.heap.size,k * 4 + 2,none⟩ (.slice a2 y2.length b2)).setCell ⟨w.heap.size,k * 4 + 3,none⟩ (.slice a3 y3.length b3)) (.slice (some ⟨w.heap.size,0,none⟩) ps.length ps.length) (qs.set k p'):=by
    refine Kind.Own.put hO2 k hltq p' ?_ ((((Out.setCell _ _ _ _).trans (Out.setCell _ _ _ _)).trans (Out.setCell _ _ _ _)).trans (Out.setCell _ _ _ _)) ?_ hown' ?_
    ·rw [hQ]
     rw [hcp] at hrow ⊢
     exact hrow
    ·intro q hq x hx hxe
     simp only [Kind.fp,blk,Value.ownBlock,Option.toList,List.cons_append,List.nil_append,List.nodup_cons] at hNq
     exact hNq.1 (List.mem_flatMap.2 ⟨q,hq,hxe ▸ hx⟩)
    ·intro x hx hxe
     have:=hlo' x hx
     omega
   have R:Hid (instK.Own ((((w2.setCell ⟨w.heap.size,k * 4,none⟩ (.bool x0)).setCell ⟨w.heap.size,k * 4 + 1,none⟩ (.slice a1 y1.length b1)).setCell ⟨w.heap.size,k * 4 + 2,none⟩ (.slice a2 y2.length b2)).setCell ⟨w.heap.size,k * 4 + 3,none⟩ (.slice a3 y3.length b3)) (.slice (some ⟨w.heap.size,0,none⟩) ps.length ps.length) (qs.set k p')∧Below w.heap.size w ((((w2.setCell ⟨w.heap.size,k * 4,none⟩ (.bool x0)).setCell ⟨w.heap.size,k * 4 + 1,none⟩ (.slice a1 y1.length b1)).setCell ⟨w.heap.size,k * 4 + 2,none⟩ (.slice a2 y2.length b2)).setCell ⟨w.heap.size,k * 4 + 3,none⟩ (.slice a3 y3.length b3))):=by
    refine ⟨hput,?_⟩
    have hbb:=hb.trans (hb2.mono hb.size)
    exact ((((hbb.setCell (p:=⟨w.heap.size,k * 4,none⟩) (Nat.le_refl _) _).setCell (p:=⟨w.heap.size,k * 4 + 1,none⟩) (Nat.le_refl _) _).setCell (p:=⟨w.heap.size,k * 4 + 2,none⟩) (Nat.le_refl _) _).setCell (p:=⟨w.heap.size,k * 4 + 3,none⟩) (Nat.le_refl _) _)
   have R1:Hid ((instK.fp (.slice (some ⟨w.heap.size,0,none⟩) ps.length ps.length) (qs.set k p')).Nodup):=nodup_put hNq k hltq p' (by rw [hzk];rfl) hnd' hdis
   have R2:Hid (∀ x∈instK.fp (.slice (some ⟨w.heap.size,0,none⟩) ps.length ps.length) (qs.set k p'),w.heap.size≤x):=by
    intro x hx
    simp only [Kind.fp,List.mem_append] at hx
    rcases hx with hx | hx
    ·exact HG.out x (by simp only [Kind.fp,List.mem_append];exact Or.inl hx)
    ·rcases mem_foot_set hltq hx with hx | hx
     ·exact HG.out x (by simp only [Kind.fp,List.mem_append];exact Or.inr hx)
     ·have:=hlo' x hx
      omega
   have R3:Hid (∀ j (hj:j < (qs.set k p').length),k + 1≤j→(qs.set k p')[j]=(⟨false,.slice none 0 0,[],.slice none 0 0,[],.slice none 0 0,[]⟩:InstQ)):=fun j hj hkj=>by
    rw [List.getElem_set_ne (by omega)]
    exact HZ.out j (by simpa using hj) (by omega)
   have R4:Hid ((qs.set k p').length=ps.length):=by rw [List.length_set];exact HQ.out
   have R5:Hid (((qs.set k p').take (k + 1)).map InstQ.e=(ps.take (k + 1)).map InstQ.e):=HPE.out p' hpe
   clear hput hrow hrow0 hQ hO2 hO HN HG HZ HE HQ HPE hNq hdis hown' hnd' hlo' hfp hg0 hb hzk hrd hto hpe hkk hcp hP
   go_wp2
   go_roundw
   case rel=>exact ⟨k + 1,qs.set k p',by omega,by go_num,R4.out,R5.out,R3.out,R.out.1,R1.out,R2.out,R.out.2⟩
   case measure=>simp [intOf];omega
  ·have hkl:k=ps.length:=by omega
   subst hkl
   have hQ:=HQ.out
   have hE:=HE.out
   rw [List.take_length,List.take_of_length_le (by omega)] at hE
   clear HE HZ
   go_wp2
   go_ret
   exact ⟨_,qs,rfl,hE,hO,HN.out,HG.out,hb⟩

end Go.Proofs.YtjjoahhnkpjolaaGreatDoor
namespace Go.Proofs.YtjjoahhnkpjolaaGreatDoor
open Go.RowKit
open Go.BigFrame
set_option maxRecDepth 100000
set_option maxRecDepth 100000
/-- A node where it lies. -/
structure NodeQ where
 kn:Int
 sf:Int
 vd:Value
 done:List TxnQ
 vb:Value
 base:List ItemD
 vt:Value
 tent:List TxnQ
 vu:Value
 undos:List USQ
 vn:Value
 now:List ItemD

/-- What it tells. -/
structure NodeE where
 kn:Int
 sf:Int
 rep:RepE

def NodeQ.r (p:NodeQ):RepQ:=⟨p.vd,p.done,p.vb,p.base,p.vt,p.tent,p.vu,p.undos,p.vn,p.now⟩

def NodeQ.of (kn sf:Int) (r:RepQ):NodeQ:=⟨kn,sf,r.vd,r.done,r.vb,r.base,r.vt,r.tent,r.vu,r.undos,r.vn,r.now⟩

def NodeQ.e (p:NodeQ):NodeE:=⟨p.kn,p.sf,p.r.e⟩

def NodeQ.n (p:NodeQ):Nat:=p.r.n

def NodeQ.wf (p:NodeQ):Prop:=p.r.wf

def nodeK:Kind NodeQ where
 ty:=58
 size:=7
 cells p:=[.int .i64 p.kn,.int .i64 p.sf,p.vd,p.vb,p.vt,p.vu,p.vn]
 own w p:=repK.own w p.r
 rd w p:=repK.rd w p.r
 foot p:=repK.foot p.r
 len _:=rfl
 own_rd h:=repK.own_rd h
 own_out h ho hd:=repK.own_out h ho hd
 own_lt h:=repK.own_lt h
 rd_below h hb:=repK.rd_below h hb

theorem infoNode12:(Tryz.prog.info? 58).map (fun i=>(i.zero,i.size,i.bytes))=some (some (.agg #[.int .i64 0,.int .i64 0,.slice none 0 0,.slice none 0 0,.slice none 0 0,.slice none 0 0,.slice none 0 0]),7,136):=by kernel_rfl

theorem szNode_l (p:NodeQ) (c:Int) (w:World) (h:nodeK.rd w p) (hn:NodeQ.wf p) (h0:0≤c) (h1:c≤1048576) :
  Calls Tryz.prog 39 #[.agg #[.int .i64 p.kn,.int .i64 p.sf,p.vd,p.vb,p.vt,p.vu,p.vn],.int .i64 c] w fun e w' => ∃ r:Int,e=.returned (.int .i64 r)∧(¬ r < 0→(NodeQ.n p:Int) + r=c)∧Below w.heap.size w w' :=
 szNode_k p.kn p.sf p.r c w h hn h0 h1

theorem eqNode_l (p p' : NodeQ) (w:World) (h:nodeK.rd w p) (h' : nodeK.rd w p') (he:p.e=p'.e) (hl:NodeQ.n p≤1048576) :
  Calls Tryz.prog 52 #[.agg #[.int .i64 p.kn,.int .i64 p.sf,p.vd,p.vb,p.vt,p.vu,p.vn],.agg #[.int .i64 p'.kn,.int .i64 p'.sf,p'.vd,p'.vb,p'.vt,p'.vu,p'.vn]] w fun e w' => e=.returned (.bool true)∧Below w.heap.size w w' := by
 simp only [NodeQ.e,NodeE.mk.injEq] at he
 obtain ⟨e1,e2,e3⟩:=he
 rw [← e1,← e2]
 exact eqNode_k p.kn p.sf p.r p'.r w h h' e3 hl

theorem toNode_l (p:NodeQ) (w:World) (h:nodeK.rd w p) (hl:NodeQ.n p≤1048576) :
  Calls Tryz.prog 43 #[.agg #[.int .i64 p.kn,.int .i64 p.sf,p.vd,p.vb,p.vt,p.vu,p.vn]] w fun e w' => ∃ p' : NodeQ,e=.returned (.agg #[.int .i64 p'.kn,.int .i64 p'.sf,p'.vd,p'.vb,p'.vt,p'.vu,p'.vn])∧p'.e=p.e∧nodeK.own w' p' ∧ (nodeK.foot p').Nodup∧(∀ k∈nodeK.foot p',w.heap.size≤k)∧Below w.heap.size w w' := by
 refine (toNode_k p.kn p.sf p.r w h hl).mono ?_
 rintro e w' ⟨q,rfl,hE,hO,hN,hG,hb⟩
 refine ⟨NodeQ.of p.kn p.sf q,rfl,?_,hO,hN,hG,hb⟩
 show (⟨p.kn,p.sf,q.e⟩:NodeE)=⟨p.kn,p.sf,p.r.e⟩
 rw [hE]

set_option maxHeartbeats 1000000 in
theorem szNodes_k (v:Value) (ps:List NodeQ) (c:Int) (w:World) (h:nodeK.At w v ps) (hn:ps.length≤9223372036854775807) (hn1:∀ p∈ps,NodeQ.wf p) (h0:0≤c) (h1:c≤1048576) :
  Calls Tryz.prog 21 #[v,.int .i64 c] w fun e w' => ∃ r:Int,e=.returned (.int .i64 r)∧(¬ r < 0→((ps.length + nmL NodeQ.n ps:Nat):Int) + r=c)∧Below w.heap.size w w' := by
 obtain ⟨a,cap,rfl⟩:=h.shape
 by_cases hbig:c - ps.length < 0
 ·go_enter Tryz.func21,Tryz.ntmps21
  go_wp2
  go_ret
  exact ⟨_,rfl,fun h=>by omega,Below.refl _ _⟩
 ·go_enter Tryz.func21,Tryz.ntmps21
  go_wp2
  go_loopw [1,5] (fun l i wr=>∃ (k:Nat) (x:Int),k≤ps.length∧i=.int .i64 k∧l=.int .i64 x∧0≤x∧x≤1048576∧Hid (ps.length + nmL NodeQ.n (ps.take k) + x=c)∧Below w.heap.size w wr) (fun _ i _=>ps.length - (intOf i).toNat)
  case atStart=>exact ⟨0,c - ps.length,Nat.zero_le _,rfl,by go_num,by omega,by omega,show _=_ by simp [nmL];omega,Below.refl _ _⟩
  case round=>
   obtain ⟨k,x,hk,rfl,rfl,hx0,hx1,HS,hb⟩:=hrel
   by_cases hlt:k < ps.length
   ·obtain ⟨b,off,rfl,hbs,hc,hrd⟩:=(h.below hb).cell (by decide) k hlt
    have hc' : ∀ j x,(nodeK.cells ps[k])[j]? = some x→wr.cell? ⟨b,off + k * 7 + j,none⟩=some x:=hc
    have c0:=hc' 0 (.int .i64 ps[k].kn) rfl
    have c1:=hc' 1 (.int .i64 ps[k].sf) rfl
    have c2:=hc' 2 (ps[k].vd) rfl
    have c3:=hc' 3 (ps[k].vb) rfl
    have c4:=hc' 4 (ps[k].vt) rfl
    have c5:=hc' 5 (ps[k].vu) rfl
    have c6:=hc' 6 (ps[k].vn) rfl
    have hs:=nmL_succ NodeQ.n ps k hlt
    have HN:=hn1 _ (List.getElem_mem hlt)
    have HS' : Hid (∀ y:Int,(NodeQ.n ps[k]:Int) + y=x→ps.length + nmL NodeQ.n (ps.take (k + 1)) + y=c):=by
     intro y hy
     have:=HS.out
     omega
    clear HS hs hc hc'
    generalize ps[k]=p at *
    have hsz:=szNode_l p x wr hrd HN hx0 hx1
    generalize NodeQ.n p=m at *
    rw [Nat.add_zero] at c0
    go_wp2_with fail
    refine hsz.mono ?_
    rintro e w2 ⟨r,rfl,hr,hb2⟩
    replace hb:=hb.trans (hb2.mono hb.size)
    clear hb2 hsz c0 c1 c2 c3 c4 c5 c6
    by_cases hneg:r < 0
    ·go_wp2
     go_ret
     exact ⟨_,rfl,fun h=>by omega,hb⟩
    ·have hrx:=hr (by omega)
     have HR:Hid (ps.length + nmL NodeQ.n (ps.take (k + 1)) + r=c):=HS'.out r hrx
     have hr1:r≤1048576:=by omega
     clear HS' hr hrx
     go_wp2
     go_roundw
     case rel=>exact ⟨k + 1,r,by omega,by go_num,rfl,by omega,hr1,HR.out,hb⟩
     case measure=>simp [intOf];omega
   ·have hkl:k=ps.length:=by omega
    subst hkl
    rw [List.take_length] at HS
    go_wp2
    go_ret
    exact ⟨_,rfl,fun _=>by have:=HS.out;omega,hb⟩

set_option maxHeartbeats 2000000 in
theorem eqNodes_k (v v' : Value) (ps qs:List NodeQ) (w:World) (h:nodeK.At w v ps) (h' : nodeK.At w v' qs) (he:ps.map NodeQ.e=qs.map NodeQ.e) (hl:(ps.length + nmL NodeQ.n ps)≤1048576) :
  Calls Tryz.prog 28 #[v,v'] w fun e w' => e=.returned (.bool true)∧Below w.heap.size w w' := by
 obtain ⟨a,cap,rfl⟩:=h.shape
 obtain ⟨a',cap',rfl⟩:=h'.shape
 have hlen:qs.length=ps.length:=by
  have:=congrArg List.length he
  simpa using this.symm
 rw [hlen] at h' ⊢
 have HL:Hid (qs.length=ps.length):=hlen
 clear hlen
 go_enter Tryz.func28,Tryz.ntmps28
 go_wp2
 go_loopw [5] (fun i wr=>∃ k:Nat,k≤ps.length∧i=.int .i64 k∧Below w.heap.size w wr) (fun i _=>ps.length - (intOf i).toNat)
 case atStart=>exact ⟨0,Nat.zero_le _,rfl,Below.refl _ _⟩
 case round=>
  obtain ⟨k,hk,rfl,hb⟩:=hrel
  by_cases hlt:k < ps.length
  ·have hlt' : k < qs.length:=by have:=HL.out;omega
   obtain ⟨b,off,rfl,hbs,hc,hrd⟩:=(h.below hb).cell (by decide) k hlt
   obtain ⟨b',off',rfl,hbs',hd,hrd'⟩:=(h'.below hb).cell (by decide) k hlt'
   have hc' : ∀ j x,(nodeK.cells ps[k])[j]? = some x→wr.cell? ⟨b,off + k * 7 + j,none⟩=some x:=hc
   have hd' : ∀ j x,(nodeK.cells qs[k])[j]? = some x→wr.cell? ⟨b',off' + k * 7 + j,none⟩=some x:=hd
   have c0:=hc' 0 (.int .i64 ps[k].kn) rfl
   have d0:=hd' 0 (.int .i64 qs[k].kn) rfl
   have c1:=hc' 1 (.int .i64 ps[k].sf) rfl
   have d1:=hd' 1 (.int .i64 qs[k].sf) rfl
   have c2:=hc' 2 (ps[k].vd) rfl
   have d2:=hd' 2 (qs[k].vd) rfl
   have c3:=hc' 3 (ps[k].vb) rfl
   have d3:=hd' 3 (qs[k].vb) rfl
   have c4:=hc' 4 (ps[k].vt) rfl
   have d4:=hd' 4 (qs[k].vt) rfl
   have c5:=hc' 5 (ps[k].vu) rfl
   have d5:=hd' 5 (qs[k].vu) rfl
   have c6:=hc' 6 (ps[k].vn) rfl
   have d6:=hd' 6 (qs[k].vn) rfl
   have hee:NodeQ.e ps[k]=NodeQ.e qs[k]:=by
    have:=congrArg (·[k]?) he
    simpa [hlt,hlt'] using this
   have hzl:=nm_le NodeQ.n ps k hlt
   clear hc hc' hd hd'
   generalize ps[k]=p at *
   generalize qs[k]=p' at *
   have hEQ:=fun w h1 h2=>eqNode_l p p' w h1 h2 hee (show NodeQ.n p≤1048576 by omega)
   clear hee hzl
   rw [Nat.add_zero] at c0 d0
   have k0:=lat_cell c0
   have l0:=lat_cell d0
   have k1:=lat_cell c1
   have l1:=lat_cell d1
   have k2:=lat_cell c2
   have l2:=lat_cell d2
   have k3:=lat_cell c3
   have l3:=lat_cell d3
   have k4:=lat_cell c4
   have l4:=lat_cell d4
   have k5:=lat_cell c5
   have l5:=lat_cell d5
   have k6:=lat_cell c6
   have l6:=lat_cell d6
   clear c0 d0 c1 d1 c2 d2 c3 d3 c4 d4 c5 d5 c6 d6
   have hW:Below wr.heap.size wr wr.drew:=(Below.refl _ _).drew
   have hne:Nonempty (Lat wr):=⟨⟨wr,Below.refl _ _⟩⟩
   go_wp2_with fail
   refine text_begin (S:=fun w' => ∃ u:Lat wr,w' = u.val) (by kernel_rfl) ?_
   refine sgr [(0,8)] 2 (by kernel_rfl) ⟨⟨_,hW⟩,rfl⟩ ?_
   simp only [pkE]
   repeat go_big_quiet_step (fail)
   refine wpQuiet_nil ?_
   refine cla 8 (some 25) 52 #[.agg #[.int .i64 p.kn,.int .i64 p.sf,p.vd,p.vb,p.vt,p.vu,p.vn],.agg #[.int .i64 p'.kn,.int .i64 p'.sf,p'.vd,p'.vb,p'.vt,p'.vu,p'.vn]] 1 (by kernel_rfl) ?_
   refine (hEQ _ (nodeK.rd_below hrd hW) (nodeK.rd_below hrd' hW)).mono ?_
   rintro e w2 ⟨rfl,hb2⟩
   replace hW:=hW.trans (hb2.mono hW.size)
   clear hb2
   refine ⟨_,rfl,⟨⟨_,hW⟩,rfl⟩,?_⟩
   simp only [Act.put,pjE]
   refine sgr [(9,1)] 0 (by kernel_rfl) ⟨⟨_,hW⟩,rfl⟩ ?_
   simp only [pkE]
   repeat go_big_quiet_step (fail)
   refine wpQuiet_nil ?_
   refine text_end (by kernel_rfl) ?_
   replace hb:=hb.trans (hW.mono hb.size)
   clear k0 l0 k1 l1 k2 l2 k3 l3 k4 l4 k5 l5 k6 l6 hW hne hrd hrd' hEQ
   go_wp2
   go_roundw
   case rel=>exact ⟨k + 1,by omega,by go_num,hb⟩
   case measure=>simp [intOf];omega
  ·go_wp2
   go_ret
   exact ⟨rfl,hb⟩

set_option maxHeartbeats 2000000 in
theorem toNodes_k (v:Value) (ps:List NodeQ) (w:World) (h:nodeK.At w v ps) (hl:(ps.length + nmL NodeQ.n ps)≤1048576) :
  Calls Tryz.prog 24 #[v] w fun e w' => ∃ v' qs,e=.returned v' ∧ qs.map NodeQ.e=ps.map NodeQ.e∧nodeK.Own w' v' qs∧(nodeK.fp v' qs).Nodup∧(∀ k∈nodeK.fp v' qs,w.heap.size≤k)∧Below w.heap.size w w' := by
 obtain ⟨a,cap,rfl⟩:=h.shape
 obtain ⟨i0,hi,hz0,hz1,hz2⟩:=info_parts infoNode12
 have hbytes:i0.bytes * ps.length≤281474976710656:=by rw [hz2];omega
 have hmax:ps.length≤maxLen:=by unfold maxLen;omega
 go_enter Tryz.func24,Tryz.ntmps24
 go_wp2_with (at_make;refine wpList_make_full _ rfl _ _ 29 rfl w.heap.size 58 i0 (.agg #[.int .i64 0,.int .i64 0,.slice none 0 0,.slice none 0 0,.slice none 0 0,.slice none 0 0,.slice none 0 0]) 7 Tryz.underlying29 hi hz0 hz1 _ _ _ _ ps.length rfl rfl rfl rfl hbytes hmax (Nat.le_refl _) ?_)
 intro w1 hown hgrow
 have hb1:Below w.heap.size w w1:=(Below.refl _ _).grown hgrow (Nat.le_refl _) (by simp)
 have hO:nodeK.Own w1 (.slice (some ⟨w.heap.size,0,none⟩) ps.length ps.length) (List.replicate ps.length (⟨0,0,.slice none 0 0,[],.slice none 0 0,[],.slice none 0 0,[],.slice none 0 0,[],.slice none 0 0,[]⟩:NodeQ)):=by
  refine ⟨?_,fun p hp=>?_⟩
  ·rw [List.length_replicate,← made_row (⟨0,0,.slice none 0 0,[],.slice none 0 0,[],.slice none 0 0,[],.slice none 0 0,[],.slice none 0 0,[]⟩:NodeQ) _ (by decide)]
   exact own_base hown (Nat.zero_le _)
  ·rw [(List.mem_replicate.1 hp).2]
   exact ⟨(Kind.own_nil _).1,(Kind.own_nil _).1,(Kind.own_nil _).1,(Kind.own_nil _).1,(Kind.own_nil _).1⟩
 have hF:nodeK.fp (.slice (some ⟨w.heap.size,0,none⟩) ps.length ps.length) (List.replicate ps.length (⟨0,0,.slice none 0 0,[],.slice none 0 0,[],.slice none 0 0,[],.slice none 0 0,[],.slice none 0 0,[]⟩:NodeQ))=[w.heap.size]:=fp_new rfl
 have HN:Hid ((nodeK.fp (.slice (some ⟨w.heap.size,0,none⟩) ps.length ps.length) (List.replicate ps.length (⟨0,0,.slice none 0 0,[],.slice none 0 0,[],.slice none 0 0,[],.slice none 0 0,[],.slice none 0 0,[]⟩:NodeQ))).Nodup):=by rw [hF];show List.Nodup _;simp
 have HG:Hid (∀ x∈nodeK.fp (.slice (some ⟨w.heap.size,0,none⟩) ps.length ps.length) (List.replicate ps.length (⟨0,0,.slice none 0 0,[],.slice none 0 0,[],.slice none 0 0,[],.slice none 0 0,[],.slice none 0 0,[]⟩:NodeQ)),w.heap.size≤x):=by rw [hF];intro x hx;simp at hx;omega
 have HZ:Hid (∀ j (hj:j < (List.replicate ps.length (⟨0,0,.slice none 0 0,[],.slice none 0 0,[],.slice none 0 0,[],.slice none 0 0,[],.slice none 0 0,[]⟩:NodeQ)).length),0≤j→(List.replicate ps.length (⟨0,0,.slice none 0 0,[],.slice none 0 0,[],.slice none 0 0,[],.slice none 0 0,[],.slice none 0 0,[]⟩:NodeQ))[j]=(⟨0,0,.slice none 0 0,[],.slice none 0 0,[],.slice none 0 0,[],.slice none 0 0,[],.slice none 0 0,[]⟩:NodeQ)):=fun j hj _=>by simp
 have hql:(List.replicate ps.length (⟨0,0,.slice none 0 0,[],.slice none 0 0,[],.slice none 0 0,[],.slice none 0 0,[],.slice none 0 0,[]⟩:NodeQ)).length=ps.length:=by simp
 clear hown hgrow hF
 generalize List.replicate ps.length (⟨0,0,.slice none 0 0,[],.slice none 0 0,[],.slice none 0 0,[],.slice none 0 0,[],.slice none 0 0,[]⟩:NodeQ)=qs0 at *
 have HE:Hid ((qs0.take 0).map NodeQ.e=(ps.take 0).map NodeQ.e):=show _=_ by simp
 go_wp2
 go_loopw [4] (fun i wr=>∃ (k:Nat) (qs:List NodeQ),k≤ps.length∧i=.int .i64 k∧Hid (qs.length=ps.length)∧Hid ((qs.take k).map NodeQ.e=(ps.take k).map NodeQ.e)∧Hid (∀ j (hj:j < qs.length),k≤j→qs[j]=(⟨0,0,.slice none 0 0,[],.slice none 0 0,[],.slice none 0 0,[],.slice none 0 0,[],.slice none 0 0,[]⟩:NodeQ))∧nodeK.Own wr (.slice (some ⟨w.heap.size,0,none⟩) ps.length ps.length) qs ∧
  Hid ((nodeK.fp (.slice (some ⟨w.heap.size,0,none⟩) ps.length ps.length) qs).Nodup)∧Hid (∀ x∈nodeK.fp (.slice (some ⟨w.heap.size,0,none⟩) ps.length ps.length) qs,w.heap.size≤x)∧Below w.heap.size w wr) (fun i _=>ps.length - (intOf i).toNat)
 case atStart=>exact ⟨0,qs0,Nat.zero_le _,rfl,hql,HE,HZ,hO,HN,HG,hb1⟩
 case round=>
  clear HE HZ hO HN HG hb1 hql
  obtain ⟨k,qs,hk,rfl,HQ,HE,HZ,hO,HN,HG,hb⟩:=hrel
  by_cases hlt:k < ps.length
  ·have hltq:k < qs.length:=by have:=HQ.out;omega
   have hzk:=HZ.out k hltq (Nat.le_refl _)
   obtain ⟨b,off,rfl,hbs,hc,hrd⟩:=(h.below hb).cell (by decide) k hlt
   have hc' : ∀ j x,(nodeK.cells ps[k])[j]? = some x→wr.cell? ⟨b,off + k * 7 + j,none⟩=some x:=hc
   have c0:=hc' 0 (.int .i64 ps[k].kn) rfl
   have c1:=hc' 1 (.int .i64 ps[k].sf) rfl
   have c2:=hc' 2 (ps[k].vd) rfl
   have c3:=hc' 3 (ps[k].vb) rfl
   have c4:=hc' 4 (ps[k].vt) rfl
   have c5:=hc' 5 (ps[k].vu) rfl
   have c6:=hc' 6 (ps[k].vn) rfl
   have hzl:=nm_le NodeQ.n ps k hlt
   have HPE:Hid (∀ p' : NodeQ,p'.e=NodeQ.e ps[k]→((qs.set k p').take (k + 1)).map NodeQ.e=(ps.take (k + 1)).map NodeQ.e):=by
    intro p' hp'
    have h1:=HE.out
    rw [List.take_succ_eq_append_getElem hlt,List.take_succ_eq_append_getElem (show k < (qs.set k p').length by simpa using hltq)]
    simp only [List.map_append,List.map_cons,List.map_nil,List.getElem_set_self,hp',List.take_set_of_le (Nat.le_refl k),h1]
   clear hc hc'
   generalize ps[k]=p at *
   have hto:=toNode_l p wr hrd (by omega)
   rw [Nat.add_zero] at c0
   go_wp2_with fail
   refine hto.mono ?_
   rintro e w2 ⟨p',rfl,hpe,hown',hnd',hlo',hb2⟩
   obtain ⟨x0,x1,x2,y2,x3,y3,x4,y4,x5,y5,x6,y6⟩:=p'
   obtain ⟨o2,o3,o4,o5,o6⟩:txnK.Own w2 x2 y2∧itemK.Own w2 x3 y3∧txnK.Own w2 x4 y4∧ussK.Own w2 x5 y5∧itemK.Own w2 x6 y6:=id hown'
   obtain ⟨a2,b2,rfl⟩:=o2.shape
   obtain ⟨a3,b3,rfl⟩:=o3.shape
   obtain ⟨a4,b4,rfl⟩:=o4.shape
   obtain ⟨a5,b5,rfl⟩:=o5.shape
   obtain ⟨a6,b6,rfl⟩:=o6.shape
   clear o2 o3 o4 o5 o6
   dsimp only
   generalize hP:(⟨x0,x1,.slice a2 y2.length b2,y2,.slice a3 y3.length b3,y3,.slice a4 y4.length b4,y4,.slice a5 y5.length b5,y5,.slice a6 y6.length b6,y6⟩:NodeQ)=p' at hpe hown' hnd' hlo'
   have hcp:nodeK.cells p' = [.int .i64 x0,.int .i64 x1,.slice a2 y2.length b2,.slice a3 y3.length b3,.slice a4 y4.length b4,.slice a5 y5.length b5,.slice a6 y6.length b6]:=by rw [← hP];rfl
   have hO2:=hO.below hb2
   obtain ⟨e0,f0⟩:=hO2.cell k hltq 0 _ (by rw [hzk];rfl)
   obtain ⟨e1,f1⟩:=hO2.cell k hltq 1 _ (by rw [hzk];rfl)
   obtain ⟨e2,f2⟩:=hO2.cell k hltq 2 _ (by rw [hzk];rfl)
   obtain ⟨e3,f3⟩:=hO2.cell k hltq 3 _ (by rw [hzk];rfl)
   obtain ⟨e4,f4⟩:=hO2.cell k hltq 4 _ (by rw [hzk];rfl)
   obtain ⟨e5,f5⟩:=hO2.cell k hltq 5 _ (by rw [hzk];rfl)
   obtain ⟨e6,f6⟩:=hO2.cell k hltq 6 _ (by rw [hzk];rfl)
   have hkk:∀ j,k * nodeK.size + j=k * 7 + j:=fun j=>rfl
   rw [hkk] at e0 f0 e1 f1 e2 f2 e3 f3 e4 f4 e5 f5 e6 f6
   rw [Nat.add_zero] at e0 f0
   have hrow0:=hO2.1
   have hQ:=HQ.out
   rw [hQ] at hrow0
   have hrow:=own_setFrom hrow0 (k * 7) [.int .i64 x0,.int .i64 x1,.slice a2 y2.length b2,.slice a3 y3.length b3,.slice a4 y4.length b4,.slice a5 y5.length b5,.slice a6 y6.length b6]
   rw [← hcp] at hrow
   have hfp:∀ x∈nodeK.fp (.slice (some ⟨w.heap.size,0,none⟩) ps.length ps.length) qs,x < wr.heap.size:=hO.lt
   have hg0:w.heap.size∈nodeK.fp (.slice (some ⟨w.heap.size,0,none⟩) ps.length ps.length) qs:=by simp [Kind.fp,blk,Value.ownBlock]
   have hgl:w.heap.size < wr.heap.size:=hfp _ hg0
   have hNq:=HN.out
   have hdis:∀ x∈nodeK.foot p',x ∉ nodeK.fp (.slice (some ⟨w.heap.size,0,none⟩) ps.length ps.length) qs:=fun x hx hxx=>by have:=hlo' x hx;have:=hfp x hxx;omega
   have hput:nodeK.Own (((((((w2.setCell ⟨w.heap.size,k * 7,none⟩ (.int .i64 x0)).setCell ⟨w.heap.size,k * 7 + 1,none⟩ (.int .i64 x1)).setCell ⟨w.heap.size,k * 7 + 2,none⟩ (.slice a2 y2.length b2)).setCell ⟨w.heap.size,k * 7 + 3,none⟩ (.slice a3 y3.length b3)).setCell ⟨w.heap.size,k * 7 + 4,none⟩ (.slice a4 y4.length b4)).setCell ⟨w.heap.size,k * 7 + 5,none⟩ (.slice a5 y5.length b5)).setCell ⟨w.heap.size,k * 7 + 6,none⟩ (.slice a6 y6.length b6)) (.slice (some ⟨w.heap.size,0,none⟩) ps.length ps.length) (qs.set k p'):=by
    refine Kind.Own.put hO2 k hltq p' ?_ (((((((Out.setCell _ _ _ _).trans (Out.setCell _ _ _ _)).trans (Out.setCell _ _ _ _)).trans (Out.setCell _ _ _ _)).trans (Out.setCell _ _ _ _)).trans (Out.setCell _ _ _ _)).trans (Out.setCell _ _ _ _)) ?_ hown' ?_
    ·rw [hQ]
     rw [hcp] at hrow ⊢
     exact hrow
    ·intro q hq x hx hxe
     simp only [Kind.fp,blk,Value.ownBlock,Option.toList,List.cons_append,List.nil_append,List.nodup_cons] at hNq
     exact hNq.1 (List.mem_flatMap.2 ⟨q,hq,hxe ▸ hx⟩)
    ·intro x hx hxe
     have:=hlo' x hx
     omega
   have R:Hid (nodeK.Own (((((((w2.setCell ⟨w.heap.size,k * 7,none⟩ (.int .i64 x0)).setCell ⟨w.heap.size,k * 7 + 1,none⟩ (.int .i64 x1)).setCell ⟨w.heap.size,k * 7 + 2,none⟩ (.slice a2 y2.length b2)).setCell ⟨w.heap.size,k * 7 + 3,none⟩ (.slice a3 y3.length b3)).setCell ⟨w.heap.size,k * 7 + 4,none⟩ (.slice a4 y4.length b4)).setCell ⟨w.heap.size,k * 7 + 5,none⟩ (.slice a5 y5.length b5)).setCell ⟨w.heap.size,k * 7 + 6,none⟩ (.slice a6 y6.length b6)) (.slice (some ⟨w.heap.size,0,none⟩) ps.length ps.length) (qs.set k p')∧Below w.heap.size w (((((((w2.setCell ⟨w.heap.size,k * 7,none⟩ (.int .i64 x0)).setCell ⟨w.heap.size,k * 7 + 1,none⟩ (.int .i64 x1)).setCell ⟨w.heap.size,k * 7 + 2,none⟩ (.slice a2 y2.length b2)).setCell ⟨w.heap.size,k * 7 + 3,none⟩ (.slice a3 y3.length b3)).setCell ⟨w.heap.size,k * 7 + 4,none⟩ (.slice a4 y4.length b4)).setCell ⟨w.heap.size,k * 7 + 5,none⟩ (.slice a5 y5.length b5)).setCell ⟨w.heap.size,k * 7 + 6,none⟩ (.slice a6 y6.length b6))):=by
    refine ⟨hput,?_⟩
    have hbb:=hb.trans (hb2.mono hb.size)
    exact (((((((hbb.setCell (p:=⟨w.heap.size,k * 7,none⟩) (Nat.le_refl _) _).setCell (p:=⟨w.heap.size,k * 7 + 1,none⟩) (Nat.le_refl _) _).setCell (p:=⟨w.heap.size,k * 7 + 2,none⟩) (Nat.le_refl _) _).setCell (p:=⟨w.heap.size,k * 7 + 3,none⟩) (Nat.le_refl _) _).setCell (p:=⟨w.heap.size,k * 7 + 4,none⟩) (Nat.le_refl _) _).setCell (p:=⟨w.heap.size,k * 7 + 5,none⟩) (Nat.le_refl _) _).setCell (p:=⟨w.heap.size,k * 7 + 6,none⟩) (Nat.le_refl _) _)
   have R1:Hid ((nodeK.fp (.slice (some ⟨w.heap.size,0,none⟩) ps.length ps.length) (qs.set k p')).Nodup):=nodup_put hNq k hltq p' (by rw [hzk];rfl) hnd' hdis
   have R2:Hid (∀ x∈nodeK.fp (.slice (some ⟨w.heap.size,0,none⟩) ps.length ps.length) (qs.set k p'),w.heap.size≤x):=by
    intro x hx
    simp only [Kind.fp,List.mem_append] at hx
    rcases hx with hx | hx
    ·exact HG.out x (by simp only [Kind.fp,List.mem_append];exact Or.inl hx)
    ·rcases mem_foot_set hltq hx with hx | hx
     ·exact HG.out x (by simp only [Kind.fp,List.mem_append];exact Or.inr hx)
     ·have:=hlo' x hx
      omega
   have R3:Hid (∀ j (hj:j < (qs.set k p').length),k + 1≤j→(qs.set k p')[j]=(⟨0,0,.slice none 0 0,[],.slice none 0 0,[],.slice none 0 0,[],.slice none 0 0,[],.slice none 0 0,[]⟩:NodeQ)):=fun j hj hkj=>by
    rw [List.getElem_set_ne (by omega)]
    exact HZ.out j (by simpa using hj) (by omega)
   have R4:Hid ((qs.set k p').length=ps.length):=by rw [List.length_set];exact HQ.out
   have R5:Hid (((qs.set k p').take (k + 1)).map NodeQ.e=(ps.take (k + 1)).map NodeQ.e):=HPE.out p' hpe
   clear hput hrow hrow0 hQ hO2 hO HN HG HZ HE HQ HPE hNq hdis hown' hnd' hlo' hfp hg0 hb hzk hrd hto hpe hkk hcp hP
   go_wp2
   go_roundw
   case rel=>exact ⟨k + 1,qs.set k p',by omega,by go_num,R4.out,R5.out,R3.out,R.out.1,R1.out,R2.out,R.out.2⟩
   case measure=>simp [intOf];omega
  ·have hkl:k=ps.length:=by omega
   subst hkl
   have hQ:=HQ.out
   have hE:=HE.out
   rw [List.take_length,List.take_of_length_le (by omega)] at hE
   clear HE HZ
   go_wp2
   go_ret
   exact ⟨_,qs,rfl,hE,hO,HN.out,HG.out,hb⟩

end Go.Proofs.YtjjoahhnkpjolaaGreatDoor
namespace Go.Proofs.YtjjoahhnkpjolaaGreatDoor
open Go.RowKit
open Go.BigFrame
set_option maxRecDepth 100000
set_option maxRecDepth 100000
structure CluQ where
 vo:Value
 ord:List InstQ
 vm:Value
 mem:List NodeQ

structure CluE where
 ord:List InstE
 mem:List NodeE

def CluQ.e (p:CluQ):CluE:=⟨p.ord.map InstQ.e,p.mem.map NodeQ.e⟩

def CluQ.n (p:CluQ):Nat:=(p.ord.length + nmL InstQ.n p.ord) + (p.mem.length + nmL NodeQ.n p.mem)

def CluQ.wf (p:CluQ):Prop:=(p.ord.length≤9223372036854775807∧∀ q∈p.ord,InstQ.wf q)∧(p.mem.length≤9223372036854775807∧∀ q∈p.mem,NodeQ.wf q)

def cluK:Kind CluQ where
 ty:=31
 size:=2
 cells p:=[p.vo,p.vm]
 own w p:=instK.Own w p.vo p.ord∧nodeK.Own w p.vm p.mem
 rd w p:=instK.At w p.vo p.ord∧nodeK.At w p.vm p.mem
 foot p:=instK.fp p.vo p.ord ++ nodeK.fp p.vm p.mem
 len _:=rfl
 own_rd h:=⟨h.1.at,h.2.at⟩
 own_out h ho hd:=⟨h.1.out ho (fun k hk=>hd k (List.mem_append_left _ hk)),h.2.out ho (fun k hk=>hd k (List.mem_append_right _ hk))⟩
 own_lt h k hk:=by
  rcases List.mem_append.1 hk with hk | hk
  ·exact h.1.lt k hk
  ·exact h.2.lt k hk
 rd_below h hb:=⟨h.1.below hb,h.2.below hb⟩

set_option maxHeartbeats 1000000 in
theorem szCluster_k (p:CluQ) (c:Int) (w:World) (h:cluK.rd w p) (hn:CluQ.wf p) (h0:0≤c) (h1:c≤1048576) :
  Calls Tryz.prog 6 #[.agg #[p.vo,p.vm],.int .i64 c] w fun e w' => ∃ r:Int,e=.returned (.int .i64 r)∧(¬ r < 0→(CluQ.n p:Int) + r=c)∧Below w.heap.size w w' := by
 obtain ⟨vo,ord,vm,mem⟩:=p
 obtain ⟨h_0,h_1⟩:instK.At w vo ord∧nodeK.At w vm mem:=h
 obtain ⟨hn_0,hn_1⟩:(ord.length≤9223372036854775807∧∀ p∈ord,InstQ.wf p)∧(mem.length≤9223372036854775807∧∀ p∈mem,NodeQ.wf p):=hn
 obtain ⟨a0,k0,rfl⟩:=h_0.shape
 obtain ⟨a1,k1,rfl⟩:=h_1.shape
 have B:=Blk.new w 25 #[.slice a0 ord.length k0,.slice a1 mem.length k1]
 have hB:Below w.heap.size w (w.alloc (.cells #[.slice a0 ord.length k0,.slice a1 mem.length k1] 25)):=by go_grown
 dsimp only [CluQ.n]
 go_enter Tryz.func6,Tryz.ntmps6
 go_wp2_with fail
 generalize w.alloc (.cells #[.slice a0 ord.length k0,.slice a1 mem.length k1] 25)=W at *
 refine (szInstances_k _ ord c W (h_0.below hB) hn_0.1 hn_0.2 (by omega) (by omega)).mono ?_
 rintro e w0 ⟨r0,rfl,hr0,hb0⟩
 replace B:=B.below hb0
 replace hB:=hB.trans (hb0.mono hB.size)
 clear hb0
 by_cases hneg0:r0 < 0
 ·go_wp2
  go_ret
  exact ⟨_,rfl,fun h=>by omega,hB⟩
 have hs0:=hr0 hneg0
 clear hr0
 have p1:=B.cell 1 _ rfl
 go_wp2_with fail
 clear p1
 refine (szNodes_k _ mem r0 w0 (h_1.below hB) hn_1.1 hn_1.2 (by omega) (by omega)).mono ?_
 rintro e w1 ⟨r1,rfl,hr1,hb1⟩
 replace B:=B.below hb1
 replace hB:=hB.trans (hb1.mono hB.size)
 clear hb1
 by_cases hneg1:r1 < 0
 ·go_wp2
  go_ret
  exact ⟨_,rfl,fun h=>by omega,hB⟩
 have hs1:=hr1 hneg1
 clear hr1
 go_wp2
 go_ret
 exact ⟨_,rfl,fun _=>by omega,hB⟩

set_option maxHeartbeats 1000000 in
theorem eqCluster_k (p p' : CluQ) (w:World) (h:cluK.rd w p) (h' : cluK.rd w p') (he:p.e=p'.e) (hl:CluQ.n p≤1048576) :
  Calls Tryz.prog 10 #[.agg #[p.vo,p.vm],.agg #[p'.vo,p'.vm]] w fun e w' => e=.returned (.bool true)∧Below w.heap.size w w' := by
 obtain ⟨vo,ord,vm,mem⟩:=p
 obtain ⟨vo',ord',vm',mem'⟩:=p'
 simp only [CluQ.e,CluE.mk.injEq] at he
 obtain ⟨e_0,e_1⟩:=he
 dsimp only [CluQ.n] at hl
 obtain ⟨h_0,h_1⟩:instK.At w vo ord∧nodeK.At w vm mem:=h
 obtain ⟨g_0,g_1⟩:instK.At w vo' ord'  ∧ nodeK.At w vm' mem'  := h'
 have hq0:=fun w h1 h2=>eqInstances_k vo vo' ord ord' w h1 h2 e_0 (by omega)
 have hq1:=fun w h1 h2=>eqNodes_k vm vm' mem mem' w h1 h2 e_1 (by omega)
 obtain ⟨a0,k0,rfl⟩:=h_0.shape
 obtain ⟨b0,m0,rfl⟩:=g_0.shape
 obtain ⟨a1,k1,rfl⟩:=h_1.shape
 obtain ⟨b1,m1,rfl⟩:=g_1.shape
 have B:=(Blk.new w 31 #[.slice a0 ord.length k0,.slice a1 mem.length k1]).below (w' := (w.alloc (.cells #[.slice a0 ord.length k0,.slice a1 mem.length k1] 31)).alloc (.cells #[.slice b0 ord'.length m0,.slice b1 mem'.length m1] 31)) (by go_grown)
 have C:=Blk.new (w.alloc (.cells #[.slice a0 ord.length k0,.slice a1 mem.length k1] 31)) 31 #[.slice b0 ord'.length m0,.slice b1 mem'.length m1]
 have hB:Below w.heap.size w ((w.alloc (.cells #[.slice a0 ord.length k0,.slice a1 mem.length k1] 31)).alloc (.cells #[.slice b0 ord'.length m0,.slice b1 mem'.length m1] 31)):=by go_grown
 rw [World.size_alloc] at C
 clear e_0 e_1
 go_enter Tryz.func10,Tryz.ntmps10
 go_wp2_with fail
 generalize (w.alloc (.cells #[.slice a0 ord.length k0,.slice a1 mem.length k1] 31)).alloc (.cells #[.slice b0 ord'.length m0,.slice b1 mem'.length m1] 31)=W at *
 refine (hq0 W (h_0.below hB) (g_0.below hB)).mono ?_
 rintro e w0 ⟨rfl,hb0⟩
 replace B:=B.below hb0
 replace C:=C.below hb0
 replace hB:=hB.trans (hb0.mono hB.size)
 clear hb0 hq0
 have p1:=B.cell 1 _ rfl
 have q1:=C.cell 1 _ rfl
 go_wp2_with fail
 clear p1 q1
 refine (hq1 w0 (h_1.below hB) (g_1.below hB)).mono ?_
 rintro e w1 ⟨rfl,hb1⟩
 replace B:=B.below hb1
 replace C:=C.below hb1
 replace hB:=hB.trans (hb1.mono hB.size)
 clear hb1 hq1
 go_wp2
 go_ret
 exact ⟨rfl,hB⟩

set_option maxHeartbeats 4000000 in
theorem toCluster_k (p:CluQ) (w:World) (h:cluK.rd w p) (hl:CluQ.n p≤1048576) :
  Calls Tryz.prog 8 #[.agg #[p.vo,p.vm]] w fun e w' => ∃ p' : CluQ,e=.returned (.agg #[p'.vo,p'.vm])∧p'.e=p.e∧cluK.own w' p' ∧ (cluK.foot p').Nodup∧(∀ k∈cluK.foot p',w.heap.size≤k)∧Below w.heap.size w w' := by
 obtain ⟨vo,ord,vm,mem⟩:=p
 dsimp only [CluQ.n] at hl
 obtain ⟨h_0,h_1⟩:instK.At w vo ord∧nodeK.At w vm mem:=h
 have ht0:=fun w h1=>toInstances_k vo ord w h1 (by omega)
 have ht1:=fun w h1=>toNodes_k vm mem w h1 (by omega)
 obtain ⟨a0,k0,rfl⟩:=h_0.shape
 obtain ⟨a1,k1,rfl⟩:=h_1.shape
 have B:=(Blk.new w 25 #[.slice a0 ord.length k0,.slice a1 mem.length k1]).below (w' := ((w.alloc (.cells #[.slice a0 ord.length k0,.slice a1 mem.length k1] 25)).alloc (.cells #[.slice none 0 0,.slice none 0 0] 31)).alloc (.cells #[.slice none 0 0,.slice none 0 0] 31)) (by go_grown)
 have C:=(Blk.new (w.alloc (.cells #[.slice a0 ord.length k0,.slice a1 mem.length k1] 25)) 31 #[.slice none 0 0,.slice none 0 0]).below (w' := ((w.alloc (.cells #[.slice a0 ord.length k0,.slice a1 mem.length k1] 25)).alloc (.cells #[.slice none 0 0,.slice none 0 0] 31)).alloc (.cells #[.slice none 0 0,.slice none 0 0] 31)) (by go_grown)
 have D:=Blk.new ((w.alloc (.cells #[.slice a0 ord.length k0,.slice a1 mem.length k1] 25)).alloc (.cells #[.slice none 0 0,.slice none 0 0] 31)) 31 #[.slice none 0 0,.slice none 0 0]
 have hB:Below w.heap.size w (((w.alloc (.cells #[.slice a0 ord.length k0,.slice a1 mem.length k1] 25)).alloc (.cells #[.slice none 0 0,.slice none 0 0] 31)).alloc (.cells #[.slice none 0 0,.slice none 0 0] 31)):=by go_grown
 simp only [World.size_alloc] at C D
 have hS:w.heap.size + 3≤(((w.alloc (.cells #[.slice a0 ord.length k0,.slice a1 mem.length k1] 25)).alloc (.cells #[.slice none 0 0,.slice none 0 0] 31)).alloc (.cells #[.slice none 0 0,.slice none 0 0] 31)).heap.size:=by simp only [World.size_alloc];omega
 go_enter Tryz.func8,Tryz.ntmps8
 go_wp2_with fail
 generalize ((w.alloc (.cells #[.slice a0 ord.length k0,.slice a1 mem.length k1] 25)).alloc (.cells #[.slice none 0 0,.slice none 0 0] 31)).alloc (.cells #[.slice none 0 0,.slice none 0 0] 31)=W at *
 refine (ht0 W (h_0.below hB)).mono ?_
 rintro e y0 ⟨v0,q0,rfl,E0,O0,N0,G0,hb⟩
 replace B:=B.below hb
 replace C:=C.below hb
 replace D:=D.below hb
 replace hB:=hB.trans (hb.mono hB.size)
 have s0:=hb.size
 obtain ⟨x0,z0,rfl⟩:=O0.shape
 clear hb ht0
 have p1:=B.cell 1 _ rfl
 have d0:=D.cell 0 _ rfl
 have f0:=D.frozen 0
 go_wp2_with fail
 clear p1 d0 f0
 have U0:=(Out.refl [w.heap.size + 1,w.heap.size + 1 + 1] y0).set (b:=w.heap.size + 1 + 1) (j:=0) (u:=.slice x0 q0.length z0) (by simp)
 replace D:=D.set 0 (.slice x0 q0.length z0)
 replace B:=B.other (b' := w.heap.size + 1 + 1) (by omega) 0 (.slice x0 q0.length z0)
 replace C:=C.other (b' := w.heap.size + 1 + 1) (by omega) 0 (.slice x0 q0.length z0)
 replace hB:=hB.setCell (p:=⟨w.heap.size + 1 + 1,0,none⟩) (by show w.heap.size≤w.heap.size + 1 + 1;omega) (.slice x0 q0.length z0)
 simp only [pjE] at D
 have t0:=U0.size
 generalize y0.setCell ⟨w.heap.size + 1 + 1,0,none⟩ (.slice x0 q0.length z0)=V0 at *
 refine (ht1 V0 (h_1.below hB)).mono ?_
 rintro e y1 ⟨v1,q1,rfl,E1,O1,N1,G1,hb⟩
 replace U0:=U0.call hb
 replace B:=B.below hb
 replace C:=C.below hb
 replace D:=D.below hb
 replace hB:=hB.trans (hb.mono hB.size)
 have s1:=hb.size
 obtain ⟨x1,z1,rfl⟩:=O1.shape
 clear hb ht1
 clear B
 have d0:=D.cell 0 _ rfl
 have f0:=D.frozen 0
 have c0:=C.cell 0 _ rfl
 have g0:=C.frozen 0
 have d1:=D.cell 1 _ rfl
 have f1:=D.frozen 1
 have c1:=C.cell 1 _ rfl
 have g1:=C.frozen 1
 have R:Hid (∀ j u j' u' j'' u'',cluK.own (((y1.setCell ⟨w.heap.size + 1 + 1,j,none⟩ u).setCell ⟨w.heap.size + 1,j',none⟩ u').setCell ⟨w.heap.size + 1,j'',none⟩ u'') ⟨.slice x0 q0.length z0,q0,.slice x1 q1.length z1,q1⟩∧Below w.heap.size w (((y1.setCell ⟨w.heap.size + 1 + 1,j,none⟩ u).setCell ⟨w.heap.size + 1,j',none⟩ u').setCell ⟨w.heap.size + 1,j'',none⟩ u'')):=by
  intro j u j' u' j'' u''
  have X0:=(((U0.set (b:=w.heap.size + 1 + 1) (j:=j) (u:=u) (by simp)).set (b:=w.heap.size + 1) (j:=j') (u:=u') (by simp)).set (b:=w.heap.size + 1) (j:=j'') (u:=u'') (by simp))
  have X1:=((((Out.refl [w.heap.size + 1,w.heap.size + 1 + 1] y1).set (b:=w.heap.size + 1 + 1) (j:=j) (u:=u) (by simp)).set (b:=w.heap.size + 1) (j:=j') (u:=u') (by simp)).set (b:=w.heap.size + 1) (j:=j'') (u:=u'') (by simp))
  refine ⟨⟨O0.out X0 (fun k hk=>?_),O1.out X1 (fun k hk=>?_)⟩,?_⟩
  ·have:=G0 k hk
   simp only [List.mem_cons,List.not_mem_nil,or_false];omega
  ·have:=G1 k hk
   simp only [List.mem_cons,List.not_mem_nil,or_false];omega
  ·exact (((hB.setCell (p:=⟨w.heap.size + 1 + 1,j,none⟩) (by show w.heap.size≤w.heap.size + 1 + 1;omega) u).setCell (p:=⟨w.heap.size + 1,j',none⟩) (by show w.heap.size≤w.heap.size + 1;omega) u').setCell (p:=⟨w.heap.size + 1,j'',none⟩) (by show w.heap.size≤w.heap.size + 1;omega) u'')
 have R1:Hid ((cluK.foot ⟨.slice x0 q0.length z0,q0,.slice x1 q1.length z1,q1⟩).Nodup∧(∀ k∈cluK.foot ⟨.slice x0 q0.length z0,q0,.slice x1 q1.length z1,q1⟩,w.heap.size≤k)):=by
  have L0:=O0.lt
  have L1:=O1.lt
  have T0:=U0.size
  refine ⟨?_,?_⟩
  ·show List.Nodup (_ ++ _)
   exact List.nodup_append.2 ⟨N0,N1,apart_of (m:=(V0).heap.size) (fun k hk=>by have:=L0 k hk;omega) (fun k hk=>by have:=G1 k hk;omega)⟩
  ·exact (fun k hk=>by rcases List.mem_append.1 hk with hk | hk <;> first | (have:=G0 k hk;omega) | (have:=G1 k hk;omega))
 have R2:Hid (CluQ.e ⟨.slice x0 q0.length z0,q0,.slice x1 q1.length z1,q1⟩=CluQ.e ⟨.slice a0 ord.length k0,ord,.slice a1 mem.length k1,mem⟩):=show _=_ by simp only [CluQ.e,E0,E1]
 clear O0 N0 G0 O1 N1 G1 U0 E0 E1 hB C D h_0 h_1
 go_wp2
 exact bodyPost_ret (v:=.agg #[.slice x0 q0.length z0,.slice x1 q1.length z1]) (by simp [results,Tryz.results8,go_sem,c0,c1]) rfl ⟨⟨.slice x0 q0.length z0,q0,.slice x1 q1.length z1,q1⟩,rfl,R2.out,(R.out _ _ _ _ _ _).1,R1.out.1,R1.out.2,(R.out _ _ _ _ _ _).2⟩

end Go.Proofs.YtjjoahhnkpjolaaGreatDoor
namespace Go.Proofs.YtjjoahhnkpjolaaGreatDoor
open Go.RowKit
set_option maxRecDepth 100000
section
variable {P:Type} {K:Kind P} {w w' : World} {a:Option Addr} {n cap:Nat} {ps:List P}
theorem Kind.At.takeK (h:K.At w (.slice a n cap) ps) (m:Nat) (hm:m≤ps.length):K.At w (.slice a m cap) (ps.take m):=by
 obtain ⟨a',c,e,hl,hr⟩:=h
 simp only [Value.slice.injEq] at e
 obtain ⟨rfl,_,rfl⟩:=e
 refine ⟨a,cap,by rw [List.length_take,Nat.min_eq_left hm],?_,fun p hp=>hr p (List.mem_of_mem_take hp)⟩
 have er:K.row ps=K.row (ps.take m) ++ K.row (ps.drop m):=by
  unfold Kind.row
  rw [← List.flatMap_append,List.take_append_drop]
 rcases hl with h0 | ⟨b,off,ha,hlt,hc⟩
 ·left
  rw [er] at h0
  exact (List.append_eq_nil_iff.1 h0).1
 ·right
  refine ⟨b,off,ha,hlt,fun j x hx=>hc j x ?_⟩
  rw [er,List.getElem?_append_left (List.getElem?_eq_some_iff.1 hx).1]
  exact hx

theorem Kind.At.nilA (w:World) (a:Option Addr) (c' : Nat):K.At w (.slice a 0 c') ([]:List P):=⟨a,c',rfl,Or.inl rfl,fun p hp=>by simp at hp⟩

theorem Kind.At.dropS (h:K.At w (.slice a n cap) ps) (m:Nat) (hm:m≤ps.length) (hcap:ps.length≤cap) (c' : Nat):K.At w (.slice (if cap=m then a else a.map (·.add (m * K.size))) (ps.drop m).length c') (ps.drop m):=by
 by_cases hc:cap=m
 ·have hp:ps.drop m=[]:=List.drop_of_length_le (by omega)
  rw [if_pos hc,hp]
  exact Kind.At.nilA w a c'
 ·rw [if_neg hc]
  cases a with
  | none=>
   obtain ⟨a',c,e,hl,hr⟩:=h
   simp only [Value.slice.injEq] at e
   obtain ⟨rfl,_,rfl⟩:=e
   rcases hl with h0 | ⟨b',off',ha,_⟩
   ·refine ⟨none,c',rfl,Or.inl ?_,fun p hp=>hr p (List.mem_of_mem_drop hp)⟩
    have er:K.row ps=K.row (ps.take m) ++ K.row (ps.drop m):=by
     unfold Kind.row
     rw [← List.flatMap_append,List.take_append_drop]
    rw [er] at h0
    exact (List.append_eq_nil_iff.1 h0).2
   ·simp at ha
  | some x=>
   obtain ⟨a',c,e,hl,hr⟩:=h
   simp only [Value.slice.injEq] at e
   obtain ⟨rfl,_,rfl⟩:=e
   refine ⟨_,c',rfl,?_,fun p hp=>hr p (List.mem_of_mem_drop hp)⟩
   have er:K.row ps=K.row (ps.take m) ++ K.row (ps.drop m):=by
    unfold Kind.row
    rw [← List.flatMap_append,List.take_append_drop]
   have hlen:(K.row (ps.take m)).length=m * K.size:=by rw [Kind.row_length,List.length_take,Nat.min_eq_left hm]
   rcases hl with h0 | ⟨b',off',ha,hlt,hc⟩
   ·left
    rw [er] at h0
    exact (List.append_eq_nil_iff.1 h0).2
   ·right
    simp only [Option.some.injEq] at ha
    subst ha
    refine ⟨b',off' + m * K.size,by simp [Addr.add],hlt,fun j y hy=>?_⟩
    have h2:=hc (m * K.size + j) y (by rw [er,List.getElem?_append_right (by omega),hlen,show m * K.size + j - m * K.size=j by omega];exact hy)
    rw [← Nat.add_assoc] at h2
    exact h2

/-- A row of one's own whose elements are read elsewhere. -/
theorem Kind.at_of_row {v:Value} {base e:Nat} (h:w.ownsRow base e K.size v ps.length (K.row ps)) (hr:∀ p∈ps,K.rd w p):K.At w v ps:=by
 obtain ⟨a,c,rfl⟩:=own_shape h
 exact ⟨a,c,rfl,Lies.own h,hr⟩

end
theorem Blk.outs8 {w w' : World} {b:Nat} {t:TypeId} {cs:Array Value} {F:List Nat} (h:Blk w b t cs) (hU:Out F w w') (hF:b ∉ F):Blk w' b t cs:=(hU.block b h.lt hF).trans h

/-- What goes with a slice: how long it may be. -/
def CapOk:Value→Prop
 | .slice _ n c=>n≤c∧c≤maxLen
 | _=>False

end Go.Proofs.YtjjoahhnkpjolaaGreatDoor
