/- Texts joined, with what the laws reach alone. -/
import Derived.Test.YtdhdnppbgaikfaaGreatDoorLDAJ
import Derived.Maps.AppendAt
set_option linter.unusedVariables false
set_option linter.unusedSimpArgs false
namespace Go.Proofs.YtdhdnppbgaikfaaGreatDoor
open Go.RowKit
open Go.BigFrame
set_option maxRecDepth 100000
/-- The board that boardOf answers. -/
def bdOf (p:InstQ):List Value:=if insF p.e=0 then brdC p.has p.vb p.e.rounds p.dec else brd0

theorem ins_zero {x:InstE} (h:insF x=0):shpF x=0∧rgtI x=true:=by
 unfold insF at h
 by_cases h0:shpF x=0
 ·rw [if_pos h0] at h
  refine ⟨h0,?_⟩
  by_cases h1:rgtI x=true
  ·exact h1
  ·rw [if_neg h1] at h
   simp at h
 ·rw [if_neg h0] at h
  exact absurd h h0

/-- What a right instance is like. -/
theorem ins_ok {x:InstE} (h:insF x=0):Wel x.rounds∧(1≤x.rounds.length∧x.rounds.length≤4)∧x.dec.length=3∧rndsF x.rounds=0∧vf x.dec 1=0:=by
 obtain ⟨h0,_⟩:=ins_zero h
 obtain ⟨h1,h2,h3,_⟩:=shp_zero h0
 exact ⟨wel_of h2,h1,vf_len h3,h2,h3⟩

theorem brd_one {has:Bool} {vb:Value} {rs:List RoundE} {dec:List Int} (hv:vb.oneCell' = true):(brdC has vb rs dec).toArray.all (·.oneCell')=true:=all_oneCell_toArray (fun v hm=>by
 simp only [brdC,rndC,rowsV,List.mem_append,List.mem_cons,List.mem_flatMap,List.mem_replicate,List.mem_map,rowC,List.not_mem_nil,or_false] at hm
 rcases hm with (rfl | ⟨r,_,z,_,rfl⟩ | ⟨_,rfl⟩) | (rfl | rfl) | ⟨z,_,rfl⟩ <;> first | rfl | exact hv)

theorem bd_ok {w:World} {p:InstQ} (h:instK.rd w p):(bdOf p).length=30∧(bdOf p).toArray.all (·.oneCell')=true:=by
 unfold bdOf
 by_cases h0:insF p.e=0
 ·rw [if_pos h0]
  obtain ⟨h1,h2,h3,_⟩:=ins_ok h0
  refine ⟨brdC_length h1 h2.2 h3,brd_one ?_⟩
  obtain ⟨a,c,e⟩:=h.1.shape
  rw [e];rfl
 ·rw [if_neg h0]
  exact ⟨rfl,by kernel_rfl⟩

set_option maxHeartbeats 2000000 in
theorem implInstanceFault_any (p:InstQ) (w:World) (hG:Rul w) (h:instK.rd w p) (hl:p.n≤1048576) :
  Calls Tryz.prog 10 #[.agg #[.bool p.has,p.vb,p.vr,p.vd]] w fun e w' => e=.returned (.int .i64 (insF p.e))∧Below w.heap.size w w' := by
 obtain ⟨hl30,hone⟩:=bd_ok h
 have hbo:=fun w hG h=>boardOf_any p w hG h hl
 have hrb:=fun (w' : World) hb=>instK.rd_below (w' := w') h hb
 change ∀ w hG h,Calls _ _ _ _ fun e w' => e=.returned (.tuple #[.agg (bdOf p).toArray,_])∧_ at hbo
 generalize bdOf p=BD at *
 generalize insF p.e=C at *
 obtain ⟨has,vb,batch,vr,rounds,vd,dec⟩:=p
 obtain ⟨ba,bk,rfl⟩:∃ a c,vb=.slice a batch.length c:=h.1.shape
 obtain ⟨va,vk,rfl⟩:∃ a c,vr=.slice a rounds.length c:=h.2.1.shape
 obtain ⟨da,dk,rfl⟩:∃ a c,vd=.slice a dec.length c:=h.2.2.shape
 dsimp only at hbo hrb
 have hB:Below w.heap.size w (w.alloc (.cells #[.bool has,.slice ba batch.length bk,.slice va rounds.length vk,.slice da dec.length dk] 28)):=by go_grown
 have hszB:(Tryz.prog.info? 58).map (·.size)=some BD.toArray.size:=by rw [List.size_toArray,hl30];exact sz_board
 have hold:(#[.int .i64 0,.int .i64 0,.int .i64 0,.int .i64 0,.int .i64 0,.int .i64 0,.int .i64 0,.int .i64 0,.int .i64 0,.int .i64 0,.int .i64 0,.int .i64 0,.int .i64 0,.int .i64 0,.int .i64 0,.int .i64 0,.int .i64 0,.int .i64 0,.int .i64 0,.int .i64 0,.int .i64 0,.int .i64 0,.int .i64 0,.int .i64 0,.int .i64 0,.bool false,.slice none 0 0,.int .i64 0,.int .i64 0,.int .i64 0]:Array Value).size=BD.toArray.size:=(show 30=BD.length from hl30.symm)
 go_enter Tryz.func10,Tryz.ntmps10
 go_wp2_with fail
 generalize w.alloc (.cells #[.bool has,.slice ba batch.length bk,.slice va rounds.length vk,.slice da dec.length dk] 28)=W at *
 refine (hbo W (hG.below hB) (hrb W hB)).mono ?_
 rintro e w1 ⟨rfl,hb1⟩
 replace hB:=hB.trans (hb1.mono hB.size)
 have Bz:=Blk.new w1 58 #[.int .i64 0,.int .i64 0,.int .i64 0,.int .i64 0,.int .i64 0,.int .i64 0,.int .i64 0,.int .i64 0,.int .i64 0,.int .i64 0,.int .i64 0,.int .i64 0,.int .i64 0,.int .i64 0,.int .i64 0,.int .i64 0,.int .i64 0,.int .i64 0,.int .i64 0,.int .i64 0,.int .i64 0,.int .i64 0,.int .i64 0,.int .i64 0,.int .i64 0,.bool false,.slice none 0 0,.int .i64 0,.int .i64 0,.int .i64 0]
 have hB2:=below_row (hB.alloc hB.size (.cells #[.int .i64 0,.int .i64 0,.int .i64 0,.int .i64 0,.int .i64 0,.int .i64 0,.int .i64 0,.int .i64 0,.int .i64 0,.int .i64 0,.int .i64 0,.int .i64 0,.int .i64 0,.int .i64 0,.int .i64 0,.int .i64 0,.int .i64 0,.int .i64 0,.int .i64 0,.int .i64 0,.int .i64 0,.int .i64 0,.int .i64 0,.int .i64 0,.int .i64 0,.bool false,.slice none 0 0,.int .i64 0,.int .i64 0,.int .i64 0] 58)) (g:=w1.heap.size) hB.size BD.toArray
 clear hbo hrb hb1
 go_wp2_with (refine st_row (by kernel_rfl) 58 _ _ rfl _ BD.toArray rfl rfl 58 _ Bz hszB hold hone ?_)
 go_ret
 exact ⟨rfl,hB2⟩

/-- What the first one that decided decided, or that none did. -/
def outV:List Int→Int
 | []=>3
 | x :: r=>if x=3 then outV r else x

end Go.Proofs.YtdhdnppbgaikfaaGreatDoor
namespace Go.Proofs.YtdhdnppbgaikfaaGreatDoor
open Go.RowKit
set_option maxRecDepth 100000
section
variable {P:Type} {K:Kind P} {w w' : World} {v v' : Value} {ps:List P} {p:P} {B:Nat}
theorem Kind.row_snoc (ps:List P) (p:P):K.row (ps ++ [p])=K.row ps ++ K.cells p:=by simp [Kind.row]

theorem Kind.Own.snoc (h:K.Own w v ps) (hnd:(K.fp v ps).Nodup) (hlo:∀ k∈K.fp v ps,B≤k) (hp:K.own w p) (hpn:(K.foot p).Nodup) (hpd:∀ k∈K.foot p,k ∉ K.fp v ps) (hplo:∀ k∈K.foot p,B≤k) (hB:B≤w.heap.size)
  (hrow:w'.ownsRow 0 K.ty K.size v' (ps.length + 1) (K.row ps ++ K.cells p)) (hg:w.grownBy w' v.ownBlock) (hat:v'.ownBlock=v.ownBlock∨v'.ownBlock=some w.heap.size) :
  K.Own w' v' (ps ++ [p])∧(K.fp v' (ps ++ [p])).Nodup∧(∀ k∈K.fp v' (ps ++ [p]),B≤k)∧Out (blk v) w w' := by
 have hO:Out (blk v) w w' := Out.of_grown hg
 have hnd2:=List.nodup_append.1 hnd
 have hlt:=h.lt
 have hplt:=K.own_lt hp
 have hfe:(ps ++ [p]).flatMap K.foot=ps.flatMap K.foot ++ K.foot p:=by simp
 refine ⟨⟨?_,?_⟩,?_,?_,hO⟩
 ·rw [List.length_append,List.length_singleton,Kind.row_snoc]
  exact hrow
 ·intro q hq
  rcases List.mem_append.1 hq with hq | hq
  ·exact K.own_out (h.2 q hq) hO (fun k hk hkb=>hnd2.2.2 k hkb k (List.mem_flatMap.2 ⟨q,hq,hk⟩) rfl)
  ·simp only [List.mem_singleton] at hq
   subst hq
   exact K.own_out hp hO (fun k hk hkb=>hpd k hk (by simp only [Kind.fp,List.mem_append];exact Or.inl hkb))
 ·unfold Kind.fp
  rw [hfe]
  have hrest:(ps.flatMap K.foot ++ K.foot p).Nodup:=List.nodup_append.2 ⟨hnd2.2.1,hpn,fun a ha b hb e=>hpd b hb (by simp only [Kind.fp,List.mem_append];exact Or.inr (e ▸ ha))⟩
  rcases hat with hat | hat
  ·have e:blk v' = blk v:=by unfold blk;rw [hat]
   rw [e]
   refine List.nodup_append.2 ⟨hnd2.1,hrest,fun a ha b hb e=>?_⟩
   subst e
   rcases List.mem_append.1 hb with hb | hb
   ·exact hnd2.2.2 a ha a hb rfl
   ·exact hpd a hb (by simp only [Kind.fp,List.mem_append];exact Or.inl ha)
  ·have e:blk v' = [w.heap.size]:=by unfold blk;rw [hat];rfl
   rw [e]
   refine List.nodup_append.2 ⟨by simp,hrest,fun a ha b hb e=>?_⟩
   simp only [List.mem_singleton] at ha
   subst e ha
   rcases List.mem_append.1 hb with hb | hb
   ·have:=hlt _ (show w.heap.size∈K.fp v ps by simp only [Kind.fp,List.mem_append];exact Or.inr hb)
    omega
   ·have:=hplt _ hb
    omega
 ·intro k hk
  unfold Kind.fp at hk
  rw [hfe] at hk
  rcases List.mem_append.1 hk with hk | hk
  ·rcases hat with hat | hat
   ·exact hlo k (by simp only [Kind.fp,List.mem_append];left;unfold blk at hk ⊢;rw [hat] at hk;exact hk)
   ·unfold blk at hk
    rw [hat] at hk
    simp only [Option.toList,List.mem_singleton] at hk
    omega
  ·rcases List.mem_append.1 hk with hk | hk
   ·exact hlo k (by simp only [Kind.fp,List.mem_append];exact Or.inr hk)
   ·exact hplo k hk

theorem Kind.own_nil (w:World):K.Own w (.slice none 0 0) ([]:List P)∧(K.fp (.slice none 0 0) ([]:List P))=[]:=⟨⟨World.ownsRow_nil _ _ _ _,fun p hp=>by simp at hp⟩,by simp [Kind.fp,blk,Value.ownBlock]⟩

end
end Go.Proofs.YtdhdnppbgaikfaaGreatDoor
namespace Go.Proofs.YtdhdnppbgaikfaaGreatDoor
open Go.RowKit
open Go.BigFrame
set_option maxRecDepth 100000
set_option maxHeartbeats 2000000 in
theorem cloneTxns_any (v:Value) (ps:List TxnQ) (w:World) (h:txnK.At w v ps) (hne:∀ p∈ps,0 < p.acts.length) (hl:ps.length + nmL TxnQ.n ps≤1048576) :
  Calls Tryz.prog 56 #[v] w fun e w' => ∃ v' qs,e=.returned v' ∧ qs.map TxnQ.e=ps.map TxnQ.e∧txnK.Own w' v' qs∧(txnK.fp v' qs).Nodup∧(∀ k∈txnK.fp v' qs,w.heap.size≤k)∧Below w.heap.size w w' := by
 obtain ⟨a,cap,rfl⟩:=h.shape
 obtain ⟨i0,hi,hz0,hz1,hz2⟩:=info_parts infoTxn
 obtain ⟨hn1,hn2⟩:=Kind.own_nil (K:=txnK) w
 have HN0:Hid ((txnK.fp (.slice none 0 0) ([]:List TxnQ)).Nodup∧∀ k∈txnK.fp (.slice none 0 0) ([]:List TxnQ),w.heap.size≤k):=by
  rw [hn2]
  exact ⟨by simp,by simp⟩
 clear hn2
 go_enter Tryz.func56,Tryz.ntmps56
 go_wp2
 go_loopw [3,8] (fun v j wr=>∃ (k:Nat) (qs:List TxnQ),k≤ps.length∧j=.int .i64 k∧Hid (qs.map TxnQ.e=(ps.take k).map TxnQ.e)∧txnK.Own wr v qs∧Hid ((txnK.fp v qs).Nodup∧∀ k∈txnK.fp v qs,w.heap.size≤k)∧Below w.heap.size w wr) (fun _ j _=>ps.length - (intOf j).toNat)
 case atStart=>exact ⟨0,[],Nat.zero_le _,rfl,(rfl:_=_),hn1,HN0,Below.refl _ _⟩
 case round=>
  clear HN0 hn1
  obtain ⟨k,qs,hk,rfl,HE,hO,HN,hb⟩:=hrel
  obtain ⟨sa,sc,rfl⟩:=hO.shape
  have HQL:Hid (qs.length=k):=by
   have:=congrArg List.length HE.out
   rw [List.length_map,List.length_map,List.length_take] at this
   show qs.length=k
   omega
  by_cases hlt:k < ps.length
  ·obtain ⟨b,off,rfl,hbs,hc,hrd⟩:=(h.below hb).cell (by decide) k hlt
   have hc' : ∀ j x,(txnK.cells ps[k])[j]? = some x→wr.cell? ⟨b,off + k * 4 + j,none⟩=some x:=hc
   have c0:=hc' 0 (.int .i64 ps[k].i) rfl
   have c1:=hc' 1 (.int .i64 ps[k].s) rfl
   have c2:=hc' 2 (.int .i64 ps[k].q) rfl
   have c3:=hc' 3 (ps[k].va) rfl
   have hzl:=nm_le TxnQ.n ps k hlt
   have hpos:=hne _ (List.getElem_mem hlt)
   have HPE:Hid (∀ p' : TxnQ,p'.e=TxnQ.e ps[k]→(qs ++ [p']).map TxnQ.e=(ps.take (k + 1)).map TxnQ.e):=fun p' hp' => by
    rw [List.take_succ_eq_append_getElem hlt,List.map_append,List.map_append,HE.out,List.map_singleton,List.map_singleton,hp']
   clear hc hc'
   generalize ps[k]=p at *
   obtain ⟨i,s,q,va,acts⟩:=p
   replace hrd:actK.At wr va acts:=hrd
   replace hzl:acts.length≤nmL TxnQ.n ps:=hzl
   obtain ⟨aa,ac,rfl⟩:=hrd.shape
   dsimp only at c0 c1 c2 c3 hpos
   obtain ⟨ab,ao,haa⟩:∃ ab ao,aa=some ⟨ab,ao,none⟩:=by
    rcases (actK_at hrd).2 with h0 | ⟨ab,ao,e,_⟩
    ·have:=actCells_length acts
     rw [h0] at this
     simp at this
     omega
    ·exact ⟨ab,ao,e⟩
   subst haa
   have hbY:Below wr.heap.size wr (wr.alloc (.cells #[.int .i64 i,.int .i64 s,.int .i64 q,.slice (some ⟨ab,ao,none⟩) acts.length ac] 91)):=by go_grown
   have hcl:=cloneTxn_any i s q ab ao ac acts _ ((actK_at hrd).2.below hbY) hpos (by omega)
   rw [Nat.add_zero] at c0
   replace hO:=hO.below hbY
   replace hb:=hb.trans (hbY.mono hb.size)
   clear HE hbY
   go_wp2_with fail
   clear c0 c1 c2 c3
   generalize wr.alloc (.cells #[.int .i64 i,.int .i64 s,.int .i64 q,.slice (some ⟨ab,ao,none⟩) acts.length ac] 91)=Y at *
   have hYs:w.heap.size≤Y.heap.size:=hb.size
   refine hcl.mono ?_
   rintro e w2 ⟨a2,c2,rfl,ho2,hb2⟩
   have HLT:=hO.lt
   replace hO:=hO.below hb2
   replace hb:=hb.trans (hb2.mono hb.size)
   obtain ⟨o2,hk2⟩:=own_zero ho2
   have hP:txnK.own w2 ⟨i,s,q,.slice a2 acts.length c2,acts⟩:=⟨o2,fun _ _=>trivial⟩
   have hPlo:∀ x∈txnK.foot ⟨i,s,q,.slice a2 acts.length c2,acts⟩,Y.heap.size≤x:=fun x hx=>hk2 x (by rw [← actK_fp (.slice a2 acts.length c2) acts];exact hx)
   have hPn:(txnK.foot ⟨i,s,q,.slice a2 acts.length c2,acts⟩).Nodup:=by
    show (actK.fp _ _).Nodup
    rw [actK_fp];exact blk_nodup _
   have hbA:Below w2.heap.size w2 (w2.alloc (.cells #[.int .i64 i,.int .i64 s,.int .i64 q,.slice a2 acts.length c2] 91)):=by go_grown
   have hOA:=hO.below hbA
   have hPA:=txnK.own_out (F:=[]) hP (Out.of_below hbA) (fun _ _=>by simp)
   have hbB:=hb.trans (hbA.mono hb.size)
   clear hcl ho2 hO hP hk2
   have hrow0:=hOA.1
   go_wp2_with (at_builtin;refine wpList_append_own_at _ rfl _ _ 24 rfl 0 91 i0 (.agg #[.int .i64 0,.int .i64 0,.int .i64 0,.slice none 0 0]) 4 48 Tryz.underlying24 hi hz0 hz1 hz2 rfl (by decide) _ qs.length (txnK.row qs) rfl hrow0 ⟨w2.heap.size,0,none⟩ 1 1 [.int .i64 i,.int .i64 s,.int .i64 q,.slice a2 acts.length c2] rfl rfl ?c1 ?c2 ?c3 ?c4 ?c5 ?_)
   all_goals try (case c1=>intro j u hj;match j,hj with | 0,hj=>simp at hj;subst hj;simp [Addr.add] | 1,hj=>simp at hj;subst hj;simp [Addr.add] | 2,hj=>simp at hj;subst hj;simp [Addr.add] | 3,hj=>simp at hj;subst hj;simp [Addr.add])
   all_goals try (case c2=>intro u hu;simp at hu;rcases hu with rfl | rfl | rfl | rfl <;> rfl)
   all_goals try (case c3=>have:=HQL.out;unfold maxLen;omega)
   all_goals try (case c4=>have:=HQL.out;omega)
   all_goals try (case c5=>first | omega | simp)
   intro v' w5 hown hgrow hnil hat
   clear hnil hrow0
   rw [show w2.heap.size + 1=(w2.alloc (.cells #[.int .i64 i,.int .i64 s,.int .i64 q,.slice a2 acts.length c2] 91)).heap.size from (World.size_alloc _ _).symm] at hat
   generalize hwA:w2.alloc (.cells #[.int .i64 i,.int .i64 s,.int .i64 q,.slice a2 acts.length c2] 91)=WA at *
   clear hwA
   have hsz:Y.heap.size≤WA.heap.size:=by have:=hb2.size;have:=hbA.size;omega
   obtain ⟨hO5,hn5,hlo5,hou⟩:=hOA.snoc HN.out.1 HN.out.2 hPA hPn (fun x hx hx' => by have:=HLT x hx';have:=hPlo x hx;omega) (fun x hx=>by have:=hPlo x hx;omega) hbB.size hown hgrow hat
   have hb5:Below w.heap.size w w5:=Out.keep hbB hou hbB.size (fun x hx=>HN.out.2 x (by simp only [Kind.fp,List.mem_append];exact Or.inl hx))
   have HE5:Hid ((qs ++ [(⟨i,s,q,.slice a2 acts.length c2,acts⟩:TxnQ)]).map TxnQ.e=(ps.take (k + 1)).map TxnQ.e):=HPE.out _ rfl
   have HN5:Hid ((txnK.fp v' (qs ++ [(⟨i,s,q,.slice a2 acts.length c2,acts⟩:TxnQ)])).Nodup∧∀ k∈txnK.fp v' (qs ++ [(⟨i,s,q,.slice a2 acts.length c2,acts⟩:TxnQ)]),w.heap.size≤k):=⟨hn5,hlo5⟩
   clear HPE HN HLT hPlo hPn hPA hOA hbB hown hgrow hat hou hn5 hlo5 hrd hb hbA hb2 hzl hpos
   go_wp2
   go_roundw
   case rel=>exact ⟨k + 1,_,by omega,by go_num,HE5,hO5,HN5,hb5⟩
   case measure=>simp [intOf];omega
  ·have hkl:k=ps.length:=by omega
   subst hkl
   have hE:=HE.out
   rw [List.take_length] at hE
   clear HE
   go_wp2
   go_ret
   exact ⟨_,qs,rfl,hE,hO,HN.out.1,HN.out.2,hb⟩

end Go.Proofs.YtdhdnppbgaikfaaGreatDoor
namespace Go.Proofs.YtdhdnppbgaikfaaGreatDoor
open Go.RowKit
open Go.BigFrame
set_option maxRecDepth 100000
theorem ld_atO {F:List Nat} {w:World} {b o:Nat} (L:List Value) (ty:TypeId) (d:TypeDesc) (hr:w.rangeAt b o L) (hF:b ∉ F) (hu:Tryz.prog.underlying ty=some d) (hd:d.isRow=true) (hi:(Tryz.prog.info? ty).map (·.size)=some L.length) :
  ∀ u:LatO F w,(Instr.loadAt ty (.pointer (some ⟨b,o,none⟩))).run Tryz.prog u.val=.ok (.agg L.toArray) u.val:=fun u=>
 run_loadAt_mid u.val b o ty L d (fun j v hv=>lato_cell (hr j v hv) hF u) hu hd hi

theorem intK_nodup (v:Value) (zs:List Int):(intK.fp v zs).Nodup:=by
 rw [intK_fp];exact blk_nodup v

set_option maxHeartbeats 4000000 in
theorem roundList_any (rs:List RoundE) (w:World) (h:Wel rs) (h4:rs.length≤4) :
  Calls Tryz.prog 57 #[.agg (rndC rs).toArray] w fun e w' => ∃ v qs,e=.returned v∧qs.map RoundQ.e=rs∧roundK.Own w' v qs∧(roundK.fp v qs).Nodup∧(∀ k∈roundK.fp v qs,w.heap.size≤k)∧Below w.heap.size w w' := by
 have B:=Blk.new w 56 (rndC rs).toArray
 have hb0:Below w.heap.size w (w.alloc (.cells (rndC rs).toArray 56)):=by go_grown
 have hc:=rnd_cnt rs
 have hl4:(rs.length:Int)≤4:=by omega
 obtain ⟨i0,hi,hz0,hz1,hz2⟩:=info_parts infoRound
 have HRG:Hid (∀ r,r < rs.length→∀ j v,(rowC (rs.getD r rnd0))[j]? = some v→(rndC rs)[1 + r * 6 + j]? = some v):=fun r hr j v hv=>by
  have hj:=(List.getElem?_eq_some_iff.1 hv).1
  rw [rowC_length (wel_at h r hr)] at hj
  rw [rnd_in h r hr j hj]
  exact hv
 generalize rndC rs=ds at *
 go_enter Tryz.func57,Tryz.ntmps57
 go_wp2
 clear hc
 generalize w.alloc (.cells ds.toArray 56)=W at *
 obtain ⟨hn1,hn2⟩:=Kind.own_nil (K:=roundK) W
 have HN0:Hid ((roundK.fp (.slice none 0 0) ([]:List RoundQ)).Nodup∧∀ k∈roundK.fp (.slice none 0 0) ([]:List RoundQ),W.heap.size≤k):=by
  rw [hn2]
  exact ⟨by simp,by simp⟩
 clear hn2
 go_loopw [3,11] (fun v j wr=>∃ (k:Nat) (qs:List RoundQ),k≤rs.length∧j=.int .i64 k∧Hid (qs.map RoundQ.e=rs.take k)∧roundK.Own wr v qs∧Hid ((roundK.fp v qs).Nodup∧∀ k∈roundK.fp v qs,W.heap.size≤k)∧Below W.heap.size W wr) (fun _ j _=>rs.length - (intOf j).toNat)
 case atStart=>exact ⟨0,[],Nat.zero_le _,rfl,(rfl:_=_),hn1,HN0,Below.refl _ _⟩
 case round=>
  clear HN0 hn1
  obtain ⟨k,qs,hk,rfl,HE,hO,HN,hb⟩:=hrel
  obtain ⟨sa,sc,rfl⟩:=hO.shape
  by_cases hlt:k < rs.length
  ·have hwl:=wel_at h k hlt
   have HQL:Hid (qs.length≤4):=by
    have:=congrArg List.length HE.out
    rw [List.length_map,List.length_take] at this
    show qs.length≤4
    omega
   have HPE:Hid (∀ p' : RoundQ,p'.e=rs.getD k rnd0→(qs ++ [p']).map RoundQ.e=rs.take (k + 1)):=fun p' hp' => by
    rw [List.take_succ_eq_append_getElem hlt,List.map_append,HE.out,List.map_singleton,hp']
    simp [List.getD,hlt]
   have hrg1:=rng (B.below hb) (rowC (rs.getD k rnd0)) (o:=1 + k * 6) (fun j v hv=>by rw [List.getElem?_toArray];exact HRG.out k hlt j v hv)
   clear HE
   generalize rs.getD k rnd0=q at *
   obtain ⟨qr,qp⟩:=q
   obtain ⟨l1,l2⟩:qr.length=3∧qp.length=3:=hwl
   obtain ⟨x0,x1,x2,rfl⟩:=three l1
   obtain ⟨y0,y1,y2,rfl⟩:=three l2
   clear l1 l2
   have hsz6:(Tryz.prog.info? 53).map (·.size)=some (rowC ⟨[x0,x1,x2],[y0,y1,y2]⟩).length:=sz_rows
   have hsz6' : (Tryz.prog.info? 53).map (·.size)=some (rowC ⟨[x0,x1,x2],[y0,y1,y2]⟩).toArray.size:=hsz6
   have hBn:=Blk.new wr 53 #[.int .i64 0,.int .i64 0,.int .i64 0,.int .i64 0,.int .i64 0,.int .i64 0]
   have hB3:=hBn.row (rowC ⟨[x0,x1,x2],[y0,y1,y2]⟩).toArray
   have hb3:Below W.heap.size W ((wr.alloc (.cells #[.int .i64 0,.int .i64 0,.int .i64 0,.int .i64 0,.int .i64 0,.int .i64 0] 53)).setRow wr.heap.size (rowC ⟨[x0,x1,x2],[y0,y1,y2]⟩).toArray):=below_row (hb.alloc hb.size _) hb.size _
   have hb3r:Below wr.heap.size wr ((wr.alloc (.cells #[.int .i64 0,.int .i64 0,.int .i64 0,.int .i64 0,.int .i64 0,.int .i64 0] 53)).setRow wr.heap.size (rowC ⟨[x0,x1,x2],[y0,y1,y2]⟩).toArray):=below_row ((Below.refl _ _).alloc (Nat.le_refl _) _) (Nat.le_refl _) _
   have hold:(#[.int .i64 0,.int .i64 0,.int .i64 0,.int .i64 0,.int .i64 0,.int .i64 0]:Array Value).size=(rowC ⟨[x0,x1,x2],[y0,y1,y2]⟩).toArray.size:=rfl
   have hone:(rowC ⟨[x0,x1,x2],[y0,y1,y2]⟩).toArray.all (·.oneCell')=true:=one_iv _
   have HF:Hid (∀ x∈roundK.fp (.slice sa qs.length sc) qs,x < wr.heap.size):=hO.lt
   replace hO:=hO.below hb3r
   go_wp2_with (first | (refine ld_g (by kernel_rfl) 53 _ rfl _ _ rfl (rowC ⟨[x0,x1,x2],[y0,y1,y2]⟩) _ hrg1 Tryz.underlying53 rfl hsz6 ?_) | (refine st_row (by kernel_rfl) 53 _ _ rfl _ (rowC ⟨[x0,x1,x2],[y0,y1,y2]⟩).toArray rfl rfl 53 _ hBn hsz6' hold hone ?_))
   clear hrg1 hsz6 hsz6' hold hone hBn hb3r
   generalize (wr.alloc (.cells #[.int .i64 0,.int .i64 0,.int .i64 0,.int .i64 0,.int .i64 0,.int .i64 0] 53)).setRow wr.heap.size (rowC ⟨[x0,x1,x2],[y0,y1,y2]⟩).toArray=W3 at *
   have hF:wr.heap.size ∉ blk (.slice sa qs.length sc):=fun hx=>by
    have:=HF.out _ (by simp only [Kind.fp,List.mem_append];exact Or.inl hx)
    omega
   have p0:=ld_atO (F:=blk (.slice sa qs.length sc)) ([x0,x1,x2].map iv) 51 _ (rng hB3 ([x0,x1,x2].map iv) (o:=0) (fun j v hv=>by match j,hv with | 0,hv=>exact hv | 1,hv=>exact hv | 2,hv=>exact hv)) hF Tryz.underlying51 rfl sz_row
   have p1:=ld_atO (F:=blk (.slice sa qs.length sc)) ([y0,y1,y2].map iv) 51 _ (rng hB3 ([y0,y1,y2].map iv) (o:=3) (fun j v hv=>by match j,hv with | 0,hv=>exact hv | 1,hv=>exact hv | 2,hv=>exact hv)) hF Tryz.underlying51 rfl sz_row
   have hnn:Nonempty (LatO (blk (.slice sa qs.length sc)) W3):=⟨⟨W3,Out.refl _ _⟩⟩
   have hW:Below W3.heap.size W3 W3.drew:=(Below.refl _ _).drew
   have hnw:∀ w',Below W3.heap.size W3 w' → ∃ u:LatO (blk (.slice sa qs.length sc)) W3,w' = u.val:=fun w' hw' => ⟨⟨w',Out.of_below hw'⟩,rfl⟩
   simp only [Act.put]
   refine text_begin (S:=fun w' => ∃ u:LatO (blk (.slice sa qs.length sc)) W3,w' = u.val) (by kernel_rfl) ?_
   refine sgr [(0,2),(4,1)] 8 (by kernel_rfl) (hnw _ hW) ?_
   simp only [pkE]
   repeat go_big_quiet_step (fail)
   refine wpQuiet_nil ?_
   refine qta 2 (some 17) (.agg ([x0,x1,x2].map iv).toArray) 7 (by kernel_rfl) (fun u hu=>?_) (hnw _ hW) ?_
   ·obtain ⟨u,rfl⟩:=hu
    show some (((Instr.loadAt 51 (.pointer (some ⟨wr.heap.size,0,none⟩))) >>= fun x=>pure (Next.value x):Sem Next).run Tryz.prog u.val)=_
    rw [Sem.run_bind,p0 u]
    rfl
   simp only [Act.put,pjE]
   refine qta 5 (some 20) (.agg ([y0,y1,y2].map iv).toArray) 6 (by kernel_rfl) (fun u hu=>?_) (hnw _ hW) ?_
   ·obtain ⟨u,rfl⟩:=hu
    show some (((Instr.loadAt 51 (.pointer (some ⟨wr.heap.size,3,none⟩))) >>= fun x=>pure (Next.value x):Sem Next).run Tryz.prog u.val)=_
    rw [Sem.run_bind,p1 u]
    rfl
   simp only [Act.put,pjE]
   refine cla 3 (some 18) 58 #[.agg ([x0,x1,x2].map iv).toArray] 5 (by kernel_rfl) ?_
   refine (list_any [x0,x1,x2] _ rfl).mono ?_
   rintro e w8 ⟨a1,c1,rfl,o1,g1,_,hb8⟩
   have L1:∀ x∈intK.fp (.slice a1 3 c1) [x0,x1,x2],W3.heap.size≤x:=fun x hx=>by have:=g1 x hx;have:=hW.size;omega
   have M1:=o1.lt
   replace hW:=hW.trans (hb8.mono hW.size)
   clear hb8 g1
   refine ⟨_,rfl,hnw _ hW,?_⟩
   simp only [Act.put,pjE]
   refine cla 6 (some 21) 58 #[.agg ([y0,y1,y2].map iv).toArray] 4 (by kernel_rfl) ?_
   refine (list_any [y0,y1,y2] _ rfl).mono ?_
   rintro e w9 ⟨a2,c2,rfl,o2,g2,_,hb9⟩
   have L2:∀ x∈intK.fp (.slice a2 3 c2) [y0,y1,y2],W3.heap.size≤x:=fun x hx=>by have:=g2 x hx;have:=hW.size;omega
   have hdis:∀ x∈intK.fp (.slice a1 3 c1) [x0,x1,x2],∀ y∈intK.fp (.slice a2 3 c2) [y0,y1,y2],x≠y:=fun x hx y hy e=>by have:=M1 x hx;have:=g2 y hy;omega
   replace hW:=hW.trans (hb9.mono hW.size)
   replace o1:=o1.below hb9
   clear hb9 g2 M1
   refine ⟨_,rfl,hnw _ hW,?_⟩
   simp only [Act.put,pjE]
   refine qta 7 (some 22) (.agg #[.slice a1 3 c1,.slice a2 3 c2]) 3 (by kernel_rfl) (fun u _=>by kernel_rfl) (hnw _ hW) ?_
   simp only [Act.put,pjE]
   refine ona 8 2 rfl (by kernel_rfl) ?_
   have hbA:Below w9.heap.size w9 (w9.alloc (.cells #[.slice a1 3 c1,.slice a2 3 c2] 84)):=by go_grown
   replace hW:=hW.trans (hbA.mono hW.size)
   replace o1:=o1.below hbA
   replace o2:=o2.below hbA
   have hsrc:∀ j u,[Value.slice a1 3 c1,.slice a2 3 c2][j]? = some u→(w9.alloc (.cells #[.slice a1 3 c1,.slice a2 3 c2] 84)).cell? ((⟨w9.heap.size,0,none⟩:Addr).add j)=some u:=by
    intro j u hj;match j,hj with | 0,hj=>simp at hj;subst hj;simp [Addr.add] | 1,hj=>simp at hj;subst hj;simp [Addr.add]
   go_wp2
   refine ThenGo.to ⟨hnw _ hW,?_⟩
   generalize w9.alloc (.cells #[.slice a1 3 c1,.slice a2 3 c2] 84)=Z at *
   clear hbA
   have hO3:=hO.below hW
   have hb9:=hb3.trans (hW.mono hb3.size)
   have hrow0:=hO3.1
   refine ona 9 1 rfl (by kernel_rfl) ?_
   refine wpList_append_own_at _ rfl _ _ 25 rfl 0 84 i0 (.agg #[.slice none 0 0,.slice none 0 0]) 2 48 Tryz.underlying25 hi hz0 hz1 hz2 rfl (by decide) _ qs.length (roundK.row qs) rfl hrow0 ⟨w9.heap.size,0,none⟩ 1 1 [.slice a1 3 c1,.slice a2 3 c2] rfl rfl hsrc ?c2 ?c3 ?c4 ?c5 ?_
   case c2=>intro u hu;simp at hu;rcases hu with rfl | rfl <;> rfl
   case c3=>have:=HQL.out;unfold maxLen;omega
   case c4=>have:=HQL.out;omega
   case c5=>omega
   intro v' w5 hown hgrow hnil hat
   clear hnil hrow0 hsrc
   have hW3:wr.heap.size≤W3.heap.size:=by have:=hB3.lt;omega
   obtain ⟨hO5,hn5,hlo5,hou⟩:=hO3.snoc (p:=⟨.slice a1 3 c1,[x0,x1,x2],.slice a2 3 c2,[y0,y1,y2]⟩) HN.out.1 HN.out.2 ⟨o1,o2⟩ (List.nodup_append.2 ⟨intK_nodup _ _,intK_nodup _ _,hdis⟩) (fun x hx hx' => by
    have:=HF.out x hx'
    rcases List.mem_append.1 hx with hx | hx
    ·have:=L1 x hx;omega
    ·have:=L2 x hx;omega) (fun x hx=>by
    have:=hb3.size
    rcases List.mem_append.1 hx with hx | hx
    ·have:=L1 x hx;omega
    ·have:=L2 x hx;omega) hb9.size hown hgrow hat
   have hb5:Below W.heap.size W w5:=Out.keep hb9 hou hb9.size (fun x hx=>HN.out.2 x (by simp only [Kind.fp,List.mem_append];exact Or.inl hx))
   have hW5:Out (blk (.slice sa qs.length sc)) W3 w5:=(Out.of_below hW).trans hou
   have HE5:Hid ((qs ++ [(⟨.slice a1 3 c1,[x0,x1,x2],.slice a2 3 c2,[y0,y1,y2]⟩:RoundQ)]).map RoundQ.e=rs.take (k + 1)):=HPE.out _ rfl
   have HN5:Hid ((roundK.fp v' (qs ++ [(⟨.slice a1 3 c1,[x0,x1,x2],.slice a2 3 c2,[y0,y1,y2]⟩:RoundQ)])).Nodup∧∀ k∈roundK.fp v' (qs ++ [(⟨.slice a1 3 c1,[x0,x1,x2],.slice a2 3 c2,[y0,y1,y2]⟩:RoundQ)]),W.heap.size≤k):=⟨hn5,hlo5⟩
   clear hn5 hlo5 hou HPE HN HF o1 o2 L1 L2 hdis hown hgrow hat hO3 hO hb9 hb3
   go_wp2
   refine ThenGo.to ⟨⟨⟨_,hW5⟩,rfl⟩,?_⟩
   simp only [Act.put,pgE,pjE]
   refine sgr [(10,1)] 0 (by kernel_rfl) ⟨⟨_,hW5⟩,rfl⟩ ?_
   simp only [pkE]
   repeat go_big_quiet_step (fail)
   refine wpQuiet_nil ?_
   refine text_end (by kernel_rfl) ?_
   clear p0 p1 hnn hW hW5 hnw hB3 hF
   go_wp2
   go_roundw
   case rel=>exact ⟨k + 1,_,by omega,by go_num,HE5,hO5,HN5,hb5⟩
   case measure=>simp [intOf];omega
  ·have hkl:k=rs.length:=by omega
   subst hkl
   have hE:=HE.out
   rw [List.take_length] at hE
   clear HE
   have hws:=hb0.size
   go_wp2
   go_ret
   exact ⟨_,qs,rfl,hE,hO,HN.out.1,fun x hx=>by have:=HN.out.2 x hx;omega,hb0.trans (hb.mono hb0.size)⟩

end Go.Proofs.YtdhdnppbgaikfaaGreatDoor
namespace Go.Proofs.YtdhdnppbgaikfaaGreatDoor
open Go.RowKit
open Go.BigFrame
set_option maxRecDepth 100000
theorem out_row (w:World) (g:Nat) (cs:Array Value):Out [g] w (w.setRow g cs):=
 ⟨rfl,rfl,rfl,by rw [setRow_size];exact Nat.le_refl _,fun k _ hn=>setRow_other w g k cs (by simpa using hn)⟩

theorem sz_inst:(Tryz.prog.info? 28).map (·.size)=some 4:=by kernel_rfl

set_option maxHeartbeats 4000000 in
theorem instance_any (has:Bool) (vb:Value) (bt:List TxnQ) (rs:List RoundE) (dec:List Int) (w:World) (hT:txnK.At w vb bt) (hne:∀ p∈bt,0 < p.acts.length) (hl:bt.length + nmL TxnQ.n bt≤1048576) (hwel:Wel rs) (h4:rs.length≤4) (h3:dec.length=3) :
  Calls Tryz.prog 25 #[.agg (brdC has vb rs dec).toArray] w fun e w' => ∃ q:InstQ,e=.returned (.agg #[.bool q.has,q.vb,q.vr,q.vd])∧q.e=⟨has,bt.map TxnQ.e,rs,dec⟩∧instK.own w' q∧(instK.foot q).Nodup∧(∀ k∈instK.foot q,w.heap.size≤k)∧Below w.heap.size w w' := by
 have B:=Blk.new w 58 (brdC has vb rs dec).toArray
 have hc1:=fun w (hT:txnK.At w vb bt)=>cloneTxns_any vb bt w hT hne hl
 have hc2:=fun w=>roundList_any rs w hwel h4
 have hc3:=fun w=>list_any dec w h3
 have hsR:(Tryz.prog.info? 56).map (·.size)=some (rndC rs).length:=by rw [rndC_length hwel h4];exact sz_rounds
 have hsD:(Tryz.prog.info? 51).map (·.size)=some (dec.map iv).length:=by rw [List.length_map,h3];exact sz_row
 have hfac:Hid ((brdC has vb rs dec)[25]? = some (.bool has)∧(brdC has vb rs dec)[26]? = some vb∧(∀ j v,(rndC rs)[j]? = some v→(brdC has vb rs dec)[0 + j]? = some v)∧∀ j v,(dec.map iv)[j]? = some v→(brdC has vb rs dec)[27 + j]? = some v):=by
  refine ⟨brd_has hwel h4,brd_bat hwel h4,fun j v hv=>?_,fun j v hv=>?_⟩
  ·have hj:=(List.getElem?_eq_some_iff.1 hv).1
   rw [rndC_length hwel h4] at hj
   rw [Nat.zero_add,brd_rnd hwel h4 j hj]
   exact hv
  ·obtain ⟨hj,rfl⟩:=row_get h3 hv
   exact brd_dec hwel h4 h3 j hj
 generalize brdC has vb rs dec=ds at *
 have hb0:Below w.heap.size w ((w.alloc (.cells ds.toArray 58)).alloc (.cells #[.bool false,.slice none 0 0,.slice none 0 0,.slice none 0 0] 28)):=by go_grown
 have hbb:Below (w.alloc (.cells ds.toArray 58)).heap.size (w.alloc (.cells ds.toArray 58)) ((w.alloc (.cells ds.toArray 58)).alloc (.cells #[.bool false,.slice none 0 0,.slice none 0 0,.slice none 0 0] 28)):=by go_grown
 have R:=Blk.new (w.alloc (.cells ds.toArray 58)) 28 #[.bool false,.slice none 0 0,.slice none 0 0,.slice none 0 0]
 rw [World.size_alloc] at R
 replace B:=B.below hbb
 clear hbb
 go_enter Tryz.func25,Tryz.ntmps25
 go_wp2_with fail
 have hws:w.heap.size + 2≤((w.alloc (.cells ds.toArray 58)).alloc (.cells #[.bool false,.slice none 0 0,.slice none 0 0,.slice none 0 0] 28)).heap.size:=by simp
 generalize ((w.alloc (.cells ds.toArray 58)).alloc (.cells #[.bool false,.slice none 0 0,.slice none 0 0,.slice none 0 0] 28))=W at *
 have hF:w.heap.size ∉ [w.heap.size + 1]:=by simp
 have p0:=lato_cell (F:=[w.heap.size + 1]) (B.cell 25 (.bool has) (by rw [List.getElem?_toArray];exact hfac.out.1)) hF
 have p1:=lato_cell (F:=[w.heap.size + 1]) (B.cell 26 vb (by rw [List.getElem?_toArray];exact hfac.out.2.1)) hF
 have p2:=ld_atO (F:=[w.heap.size + 1]) (rndC rs) 56 _ (rng B (rndC rs) (o:=0) (fun j v hv=>by rw [List.getElem?_toArray];exact hfac.out.2.2.1 j v hv)) hF Tryz.underlying56 rfl hsR
 have p3:=ld_atO (F:=[w.heap.size + 1]) (dec.map iv) 51 _ (rng B (dec.map iv) (o:=27) (fun j v hv=>by rw [List.getElem?_toArray];exact hfac.out.2.2.2 j v hv)) hF Tryz.underlying51 rfl hsD
 obtain ⟨ba,bk,rfl⟩:=hT.shape
 clear hsR hsD hfac
 generalize rndC rs=dr at *
 have hnn:Nonempty (LatO [w.heap.size + 1] W):=⟨⟨W,Out.refl _ _⟩⟩
 have hW:Below W.heap.size W W.drew:=(Below.refl _ _).drew
 have hnw:∀ w',Below W.heap.size W w' → ∃ u:LatO [w.heap.size + 1] W,w' = u.val:=fun w' hw' => ⟨⟨w',Out.of_below hw'⟩,rfl⟩
 refine text_begin (S:=fun w' => ∃ u:LatO [w.heap.size + 1] W,w' = u.val) (by kernel_rfl) ?_
 refine sgr [(0,4),(5,1),(8,1)] 7 (by kernel_rfl) (hnw _ hW) ?_
 simp only [pkE]
 repeat go_big_quiet_step (fail)
 refine wpQuiet_nil ?_
 refine qta 6 (some 9) (.agg dr.toArray) 6 (by kernel_rfl) (fun u hu=>?_) (hnw _ hW) ?_
 ·obtain ⟨u,rfl⟩:=hu
  show some (((Instr.loadAt 56 (.pointer (some ⟨w.heap.size,0,none⟩))) >>= fun x=>pure (Next.value x):Sem Next).run Tryz.prog u.val)=_
  rw [Sem.run_bind,p2 u]
  rfl
 simp only [Act.put,pjE]
 refine qta 9 (some 12) (.agg (dec.map iv).toArray) 5 (by kernel_rfl) (fun u hu=>?_) (hnw _ hW) ?_
 ·obtain ⟨u,rfl⟩:=hu
  show some (((Instr.loadAt 51 (.pointer (some ⟨w.heap.size,27,none⟩))) >>= fun x=>pure (Next.value x):Sem Next).run Tryz.prog u.val)=_
  rw [Sem.run_bind,p3 u]
  rfl
 simp only [Act.put,pjE]
 refine cla 4 (some 7) 56 #[.slice ba bt.length bk] 4 (by kernel_rfl) ?_
 refine (hc1 _ (hT.below (hb0.trans (hW.mono hb0.size)))).mono ?_
 rintro e w1 ⟨v1,q1,rfl,e1,o1,n1,g1,hb⟩
 have L1:∀ x∈txnK.fp v1 q1,W.heap.size≤x:=fun x hx=>by have:=g1 x hx;have:=hW.size;omega
 have M1:=o1.lt
 replace hW:=hW.trans (hb.mono hW.size)
 clear hb g1
 refine ⟨_,rfl,hnw _ hW,?_⟩
 simp only [Act.put,pjE]
 refine cla 7 (some 10) 57 #[.agg dr.toArray] 3 (by kernel_rfl) ?_
 refine (hc2 _).mono ?_
 rintro e w2 ⟨v2,q2,rfl,e2,o2,n2,g2,hb⟩
 have L2:∀ x∈roundK.fp v2 q2,W.heap.size≤x:=fun x hx=>by have:=g2 x hx;have:=hW.size;omega
 have D12:∀ x∈txnK.fp v1 q1,∀ y∈roundK.fp v2 q2,x≠y:=fun x hx y hy e=>by have:=M1 x hx;have:=g2 y hy;omega
 have M2:=o2.lt
 have hs12:=hb.size
 replace o1:=o1.below hb
 replace hW:=hW.trans (hb.mono hW.size)
 clear hb g2
 refine ⟨_,rfl,hnw _ hW,?_⟩
 simp only [Act.put,pjE]
 refine cla 10 (some 13) 58 #[.agg (dec.map iv).toArray] 2 (by kernel_rfl) ?_
 refine (hc3 _).mono ?_
 rintro e w3 ⟨a3,c3,rfl,o3,g3,_,hb⟩
 have L3:∀ x∈intK.fp (.slice a3 3 c3) dec,W.heap.size≤x:=fun x hx=>by have:=g3 x hx;have:=hW.size;omega
 have D13:∀ x∈txnK.fp v1 q1,∀ y∈intK.fp (.slice a3 3 c3) dec,x≠y:=fun x hx y hy e=>by have:=M1 x hx;have:=g3 y hy;omega
 have D23:∀ x∈roundK.fp v2 q2,∀ y∈intK.fp (.slice a3 3 c3) dec,x≠y:=fun x hx y hy e=>by have:=M2 x hx;have:=g3 y hy;omega
 replace o1:=o1.below hb
 replace o2:=o2.below hb
 replace hW:=hW.trans (hb.mono hW.size)
 clear hb g3 M1 M2 hs12
 obtain ⟨s1,t1,rfl⟩:=o1.shape
 obtain ⟨s2,t2,rfl⟩:=o2.shape
 refine ⟨_,rfl,hnw _ hW,?_⟩
 simp only [Act.put,pjE]
 refine qta 11 (some 14) (.agg #[.bool has,.slice s1 q1.length t1,.slice s2 q2.length t2,.slice a3 3 c3]) 1 (by kernel_rfl) (fun u _=>by kernel_rfl) (hnw _ hW) ?_
 simp only [Act.put,pjE]
 have R3:=R.below hW
 refine ona 12 0 rfl (by kernel_rfl) ?_
 have hRr:=R3.row #[.bool has,.slice s1 q1.length t1,.slice s2 q2.length t2,.slice a3 3 c3]
 have hou:=out_row w3 (w.heap.size + 1) #[.bool has,.slice s1 q1.length t1,.slice s2 q2.length t2,.slice a3 3 c3]
 have hWo:Out [w.heap.size + 1] W (w3.setRow (w.heap.size + 1) #[.bool has,.slice s1 q1.length t1,.slice s2 q2.length t2,.slice a3 3 c3]):=(Out.of_below hW).trans hou
 refine st_row (by kernel_rfl) 28 _ _ rfl _ #[.bool has,.slice s1 q1.length t1,.slice s2 q2.length t2,.slice a3 3 c3] rfl rfl 28 _ R3 sz_inst rfl (by simp [Value.oneCell']) ?_
 go_wp2
 refine ThenGo.to ⟨⟨⟨_,hWo⟩,rfl⟩,?_⟩
 refine text_end (by kernel_rfl) ?_
 have hnm:∀ x,W.heap.size≤x→x ∉ [w.heap.size + 1]:=fun x hx=>by simp only [List.mem_singleton];omega
 have o1' := o1.out hou (fun x hx=>hnm x (L1 x hx))
 have o2' := o2.out hou (fun x hx=>hnm x (L2 x hx))
 have o3' := o3.out hou (fun x hx=>hnm x (L3 x hx))
 have hBe:Below w.heap.size w (w3.setRow (w.heap.size + 1) #[.bool has,.slice s1 q1.length t1,.slice s2 q2.length t2,.slice a3 3 c3]):=below_row (hb0.trans (hW.mono hb0.size)) (by omega) _
 clear p0 p1 p2 p3 hnn hnw hc1 hc2 hc3 hou hWo o1 o2 o3 R3
 generalize w3.setRow (w.heap.size + 1) #[.bool has,.slice s1 q1.length t1,.slice s2 q2.length t2,.slice a3 3 c3]=w4 at *
 obtain ⟨p0,p1,p2,p3⟩:=hRr.cel4
 go_wp2
 refine bodyPost_ret (v:=.agg #[.bool has,.slice s1 q1.length t1,.slice s2 q2.length t2,.slice a3 3 c3]) (by simp [results,Tryz.results25,go_sem,p0,p1,p2,p3]) rfl ?_
 refine ⟨⟨has,.slice s1 q1.length t1,q1,.slice s2 q2.length t2,q2,.slice a3 3 c3,dec⟩,rfl,?_,⟨o1',o2',o3'⟩,?_,?_,hBe⟩
 ·simp only [InstQ.e,e1,e2]
 ·exact List.nodup_append.2 ⟨n1,List.nodup_append.2 ⟨n2,intK_nodup _ _,D23⟩,fun x hx y hy=>by
   rcases List.mem_append.1 hy with hy | hy
   ·exact D12 x hx y hy
   ·exact D13 x hx y hy⟩
 ·intro x hx
  rcases List.mem_append.1 hx with hx | hx
  ·have:=L1 x hx;omega
  ·rcases List.mem_append.1 hx with hx | hx
   ·have:=L2 x hx;omega
   ·have:=L3 x hx;omega

end Go.Proofs.YtdhdnppbgaikfaaGreatDoor
namespace Go.Proofs.YtdhdnppbgaikfaaGreatDoor
open Go.RowKit
open Go.BigFrame
set_option maxRecDepth 100000
set_option maxHeartbeats 1000000 in
theorem l1Ints_own (b off cap:Nat) (zs:List Int) (w:World) (h:Row .i64 w (some ⟨b,off,none⟩) zs) (h0:0 < zs.length) (hl:zs.length≤1048576) :
  Calls Tryz.prog 64 #[.slice (some ⟨b,off,none⟩) zs.length cap] w fun e w' => ∃ a c,e=.returned (.slice a zs.length c) ∧
   w'.ownsRow w.heap.size 2 1 (.slice a zs.length c) zs.length (zs.map iv)∧Below w.heap.size w w' := by
 obtain ⟨i0,hi,hz0,hz1,hz2⟩:=info_parts infoI6
 have hs:=lies_src (Lies.below (lies_of_row h) (w' := w.alloc (.cells #[] 2)) (by go_grown))
 have hcl:(zs.map iv).length=zs.length * 1:=by simp
 have ho:=World.ownsRow_lit (e:=2) (size:=1) w #[] 0 (Nat.le_refl _) (by decide) rfl
 have HS:Hid (∀ j u,(zs.map iv)[j]? = some u→_):=hs
 clear hs
 go_enter Tryz.func64,Tryz.ntmps64
 go_wp2_with (at_builtin;refine wpList_append_own _ rfl _ _ 26 rfl w.heap.size 2 i0 (.int .i64 0) 1 8 Tryz.underlying26 hi hz0 hz1 hz2 rfl (by decide) _ 0 [] rfl ho ⟨b,off,none⟩ zs.length cap (zs.map iv) rfl hcl HS.out ?c2 ?c3 ?c4 ?c5 ?_)
 all_goals try (case c2=>first | (intro u hu;obtain ⟨z,_,rfl⟩:=List.mem_map.1 hu;rfl) | (intro u hu;rfl))
 all_goals try (case c3=>unfold maxLen;omega)
 all_goals try (case c4=>omega)
 all_goals try (case c5=>simp)
 intro v' w2 hown hgrow _
 obtain ⟨a2,c2,rfl⟩:=own_shape hown
 have hb2:Below w.heap.size w w2:=((Below.refl _ _).alloc (Nat.le_refl _) _).grown hgrow (by simp) (fun k hk=>by simp [Value.ownBlock] at hk;omega)
 try simp only [Nat.zero_add] at hown
 clear hgrow HS ho
 go_wp2
 go_ret
 exact ⟨a2,c2,rfl,by simpa using hown,hb2⟩

theorem l1Ints_any (v:Value) (zs:List Int) (w:World) (h:intK.At w v zs) (h0:0 < zs.length) (hl:zs.length≤1048576) :
  Calls Tryz.prog 64 #[v] w fun e w' => ∃ a c,e=.returned (.slice a zs.length c)∧intK.Own w' (.slice a zs.length c) zs∧(∀ k∈intK.fp (.slice a zs.length c) zs,w.heap.size≤k)∧Below w.heap.size w w' := by
 obtain ⟨a,cap,rfl⟩:=h.shape
 have hR:=(intK_at h).2
 obtain ⟨b,off,rfl,_⟩:=hR 0 h0
 refine (l1Ints_own b off cap zs w hR h0 hl).mono ?_
 rintro e w2 ⟨a2,c2,rfl,ho,hb⟩
 obtain ⟨O,G⟩:=list_own rfl ho
 exact ⟨a2,c2,rfl,O,G,hb⟩

set_option maxHeartbeats 2000000 in
theorem l2CopyAll_any (v:Value) (ps:List TxnQ) (w:World) (h:txnK.At w v ps) (hne:∀ p∈ps,0 < p.acts.length) (hl:ps.length + nmL TxnQ.n ps≤1048576) :
  Calls Tryz.prog 63 #[v] w fun e w' => ∃ v' qs,e=.returned v' ∧ qs.map TxnQ.e=ps.map TxnQ.e∧txnK.Own w' v' qs∧(txnK.fp v' qs).Nodup∧(∀ k∈txnK.fp v' qs,w.heap.size≤k)∧Below w.heap.size w w' := by
 obtain ⟨a,cap,rfl⟩:=h.shape
 obtain ⟨i0,hi,hz0,hz1,hz2⟩:=info_parts infoTxn
 have ho:=World.ownsRow_lit (e:=91) (size:=4) w #[] 0 (Nat.le_refl _) (by decide) rfl
 have hn1:txnK.Own (w.alloc (.cells #[] 91)) (.slice (some ⟨w.heap.size,0,none⟩) 0 0) ([]:List TxnQ):=⟨(own_zero ho).1,fun p hp=>by simp at hp⟩
 have hnb:Below w.heap.size w (w.alloc (.cells #[] 91)):=by go_grown
 have HN0:Hid ((txnK.fp (.slice (some ⟨w.heap.size,0,none⟩) 0 0) ([]:List TxnQ)).Nodup∧∀ k∈txnK.fp (.slice (some ⟨w.heap.size,0,none⟩) 0 0) ([]:List TxnQ),w.heap.size≤k):=by
  refine ⟨?_,?_⟩
  ·simp [Kind.fp,blk,Value.ownBlock]
  ·simp [Kind.fp,blk,Value.ownBlock]
 clear ho
 go_enter Tryz.func63,Tryz.ntmps63
 go_wp2
 go_loopw [3,4] (fun v j wr=>∃ (k:Nat) (qs:List TxnQ),k≤ps.length∧j=.int .i64 k∧Hid (qs.map TxnQ.e=(ps.take k).map TxnQ.e)∧txnK.Own wr v qs∧Hid ((txnK.fp v qs).Nodup∧∀ k∈txnK.fp v qs,w.heap.size≤k)∧Below w.heap.size w wr) (fun _ j _=>ps.length - (intOf j).toNat)
 case atStart=>exact ⟨0,[],Nat.zero_le _,rfl,(rfl:_=_),hn1,HN0,hnb⟩
 case round=>
  clear HN0 hn1 hnb
  obtain ⟨k,qs,hk,rfl,HE,hO,HN,hb⟩:=hrel
  obtain ⟨sa,sc,rfl⟩:=hO.shape
  have HQL:Hid (qs.length=k):=by
   have:=congrArg List.length HE.out
   rw [List.length_map,List.length_map,List.length_take] at this
   show qs.length=k
   omega
  by_cases hlt:k < ps.length
  ·obtain ⟨b,off,rfl,hbs,hc,hrd⟩:=(h.below hb).cell (by decide) k hlt
   have hc' : ∀ j x,(txnK.cells ps[k])[j]? = some x→wr.cell? ⟨b,off + k * 4 + j,none⟩=some x:=hc
   have c0:=hc' 0 (.int .i64 ps[k].i) rfl
   have c1:=hc' 1 (.int .i64 ps[k].s) rfl
   have c2:=hc' 2 (.int .i64 ps[k].q) rfl
   have c3:=hc' 3 (ps[k].va) rfl
   have hzl:=nm_le TxnQ.n ps k hlt
   have hpos:=hne _ (List.getElem_mem hlt)
   have HPE:Hid (∀ p' : TxnQ,p'.e=TxnQ.e ps[k]→(qs ++ [p']).map TxnQ.e=(ps.take (k + 1)).map TxnQ.e):=fun p' hp' => by
    rw [List.take_succ_eq_append_getElem hlt,List.map_append,List.map_append,HE.out,List.map_singleton,List.map_singleton,hp']
   clear hc hc'
   generalize ps[k]=p at *
   obtain ⟨i,s,q,va,acts⟩:=p
   replace hrd:actK.At wr va acts:=hrd
   replace hzl:acts.length≤nmL TxnQ.n ps:=hzl
   obtain ⟨aa,ac,rfl⟩:=hrd.shape
   dsimp only at c0 c1 c2 c3 hpos
   obtain ⟨ab,ao,haa⟩:∃ ab ao,aa=some ⟨ab,ao,none⟩:=by
    rcases (actK_at hrd).2 with h0 | ⟨ab,ao,e,_⟩
    ·have:=actCells_length acts
     rw [h0] at this
     simp at this
     omega
    ·exact ⟨ab,ao,e⟩
   subst haa
   have hcl:=l2Copy_any i s q ab ao ac acts _ (actK_at hrd).2 hpos (by omega)
   rw [Nat.add_zero] at c0
   clear HE
   go_wp2_with fail
   clear c0 c1 c2 c3
   have hYs:w.heap.size≤wr.heap.size:=hb.size
   refine hcl.mono ?_
   rintro e w2 ⟨a2,c2,rfl,ho2,hb2⟩
   have HLT:=hO.lt
   replace hO:=hO.below hb2
   replace hb:=hb.trans (hb2.mono hb.size)
   obtain ⟨o2,hk2⟩:=own_zero ho2
   have hP:txnK.own w2 ⟨i,s,q,.slice a2 acts.length c2,acts⟩:=⟨o2,fun _ _=>trivial⟩
   have hPlo:∀ x∈txnK.foot ⟨i,s,q,.slice a2 acts.length c2,acts⟩,wr.heap.size≤x:=fun x hx=>hk2 x (by rw [← actK_fp (.slice a2 acts.length c2) acts];exact hx)
   have hPn:(txnK.foot ⟨i,s,q,.slice a2 acts.length c2,acts⟩).Nodup:=by
    show (actK.fp _ _).Nodup
    rw [actK_fp];exact blk_nodup _
   have hbA:Below w2.heap.size w2 (w2.alloc (.cells #[.int .i64 i,.int .i64 s,.int .i64 q,.slice a2 acts.length c2] 91)):=by go_grown
   have hOA:=hO.below hbA
   have hPA:=txnK.own_out (F:=[]) hP (Out.of_below hbA) (fun _ _=>by simp)
   have hbB:=hb.trans (hbA.mono hb.size)
   clear hcl ho2 hO hP hk2
   have hrow0:=hOA.1
   go_wp2_with (at_builtin;refine wpList_append_own_at _ rfl _ _ 24 rfl 0 91 i0 (.agg #[.int .i64 0,.int .i64 0,.int .i64 0,.slice none 0 0]) 4 48 Tryz.underlying24 hi hz0 hz1 hz2 rfl (by decide) _ qs.length (txnK.row qs) rfl hrow0 ⟨w2.heap.size,0,none⟩ 1 1 [.int .i64 i,.int .i64 s,.int .i64 q,.slice a2 acts.length c2] rfl rfl ?c1 ?c2 ?c3 ?c4 ?c5 ?_)
   all_goals try (case c1=>intro j u hj;match j,hj with | 0,hj=>simp at hj;subst hj;simp [Addr.add] | 1,hj=>simp at hj;subst hj;simp [Addr.add] | 2,hj=>simp at hj;subst hj;simp [Addr.add] | 3,hj=>simp at hj;subst hj;simp [Addr.add])
   all_goals try (case c2=>intro u hu;simp at hu;rcases hu with rfl | rfl | rfl | rfl <;> rfl)
   all_goals try (case c3=>have:=HQL.out;unfold maxLen;omega)
   all_goals try (case c4=>have:=HQL.out;omega)
   all_goals try (case c5=>first | omega | simp)
   intro v' w5 hown hgrow hnil hat
   clear hnil hrow0
   rw [show w2.heap.size + 1=(w2.alloc (.cells #[.int .i64 i,.int .i64 s,.int .i64 q,.slice a2 acts.length c2] 91)).heap.size from (World.size_alloc _ _).symm] at hat
   generalize hwA:w2.alloc (.cells #[.int .i64 i,.int .i64 s,.int .i64 q,.slice a2 acts.length c2] 91)=WA at *
   clear hwA
   have hsz:wr.heap.size≤WA.heap.size:=by have:=hb2.size;have:=hbA.size;omega
   obtain ⟨hO5,hn5,hlo5,hou⟩:=hOA.snoc HN.out.1 HN.out.2 hPA hPn (fun x hx hx' => by have:=HLT x hx';have:=hPlo x hx;omega) (fun x hx=>by have:=hPlo x hx;omega) hbB.size hown hgrow hat
   have hb5:Below w.heap.size w w5:=Out.keep hbB hou hbB.size (fun x hx=>HN.out.2 x (by simp only [Kind.fp,List.mem_append];exact Or.inl hx))
   have HE5:Hid ((qs ++ [(⟨i,s,q,.slice a2 acts.length c2,acts⟩:TxnQ)]).map TxnQ.e=(ps.take (k + 1)).map TxnQ.e):=HPE.out _ rfl
   have HN5:Hid ((txnK.fp v' (qs ++ [(⟨i,s,q,.slice a2 acts.length c2,acts⟩:TxnQ)])).Nodup∧∀ k∈txnK.fp v' (qs ++ [(⟨i,s,q,.slice a2 acts.length c2,acts⟩:TxnQ)]),w.heap.size≤k):=⟨hn5,hlo5⟩
   clear HPE HN HLT hPlo hPn hPA hOA hbB hown hgrow hat hou hn5 hlo5 hrd hb hbA hb2 hzl hpos
   go_wp2
   go_roundw
   case rel=>exact ⟨k + 1,_,by omega,by go_num,HE5,hO5,HN5,hb5⟩
   case measure=>simp [intOf];omega
  ·have hkl:k=ps.length:=by omega
   subst hkl
   have hE:=HE.out
   rw [List.take_length] at hE
   clear HE
   go_wp2
   go_ret
   exact ⟨_,qs,rfl,hE,hO,HN.out.1,HN.out.2,hb⟩

end Go.Proofs.YtdhdnppbgaikfaaGreatDoor
namespace Go.Proofs.YtdhdnppbgaikfaaGreatDoor
open Go.RowKit
open Go.BigFrame
set_option maxRecDepth 100000
end Go.Proofs.YtdhdnppbgaikfaaGreatDoor
namespace Go.Proofs.YtdhdnppbgaikfaaGreatDoor
open Go.RowKit
open Go.BigFrame
set_option maxRecDepth 100000
end Go.Proofs.YtdhdnppbgaikfaaGreatDoor
namespace Go.Proofs.YtdhdnppbgaikfaaGreatDoor
open Go.RowKit
open Go.BigFrame
set_option maxRecDepth 100000
end Go.Proofs.YtdhdnppbgaikfaaGreatDoor
namespace Go.Proofs.YtdhdnppbgaikfaaGreatDoor
open Go.RowKit
open Go.BigFrame
set_option maxRecDepth 100000
end Go.Proofs.YtdhdnppbgaikfaaGreatDoor
namespace Go.Proofs.YtdhdnppbgaikfaaGreatDoor
open Go.RowKit
set_option maxRecDepth 100000
end Go.Proofs.YtdhdnppbgaikfaaGreatDoor
namespace Go.Proofs.YtdhdnppbgaikfaaGreatDoor
open Go.RowKit
open Go.BigFrame
set_option maxRecDepth 100000
/-- An answer that holds an instance: the cells. -/
abbrev resC (code cc:Int) (cd ck:Bool) (cx:Int) (p:InstQ):Array Value:=#[.int .i64 code,.int .i64 cc,.bool cd,.bool ck,.int .i64 cx,.bool p.has,p.vb,p.vr,p.vd]

end Go.Proofs.YtdhdnppbgaikfaaGreatDoor
namespace Go.Proofs.YtdhdnppbgaikfaaGreatDoor
open Go.RowKit
open Go.BigFrame
set_option maxRecDepth 100000
/-- No instance. -/
def inst0:InstQ:=⟨false,.slice none 0 0,[],.slice none 0 0,[],.slice none 0 0,[]⟩

def ine0:InstE:=⟨false,[],[],[]⟩

theorem inst0_own (w:World):instK.own w inst0:=⟨(Kind.own_nil w).1,(Kind.own_nil w).1,(Kind.own_nil w).1⟩

theorem inst0_ft:instK.foot inst0=[]:=by
 show txnK.fp _ _ ++ (roundK.fp _ _ ++ intK.fp _ _)=[]
 simp [inst0,Kind.fp,blk,Value.ownBlock]

theorem inst0_nd:(instK.foot inst0).Nodup:=by rw [inst0_ft];simp

theorem sz_res:(Tryz.prog.info? 39).map (·.size)=some 9:=by kernel_rfl

/-- SetBatch, plainly: its code, and its instance. -/
def sbC (x:InstE) (ds:List TxnD):Int:=if insF x=0 then (if x.has then 6 else batF ds) else insF x

def sbI (x:InstE) (ds:List TxnD):InstE:=if sbC x ds=0 then ⟨true,ds,x.rounds,x.dec⟩ else ine0

theorem txnF_nil (i s q:Int):txnF i s q []≠0:=by
 unfold txnF
 split <;> simp

theorem bat_pos {bt:List TxnQ} (h:batF (bt.map TxnQ.e)=0):∀ p∈bt,0 < p.acts.length:=by
 intro p hp
 have ha:allF (bt.map TxnQ.e)=0:=by
  unfold batF at h
  split at h
  ·omega
  ·split at h
   ·assumption
   ·exact h
 have hz:∀ (ds:List TxnD),allF ds=0→∀ d∈ds,d.F=0:=by
  intro ds
  induction ds with
  | nil=>intro _ d hd;simp at hd
  | cons x r ih=>
   intro h d hd
   simp only [allF] at h
   by_cases hx:x.F=0
   ·rw [if_pos hx] at h
    rcases List.mem_cons.1 hd with rfl | hd
    ·exact hx
    ·exact ih h d hd
   ·rw [if_neg hx] at h
    exact absurd h hx
 have hf:=hz _ ha p.e (List.mem_map.2 ⟨p,hp,rfl⟩)
 show 0 < p.acts.length
 have hf' : txnF p.i p.s p.q p.acts=0:=hf
 rcases Nat.eq_zero_or_pos p.acts.length with h0 | h0
 ·exfalso
  have:p.acts=[]:=List.eq_nil_of_length_eq_zero h0
  rw [this] at hf'
  exact txnF_nil _ _ _ hf'
 ·exact h0

end Go.Proofs.YtdhdnppbgaikfaaGreatDoor
