/- Texts joined, with what the law reaches alone. -/
import Derived.Test.YtjjolkihiclopaaGreatDoorSBBF
import Derived.Test.YtjjolkihiclopaaGreatDoorSBBG
set_option linter.unusedVariables false
set_option linter.unusedSimpArgs false
namespace Go.Proofs.YtjjolkihiclopaaGreatDoor
open Go.RowKit
open Go.BigFrame
set_option maxRecDepth 100000
def clC (ds:List InstE) (x:InstE):Int:=if ordF ds=0 then (if insF x=0 then (if grw (lastE ds) x then 0 else 8) else insF x) else ordF ds

def clO (ds:List InstE) (x:InstE):List InstE:=if clC ds x=0 then ds.take (ds.length - 1) ++ [x] else []

theorem cl_ways (ds:List InstE) (x:InstE):(ordF ds≠0∧clC ds x=ordF ds∧clO ds x=[])∨(ordF ds=0∧insF x≠0∧clC ds x=insF x∧clO ds x=[])∨(ordF ds=0∧insF x=0∧grw (lastE ds) x=false∧clC ds x=8∧clO ds x=[])∨(ordF ds=0∧insF x=0∧grw (lastE ds) x=true∧clC ds x=0∧clO ds x=ds.take (ds.length - 1) ++ [x]):=by
 unfold clO clC
 by_cases h0:ordF ds=0
 ·by_cases h1:insF x=0
  ·cases h2:grw (lastE ds) x
   ·right;right;left
    simp [h0,h1]
   ·right;right;right
    simp [h0,h1]
  ·right;left
   simp [h0,h1]
 ·left
  simp [h0]

theorem Kind.At.take {P:Type} {K:Kind P} {w:World} {a:Option Addr} {n cap:Nat} {ps:List P} (h:K.At w (.slice a n cap) ps) (m:Nat) (hm:m≤ps.length):K.At w (.slice a m cap) (ps.take m):=by
 obtain ⟨a',c,e,hl,hr⟩:=h
 simp only [Value.slice.injEq] at e
 obtain ⟨rfl,_,rfl⟩:=e
 refine ⟨a,cap,by rw [List.length_take,Nat.min_eq_left hm],?_,fun p hp=>hr p (List.mem_of_mem_take hp)⟩
 have er:K.row ps=K.row (ps.take m) ++ K.row (ps.drop m):=by
  unfold Kind.row
  rw [← List.flatMap_append,List.take_append_drop]
 rcases hl with h0 | ⟨b,off,ha,hlt,hc⟩
 ·left
  rw [er] at h0
  exact (List.append_eq_nil_iff.1 h0).1
 ·right
  refine ⟨b,off,ha,hlt,fun j x hx=>hc j x ?_⟩
  rw [er,List.getElem?_append_left (List.getElem?_eq_some_iff.1 hx).1]
  exact hx

theorem Kind.Own.cap {P:Type} {K:Kind P} {w:World} {a:Option Addr} {n cap:Nat} {ps:List P} (h:K.Own w (.slice a n cap) ps):n≤cap∧cap≤maxLen:=by
 rcases h.1.2 with ⟨e,_⟩ | ⟨g,c,cur,e,_,_,h1,h2,_⟩
 ·simp only [Value.slice.injEq] at e
  obtain ⟨_,rfl,rfl⟩:=e
  exact ⟨Nat.le_refl _,by decide⟩
 ·simp only [Value.slice.injEq] at e
  obtain ⟨_,rfl,rfl⟩:=e
  exact ⟨h1,h2⟩

theorem rows3 {p:InstQ} (h:insF (InstQ.e p)=0):(∀ r∈p.rounds,r.rep.length=3∧r.pro.length=3)∧p.dec.length=3:=by
 obtain ⟨h1,_,h3,_⟩:=ins_ok h
 exact ⟨fun r hr=>h1 (RoundQ.e r) (List.mem_map.2 ⟨r,hr,rfl⟩),h3⟩

theorem sz_ord:(Tryz.prog.info? 33).map (·.size)=some 2:=by kernel_rfl

set_option maxHeartbeats 8000000 in
theorem implChangeLast_any (v:Value) (ps:List InstQ) (p:InstQ) (w:World) (hG:Rul w) (h:instK.Own w v ps) (hp:instK.rd w p) (hl:(ps.length + nmL InstQ.n ps)≤1048576) (hlp:p.n≤1048576) :
  Calls Tryz.prog 23 #[v,.agg #[.bool p.has,p.vb,p.vr,p.vd]] w fun e w' => ∃ (v' : Value) (qs:List InstQ),e=.returned (.agg #[.int .i64 (clC (ps.map InstQ.e) p.e),v'])∧qs.map InstQ.e=clO (ps.map InstQ.e) p.e∧instK.Own w' v' qs∧(instK.fp v' qs).Nodup∧(∀ k∈instK.fp v' qs,w.heap.size≤k)∧Below w.heap.size w w' := by
 have hof:=fun w hG h=>implOrderFault_any v ps w hG h hl
 have hif:=fun w hG h=>implInstanceFault_any p w hG h hlp
 have HO:Hid (ordF (ps.map InstQ.e)=0→1≤ps.length∧ps.length≤4∧∀ q∈ps,insF (InstQ.e q)=0):=fun h0=>by
  have:=((ord_iff _).1 h0).1
  rw [List.length_map] at this
  exact ⟨this.1,this.2,fun q hq=>ord_mem h0 _ (List.mem_map.2 ⟨q,hq,rfl⟩)⟩
 have hco0:=fun (m:Nat) a cap w h hlow hl=>cloneOrder_any (.slice a m cap) (ps.take m) w h hlow hl
 obtain ⟨a,cap,rfl⟩:=h.shape
 obtain ⟨hcap,hcm⟩:=h.cap
 obtain ⟨i0,hi,hz0,hz1,hz2⟩:=info_parts infoInstance
 have hw:=cl_ways (ps.map InstQ.e) (InstQ.e p)
 have HLA:Hid (∀ hlt:ps.length - 1 < ps.length,lastE (ps.map InstQ.e)=InstQ.e ps[ps.length - 1]):=fun hlt=>last_at ps hlt
 generalize clC (ps.map InstQ.e) (InstQ.e p)=D at *
 generalize clO (ps.map InstQ.e) (InstQ.e p)=O at *
 have HEP:Hid (∀ q1:List InstQ,∀ q:InstQ,q1.map InstQ.e=(ps.take (ps.length - 1)).map InstQ.e→q.e=InstQ.e p→(q1 ++ [q]).map InstQ.e=(ps.map InstQ.e).take ((ps.map InstQ.e).length - 1) ++ [InstQ.e p]):=fun q1 q h1 h2=>by rw [List.map_append,h1,List.map_singleton,h2,List.length_map,List.map_take]
 have HLE:Hid (∀ q1:List InstQ,q1.map InstQ.e=(ps.take (ps.length - 1)).map InstQ.e→q1.length=ps.length - 1):=fun q1 h1=>by have:=congrArg List.length h1;simp at this;omega
 have HPI:Hid (insF (InstQ.e p)=0→((∀ r∈p.rounds,r.rep.length=3∧r.pro.length=3)∧p.dec.length=3)∧(∀ t∈p.batch,0 < t.acts.length)∧(∀ r∈p.rounds,0 < r.rep.length∧0 < r.pro.length)∧0 < p.dec.length):=fun h0=>⟨rows3 h0,ins_low h0⟩
 have hgr0:=fun (l:InstQ) w h h' hl h1 h2 h3 h4=>isGrown_any l p w h h' hl hlp h1 h2 h3 h4
 have hci0:=fun w h h1 h2 h3=>cloneInstance_any p w h hlp h1 h2 h3
 have hrb:=fun (w' : World) hb=>instK.rd_below (w' := w') hp hb
 generalize ordF (ps.map InstQ.e)=C at *
 generalize insF (InstQ.e p)=PF at *
 generalize hpe:InstQ.e p=pe at *
 obtain ⟨has,vb,batch,vr,rounds,vd,dec⟩:=p
 obtain ⟨ba,bk,rfl⟩:∃ a c,vb=.slice a batch.length c:=hp.1.shape
 obtain ⟨va,vk,rfl⟩:∃ a c,vr=.slice a rounds.length c:=hp.2.1.shape
 obtain ⟨da,dk,rfl⟩:∃ a c,vd=.slice a dec.length c:=hp.2.2.shape
 dsimp only at hif hgr0 hci0 hrb HPI
 have hB:Below w.heap.size w ((w.alloc (.cells #[.bool has,.slice ba batch.length bk,.slice va rounds.length vk,.slice da dec.length dk] 49)).alloc (.cells #[.int .i64 0,.slice none 0 0] 33)):=by go_grown
 have Bk:=(Blk.new w 49 #[.bool has,.slice ba batch.length bk,.slice va rounds.length vk,.slice da dec.length dk]).below (w' := ((w.alloc (.cells #[.bool has,.slice ba batch.length bk,.slice va rounds.length vk,.slice da dec.length dk] 49)).alloc (.cells #[.int .i64 0,.slice none 0 0] 33))) (by go_grown)
 have Rb:=Blk.new (w.alloc (.cells #[.bool has,.slice ba batch.length bk,.slice va rounds.length vk,.slice da dec.length dk] 49)) 33 #[.int .i64 0,.slice none 0 0]
 rw [World.size_alloc] at Rb
 go_enter Tryz.func23,Tryz.ntmps23
 go_wp2_with fail
 generalize ((w.alloc (.cells #[.bool has,.slice ba batch.length bk,.slice va rounds.length vk,.slice da dec.length dk] 49)).alloc (.cells #[.int .i64 0,.slice none 0 0] 33))=W at *
 refine (hof W (hG.below hB) (h.at.below hB)).mono ?_
 rintro e w1 ⟨rfl,hb⟩
 replace hB:=hB.trans (hb.mono hB.size)
 replace Rb:=Rb.below hb
 replace Bk:=Bk.below hb
 clear hb hof
 by_cases hC:C=0
 case neg=>
  have hC' : (C != 0)=true:=by simpa using hC
  have E1:Hid (D=C∧O=[]):=by
   rcases hw with ⟨_,e1,e2⟩ | ⟨h1,_⟩ | ⟨h1,_⟩ | ⟨h1,_⟩
   ·exact ⟨e1,e2⟩
   ·exact absurd h1 hC
   ·exact absurd h1 hC
   ·exact absurd h1 hC
  clear hw HO HEP HLE HPI hC
  have q0:=Rb.cell 0 _ rfl
  have q1:=Rb.cell 1 _ rfl
  have f0:=Rb.frozen 0
  have f1:=Rb.frozen 1
  obtain ⟨hn1,hn2⟩:=Kind.own_nil (K:=instK) w
  clear hn1
  go_wp2
  exact bodyPost_ret (v:=.agg #[.int .i64 C,.slice none 0 0]) (by simp [results,Tryz.results23,go_sem,q0,q1]) rfl ⟨.slice none 0 0,[],by rw [E1.out.1],by rw [E1.out.2];rfl,(Kind.own_nil _).1,by rw [hn2];simp,by rw [hn2];simp,(hB.setCell (p:=⟨w.heap.size + 1,0,none⟩) (by show w.heap.size≤w.heap.size + 1;omega) _).setCell (p:=⟨w.heap.size + 1,1,none⟩) (by show w.heap.size≤w.heap.size + 1;omega) _⟩
 case pos=>
 obtain ⟨p1,p4,hin⟩:=HO.out hC
 subst hC
 have c0:=Bk.cell 0 _ rfl
 have c1:=Bk.cell 1 _ rfl
 have c2:=Bk.cell 2 _ rfl
 have c3:=Bk.cell 3 _ rfl
 clear HO
 go_wp2_with fail
 clear c0 c1 c2 c3
 refine (hif w1 (hG.below hB) (hrb w1 hB)).mono ?_
 rintro e X ⟨rfl,hb⟩
 replace hB:=hB.trans (hb.mono hB.size)
 replace Rb:=Rb.below hb
 replace Bk:=Bk.below hb
 clear hb hif
 by_cases hP:PF=0
 case neg=>
  have hP' : (PF != 0)=true:=by simpa using hP
  have E1:Hid (D=PF∧O=[]):=by
   rcases hw with ⟨h0,_⟩ | ⟨_,_,e1,e2⟩ | ⟨_,h1,_⟩ | ⟨_,h1,_⟩
   ·exact absurd rfl h0
   ·exact ⟨e1,e2⟩
   ·exact absurd h1 hP
   ·exact absurd h1 hP
  clear hw HEP HLE HPI hP
  have q0:=Rb.cell 0 _ rfl
  have q1:=Rb.cell 1 _ rfl
  have f0:=Rb.frozen 0
  have f1:=Rb.frozen 1
  obtain ⟨hn1,hn2⟩:=Kind.own_nil (K:=instK) w
  clear hn1
  go_wp2
  exact bodyPost_ret (v:=.agg #[.int .i64 PF,.slice none 0 0]) (by simp [results,Tryz.results23,go_sem,q0,q1]) rfl ⟨.slice none 0 0,[],by rw [E1.out.1],by rw [E1.out.2];rfl,(Kind.own_nil _).1,by rw [hn2];simp,by rw [hn2];simp,(hB.setCell (p:=⟨w.heap.size + 1,0,none⟩) (by show w.heap.size≤w.heap.size + 1;omega) _).setCell (p:=⟨w.heap.size + 1,1,none⟩) (by show w.heap.size≤w.heap.size + 1;omega) _⟩
 case pos=>
 obtain ⟨⟨hr3,hd3⟩,hlow1,hlow2,hlow3⟩:=HPI.out hP
 have hlt:ps.length - 1 < ps.length:=by omega
 have hq0:=hin _ (List.getElem_mem hlt)
 obtain ⟨hr3',hd3'⟩:=rows3 hq0
 have HLB:Hid (lastE (ps.map InstQ.e)=InstQ.e ps[ps.length - 1]):=HLA.out hlt
 have hnl:InstQ.n ps[ps.length - 1]≤1048576:=by have:=nmI_le ps _ hlt;omega
 have hgr1:=hgr0 ps[ps.length - 1]
 have hgr:=fun w h h' => hgr1 w h h' hnl hr3' hr3 hd3' hd3
 rw [HLB.out] at hw
 subst hP
 have hlowm:(∀ p∈ps.take (ps.length - 1),(∀ t∈p.batch,0 < t.acts.length)∧(∀ r∈p.rounds,0 < r.rep.length∧0 < r.pro.length)∧0 < p.dec.length):=fun q hq=>ins_low (hin q (List.mem_of_mem_take hq))
 have hlm:(ps.take (ps.length - 1)).length + nmL InstQ.n (ps.take (ps.length - 1))≤1048576:=by
  have:=nmL_le InstQ.n ps (ps.length - 1)
  rw [List.length_take]
  omega
 have hco:=fun a cap w h=>hco0 (ps.length - 1) a cap w h hlowm hlm
 have hci:=fun w h=>hci0 w h hlow1 hlow2 hlow3
 have hTk:=(h.at.below hB).take (ps.length - 1) (by omega)
 obtain ⟨b,off,rfl,hbs,hc,rL⟩:=(h.at.below hB).cell (by decide) (ps.length - 1) hlt
 have hc' : ∀ j x,(instK.cells ps[ps.length - 1])[j]? = some x→X.cell? ⟨b,off + (ps.length - 1) * 4 + j,none⟩=some x:=hc
 have c0:=hc' 0 (.bool ps[ps.length - 1].has) rfl
 have c1:=hc' 1 ps[ps.length - 1].vb rfl
 have c2:=hc' 2 ps[ps.length - 1].vr rfl
 have c3:=hc' 3 ps[ps.length - 1].vd rfl
 rw [Nat.add_zero] at c0
 have rP:=hrb X hB
 clear hc hc' hgr0 hgr1 hci0 hco0 hrb HLA HLB hlow1 hlow2 hlow3 hlowm hlm hr3 hd3 hr3' hd3' hq0 HPI hin hnl hp
 generalize grw (InstQ.e ps[ps.length - 1]) pe=G at *
 generalize ps[ps.length - 1]=L at *
 replace hw:(G=false∧D=8∧O=[])∨(G=true∧D=0∧O=(ps.map InstQ.e).take ((ps.map InstQ.e).length - 1) ++ [pe]):=by
  rcases hw with ⟨h0,_⟩ | ⟨_,h1,_⟩ | ⟨_,_,h1,e1,e2⟩ | ⟨_,_,h1,e1,e2⟩
  ·exact absurd rfl h0
  ·exact absurd rfl h1
  ·exact Or.inl ⟨h1,e1,e2⟩
  ·exact Or.inr ⟨h1,e1,e2⟩
 generalize hm:ps.length - 1=m at *
 have hpl:(ps.length:Int) - 1=(m:Int):=by omega
 have hpl2:ps.length=m + 1:=by omega
 have hmi:(m:Int) < ((m + 1:Nat):Int):=by omega
 rw [hpl2] at *
 have hm4:(m:Int)≤3:=by omega
 have hmc0:m≤cap:=by omega
 have hm00:(0:Int)≤(m:Int):=by omega
 clear hm hpl hpl2 hlt
 obtain ⟨lh,lvb,lb,lvr,lr,lvd,ld⟩:=L
 obtain ⟨l1,n1,rfl⟩:∃ a c,lvb=.slice a lb.length c:=rL.1.shape
 obtain ⟨l2,n2,rfl⟩:∃ a c,lvr=.slice a lr.length c:=rL.2.1.shape
 obtain ⟨l3,n3,rfl⟩:∃ a c,lvd=.slice a ld.length c:=rL.2.2.shape
 dsimp only at c0 c1 c2 c3 hgr
 have hW:Below X.heap.size X X.drew:=(Below.refl _ _).drew
 have hnn:Nonempty (Lat X):=⟨⟨X,Below.refl _ _⟩⟩
 have k0:=lat_cell c0
 have k1:=lat_cell c1
 have k2:=lat_cell c2
 have k3:=lat_cell c3
 have j0:=Bk.lat 0 _ rfl
 have j1:=Bk.lat 1 _ rfl
 have j2:=Bk.lat 2 _ rfl
 have j3:=Bk.lat 3 _ rfl
 clear c0 c1 c2 c3
 go_wp2_with fail
 rcases hw with ⟨hg,e1,e2⟩ | ⟨hg,e1,e2⟩
 ·have E1:Hid (D=8∧O=[]):=⟨e1,e2⟩
  subst hg
  clear e1 e2 HEP HLE
  refine text_begin (S:=fun w' => ∃ u:Lat X,w' = u.val) (by kernel_rfl) ?_
  refine seg_range [(0,5)] 2 (by kernel_rfl) (by kernel_rfl) (by kernel_rfl) (by kernel_rfl) (by kernel_rfl) ⟨⟨_,hW⟩,rfl⟩ ?_
  simp only [pickR,List.toList_toArray,List.flatMap_cons,List.flatMap_nil,List.drop_succ_cons,List.drop_zero,List.take_succ_cons,List.take_zero,List.cons_append,List.nil_append,List.append_nil]
  repeat go_big_quiet_step (fail)
  refine wpQuiet_nil ?_
  refine call_at 5 (some 28) 52 #[.agg #[.bool lh,.slice l1 lb.length n1,.slice l2 lr.length n2,.slice l3 ld.length n3],.agg #[.bool has,.slice ba batch.length bk,.slice va rounds.length vk,.slice da dec.length dk]] 1 (by kernel_rfl) (by kernel_rfl) (by kernel_rfl) (by kernel_rfl) (by kernel_rfl) ?_
  refine (hgr _ (instK.rd_below rL hW) (instK.rd_below rP hW)).mono ?_
  rintro e w9 ⟨rfl,hb9⟩
  replace hW:=hW.trans (hb9.mono hW.size)
  clear hb9
  refine ⟨_,rfl,⟨⟨_,hW⟩,rfl⟩,?_⟩
  simp only [Act.put,List.setIfInBounds_toArray,List.set_cons_zero,List.set_cons_succ]
  refine seg_range [(6,1)] 0 (by kernel_rfl) (by kernel_rfl) (by kernel_rfl) (by kernel_rfl) (by kernel_rfl) ⟨⟨_,hW⟩,rfl⟩ ?_
  simp only [pickR,List.toList_toArray,List.flatMap_cons,List.flatMap_nil,List.drop_succ_cons,List.drop_zero,List.take_succ_cons,List.take_zero,List.cons_append,List.nil_append,List.append_nil]
  repeat go_big_quiet_step (fail)
  refine wpQuiet_nil ?_
  refine text_end (by kernel_rfl) ?_
  replace hB:=hB.trans (hW.mono hB.size)
  replace Rb:=Rb.below hW
  clear k0 k1 k2 k3 j0 j1 j2 j3 hnn hW hgr Bk
  have q0:=Rb.cell 0 _ rfl
  have q1:=Rb.cell 1 _ rfl
  have f0:=Rb.frozen 0
  have f1:=Rb.frozen 1
  obtain ⟨hn1,hn2⟩:=Kind.own_nil (K:=instK) w
  clear hn1
  go_wp2
  exact bodyPost_ret (v:=.agg #[.int .i64 8,.slice none 0 0]) (by simp [results,Tryz.results23,go_sem,q0,q1]) rfl ⟨.slice none 0 0,[],by rw [E1.out.1],by rw [E1.out.2];rfl,(Kind.own_nil _).1,by rw [hn2];simp,by rw [hn2];simp,(hB.setCell (p:=⟨w.heap.size + 1,0,none⟩) (by show w.heap.size≤w.heap.size + 1;omega) _).setCell (p:=⟨w.heap.size + 1,1,none⟩) (by show w.heap.size≤w.heap.size + 1;omega) _⟩
 ·have HC0:Hid (D=0):=e1
  subst hg
  clear e1
  refine text_begin (S:=fun w' => ∃ u:Lat X,w' = u.val) (by kernel_rfl) ?_
  refine seg_range [(0,5)] 2 (by kernel_rfl) (by kernel_rfl) (by kernel_rfl) (by kernel_rfl) (by kernel_rfl) ⟨⟨_,hW⟩,rfl⟩ ?_
  simp only [pickR,List.toList_toArray,List.flatMap_cons,List.flatMap_nil,List.drop_succ_cons,List.drop_zero,List.take_succ_cons,List.take_zero,List.cons_append,List.nil_append,List.append_nil]
  repeat go_big_quiet_step (fail)
  refine wpQuiet_nil ?_
  refine call_at 5 (some 28) 52 #[.agg #[.bool lh,.slice l1 lb.length n1,.slice l2 lr.length n2,.slice l3 ld.length n3],.agg #[.bool has,.slice ba batch.length bk,.slice va rounds.length vk,.slice da dec.length dk]] 1 (by kernel_rfl) (by kernel_rfl) (by kernel_rfl) (by kernel_rfl) (by kernel_rfl) ?_
  refine (hgr _ (instK.rd_below rL hW) (instK.rd_below rP hW)).mono ?_
  rintro e w9 ⟨rfl,hb9⟩
  replace hW:=hW.trans (hb9.mono hW.size)
  clear hb9
  refine ⟨_,rfl,⟨⟨_,hW⟩,rfl⟩,?_⟩
  simp only [Act.put,List.setIfInBounds_toArray,List.set_cons_zero,List.set_cons_succ]
  refine seg_range [(6,1)] 0 (by kernel_rfl) (by kernel_rfl) (by kernel_rfl) (by kernel_rfl) (by kernel_rfl) ⟨⟨_,hW⟩,rfl⟩ ?_
  simp only [pickR,List.toList_toArray,List.flatMap_cons,List.flatMap_nil,List.drop_succ_cons,List.drop_zero,List.take_succ_cons,List.take_zero,List.cons_append,List.nil_append,List.append_nil]
  repeat go_big_quiet_step (fail)
  refine wpQuiet_nil ?_
  refine text_end (by kernel_rfl) ?_
  replace hB:=hB.trans (hW.mono hB.size)
  replace Rb:=Rb.below hW
  replace Bk:=Bk.below hW
  replace hTk:=hTk.below hW
  replace rP:=instK.rd_below rP hW
  clear k0 k1 k2 k3 j0 j1 j2 j3 hnn hW hgr rL
  have hmc:m≤cap:=hmc0
  have hm0:(0:Int)≤(m:Int):=by omega
  have hmc' : (m:Int)≤(cap:Int):=by omega
  go_wp2_with fail
  generalize hX9:w9=X at *
  clear hX9
  have hF:w.heap.size ∉ [w.heap.size + 1]:=by simp
  have p0:=lato_cell (F:=[w.heap.size + 1]) (Bk.cell 0 _ rfl) hF
  have p1:=lato_cell (F:=[w.heap.size + 1]) (Bk.cell 1 _ rfl) hF
  have p2:=lato_cell (F:=[w.heap.size + 1]) (Bk.cell 2 _ rfl) hF
  have p3:=lato_cell (F:=[w.heap.size + 1]) (Bk.cell 3 _ rfl) hF
  have hnn:Nonempty (LatO [w.heap.size + 1] X):=⟨⟨X,Out.refl _ _⟩⟩
  have hW:Below X.heap.size X X.drew:=(Below.refl _ _).drew
  have hnw:∀ w',Below X.heap.size X w' → ∃ u:LatO [w.heap.size + 1] X,w' = u.val:=fun w' hw' => ⟨⟨w',Out.of_below hw'⟩,rfl⟩
  refine text_begin (S:=fun w' => ∃ u:LatO [w.heap.size + 1] X,w' = u.val) (by kernel_rfl) ?_
  refine seg_range [(0,2),(4,1)] 7 (by kernel_rfl) (by kernel_rfl) (by kernel_rfl) (by kernel_rfl) (by kernel_rfl) (hnw _ hW) ?_
  simp only [pickR,List.toList_toArray,List.flatMap_cons,List.flatMap_nil,List.drop_succ_cons,List.drop_zero,List.take_succ_cons,List.take_zero,List.cons_append,List.nil_append,List.append_nil]
  repeat go_big_quiet_step (fail)
  refine wpQuiet_nil ?_
  refine one_at 2 _ 6 (by kernel_rfl) rfl (by kernel_rfl) ?_
  go_wp2
  refine ThenGo.to ⟨hnw _ hW,?_⟩
  refine call_at 3 (some 34) 33 #[.slice (some ⟨b,off,none⟩) m cap] 5 (by kernel_rfl) (by kernel_rfl) (by kernel_rfl) (by kernel_rfl) (by kernel_rfl) ?_
  refine (hco _ _ _ (hTk.below hW)).mono ?_
  rintro e Y ⟨vq,qs,rfl,eqs,hO,hn0,hlo0,hbY⟩
  obtain ⟨sa,sc,rfl⟩:=hO.shape
  have hqn:=HLE.out qs eqs
  have HQL:Hid (qs.length≤4):=show _≤_ by omega
  have HLT:Hid (∀ x∈instK.fp (.slice sa qs.length sc) qs,x < Y.heap.size):=hO.lt
  have HYS:Hid (X.heap.size≤Y.heap.size):=by have:=hW.size;have:=hbY.size;exact Nat.le_trans hW.size hbY.size
  have HN:Hid ((instK.fp (.slice sa qs.length sc) qs).Nodup∧∀ k∈instK.fp (.slice sa qs.length sc) qs,X.heap.size≤k):=⟨hn0,fun k hk=>Nat.le_trans hW.size (hlo0 k hk)⟩
  replace hW:=hW.trans (hbY.mono hW.size)
  clear hn0 hlo0 hco hqn hbY
  refine ⟨_,rfl,hnw _ hW,?_⟩
  simp only [Act.put,List.setIfInBounds_toArray,List.set_cons_zero,List.set_cons_succ]
  refine call_at 5 (some 36) 53 #[.agg #[.bool has,.slice ba batch.length bk,.slice va rounds.length vk,.slice da dec.length dk]] 4 (by kernel_rfl) (by kernel_rfl) (by kernel_rfl) (by kernel_rfl) (by kernel_rfl) ?_
  refine (hci _ (instK.rd_below rP hW)).mono ?_
  rintro e w2 ⟨q,rfl,eq,oq,nq,gq,hb2⟩
  have HQ5:Hid (_=O):=(HEP.out qs q eqs eq).trans e2.symm
  replace hO:=hO.below hb2
  replace hW:=hW.trans (hb2.mono hW.size)
  have h2s:=hb2.size
  clear hb2 eqs eq e2 hci HEP HLE
  refine ⟨_,rfl,hnw _ hW,?_⟩
  obtain ⟨qh,qvb,qb,qvr,qr,qvd,qd⟩:=q
  obtain ⟨x1,y1,rfl⟩:∃ a c,qvb=.slice a qb.length c:=oq.1.shape
  obtain ⟨x2,y2,rfl⟩:∃ a c,qvr=.slice a qr.length c:=oq.2.1.shape
  obtain ⟨x3,y3,rfl⟩:∃ a c,qvd=.slice a qd.length c:=oq.2.2.shape
  simp only [Act.put,List.setIfInBounds_toArray,List.set_cons_zero,List.set_cons_succ]
  refine one_at 6 _ 3 (by kernel_rfl) rfl (by kernel_rfl) ?_
  have hbA:Below w2.heap.size w2 (w2.alloc (.cells #[.bool qh,.slice x1 qb.length y1,.slice x2 qr.length y2,.slice x3 qd.length y3] 49)):=by go_grown
  have hOA:=hO.below hbA
  have hPA:=instK.own_out (F:=[]) oq (Out.of_below hbA) (fun _ _=>by simp)
  have hYA:Y.heap.size≤(w2.alloc (.cells #[.bool qh,.slice x1 qb.length y1,.slice x2 qr.length y2,.slice x3 qd.length y3] 49)).heap.size:=by have:=hbA.size;omega
  replace hW:=hW.trans (hbA.mono hW.size)
  have hsrc:∀ j u,[.bool qh,.slice x1 qb.length y1,.slice x2 qr.length y2,.slice x3 qd.length y3][j]? = some u→(w2.alloc (.cells #[.bool qh,.slice x1 qb.length y1,.slice x2 qr.length y2,.slice x3 qd.length y3] 49)).cell? ((⟨w2.heap.size,0,none⟩:Addr).add j)=some u:=by
   intro j u hj;match j,hj with | 0,hj=>simp at hj;subst hj;simp [Addr.add] | 1,hj=>simp at hj;subst hj;simp [Addr.add] | 2,hj=>simp at hj;subst hj;simp [Addr.add] | 3,hj=>simp at hj;subst hj;simp [Addr.add]
  clear hO oq
  go_wp2
  refine ThenGo.to ⟨hnw _ hW,?_⟩
  generalize w2.alloc (.cells #[.bool qh,.slice x1 qb.length y1,.slice x2 qr.length y2,.slice x3 qd.length y3] 49)=WA at *
  clear hbA
  have hrow0:=hOA.1
  refine one_at 7 _ 2 (by kernel_rfl) rfl (by kernel_rfl) ?_
  refine wpList_append_own_at _ rfl _ _ 24 rfl 0 49 i0 (.agg #[.bool false,.slice none 0 0,.slice none 0 0,.slice none 0 0]) 4 80 Tryz.underlying24 hi hz0 hz1 hz2 rfl (by decide) _ qs.length (instK.row qs) rfl hrow0 ⟨w2.heap.size,0,none⟩ 1 1 [.bool qh,.slice x1 qb.length y1,.slice x2 qr.length y2,.slice x3 qd.length y3] rfl rfl hsrc ?c2 ?c3 ?c4 ?c5 ?_
  case c2=>intro u hu;simp at hu;rcases hu with rfl | rfl | rfl | rfl <;> rfl
  case c3=>have:=HQL.out;unfold maxLen;omega
  case c4=>have:=HQL.out;omega
  case c5=>omega
  intro v' w5 hown hgrow hnil hat
  clear hnil hrow0 hsrc
  obtain ⟨hO5,hn5,hlo5,hou⟩:=hOA.snoc (p:=(⟨qh,.slice x1 qb.length y1,qb,.slice x2 qr.length y2,qr,.slice x3 qd.length y3,qd⟩:InstQ)) HN.out.1 HN.out.2 hPA nq (fun x hx hx' => by have:=HLT.out x hx';have:=gq x hx;omega) (fun x hx=>by have:=gq x hx;have:=HYS.out;omega) hW.size hown hgrow hat
  have hb5:Below X.heap.size X w5:=Out.keep hW hou hW.size (fun x hx=>HN.out.2 x (by simp only [Kind.fp,List.mem_append];exact Or.inl hx))
  clear hou hown hgrow hat hOA hPA HN HLT HYS HQL hW gq nq h2s hYA
  obtain ⟨xa,xc,hsh⟩:=hO5.shape
  subst hsh
  generalize hQ5:qs ++ [(⟨qh,.slice x1 qb.length y1,qb,.slice x2 qr.length y2,qr,.slice x3 qd.length y3,qd⟩:InstQ)]=Q5 at *
  clear hQ5
  have R5:=Rb.below hb5
  have hX1:=Rb.lt
  have HFIN:Hid (∀ cs,instK.Own (w5.setRow (w.heap.size + 1) cs) (.slice xa Q5.length xc) Q5∧Below w.heap.size w (w5.setRow (w.heap.size + 1) cs)):=fun cs=>⟨hO5.out (out_row w5 (w.heap.size + 1) cs) (fun k hk=>by have:=hlo5 k hk;simp only [List.mem_singleton];omega),below_row (hB.trans (hb5.mono hB.size)) (by omega) cs⟩
  have HL5:Hid ((instK.fp (.slice xa Q5.length xc) Q5).Nodup∧∀ k∈instK.fp (.slice xa Q5.length xc) Q5,w.heap.size≤k):=⟨hn5,fun k hk=>by have:=hlo5 k hk;omega⟩
  have hRr:=R5.row #[.int .i64 0,.slice xa Q5.length xc]
  have hUU:Out [w.heap.size + 1] X (w5.setRow (w.heap.size + 1) #[.int .i64 0,.slice xa Q5.length xc]):=(Out.of_below hb5).trans (out_row _ _ _)
  clear hO5 hn5 hlo5 hB
  go_wp2
  refine ThenGo.to ⟨hnw _ hb5,?_⟩
  simp only [Act.put,List.getElem_toArray,List.getElem_cons_succ,List.getElem_cons_zero,List.setIfInBounds_toArray,List.set_cons_zero,List.set_cons_succ]
  refine quiet_at 8 (some 39) (.agg #[.int .i64 0,.slice xa Q5.length xc]) 1 (by kernel_rfl) (by kernel_rfl) (by kernel_rfl) (by kernel_rfl) (by kernel_rfl) (fun u _=>by kernel_rfl) (hnw _ hb5) ?_
  simp only [Act.put,List.setIfInBounds_toArray,List.set_cons_zero,List.set_cons_succ]
  refine one_at 9 _ 0 (by kernel_rfl) rfl (by kernel_rfl) ?_
  refine st_row (by kernel_rfl) 33 _ _ rfl _ #[.int .i64 0,.slice xa Q5.length xc] rfl rfl 33 _ R5 sz_ord rfl (by simp [Value.oneCell']) ?_
  refine ThenGo.to ⟨⟨⟨_,hUU⟩,rfl⟩,?_⟩
  refine text_end (by kernel_rfl) ?_
  clear p0 p1 p2 p3 hnn hnw hb5 R5 hUU
  have q0:=hRr.cell 0 _ rfl
  have q1:=hRr.cell 1 _ rfl
  go_wp2
  exact bodyPost_ret (v:=.agg #[.int .i64 0,.slice xa Q5.length xc]) (by simp [results,Tryz.results23,go_sem,q0,q1]) rfl ⟨.slice xa Q5.length xc,Q5,by rw [HC0.out],HQ5.out,(HFIN.out _).1,HL5.out.1,HL5.out.2,(HFIN.out _).2⟩

end Go.Proofs.YtjjolkihiclopaaGreatDoor
