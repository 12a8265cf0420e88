/- Texts joined, with what the law reaches alone. -/
import Derived.Test.YtjjolkihiclopaaGreatDoorSBBH
import Derived.Test.YtjjolkihiclopaaGreatDoorSBBI
set_option linter.unusedVariables false
set_option linter.unusedSimpArgs false
namespace Go.Proofs.YtjjolkihiclopaaGreatDoor
open Go.RowKit
open Go.BigFrame
set_option maxRecDepth 100000
theorem nodup_set {P:Type} {K:Kind P} {v:Value} {ps:List P} (h:(K.fp v ps).Nodup) (i:Nat) (hi:i < ps.length) (p:P) (hp:(K.foot p).Nodup) (hd:∀ k∈K.foot p,k ∉ K.fp v ps):(K.fp v (ps.set i p)).Nodup:=by
 have e:ps=ps.take i ++ ps[i] :: ps.drop (i + 1):=by
  conv=>lhs;rw [← List.take_append_drop i ps,List.drop_eq_getElem_cons hi]
 have hA:K.fp v ps=blk v ++ ((ps.take i).flatMap K.foot ++ (K.foot ps[i] ++ (ps.drop (i + 1)).flatMap K.foot)):=by
  conv=>lhs;rw [e]
  simp only [Kind.fp,List.flatMap_append,List.flatMap_cons]
 rw [hA] at h hd
 simp only [Kind.fp]
 rw [set_split ps i hi p]
 simp only [List.flatMap_append,List.flatMap_cons]
 generalize blk v=A at *
 generalize (ps.take i).flatMap K.foot=B at *
 generalize (ps.drop (i + 1)).flatMap K.foot=C at *
 generalize K.foot p=D at *
 generalize K.foot ps[i]=E at *
 simp only [List.nodup_append,List.mem_append] at h hd ⊢
 obtain ⟨hA1,⟨hB1,⟨hE1,hC1,hEC⟩,hBC⟩,hABC⟩:=h
 refine ⟨hA1,⟨hB1,⟨hp,hC1,?_⟩,?_⟩,?_⟩
 ·rintro a ha b hb rfl
  exact hd a ha (Or.inr (Or.inr (Or.inr hb)))
 ·rintro a ha b (hb | hb) rfl
  ·exact hd a hb (Or.inr (Or.inl ha))
  ·exact hBC a ha a (Or.inr hb) rfl
 ·rintro a ha b (hb | hb | hb) rfl
  ·exact hABC a ha a (Or.inl hb) rfl
  ·exact hd a hb (Or.inl ha)
  ·exact hABC a ha a (Or.inr (Or.inr hb)) rfl

set_option maxHeartbeats 8000000 in
theorem specChangeLast_any (v:Value) (ps:List InstQ) (p:InstQ) (w:World) (h:instK.At w v ps) (hp:instK.rd w p) (hl:(ps.length + nmL InstQ.n ps)≤1048576) (hlp:p.n≤1048576) :
  Calls Tryz.prog 24 #[v,.agg #[.bool p.has,p.vb,p.vr,p.vd]] w fun e w' => ∃ (v' : Value) (qs:List InstQ),e=.returned (.agg #[.int .i64 (clC (ps.map InstQ.e) p.e),v'])∧qs.map InstQ.e=clO (ps.map InstQ.e) p.e∧instK.Own w' v' qs∧(instK.fp v' qs).Nodup∧(∀ k∈instK.fp v' qs,w.heap.size≤k)∧Below w.heap.size w w' := by
 have hof:=fun w h=>l7Fault_any v ps w h hl
 have hif:=fun b o w h=>l6Fault_any b o p w h hlp
 have HO:Hid (ordF (ps.map InstQ.e)=0→1≤ps.length∧ps.length≤4∧∀ q∈ps,insF (InstQ.e q)=0):=fun h0=>by
  have:=((ord_iff _).1 h0).1
  rw [List.length_map] at this
  exact ⟨this.1,this.2,fun q hq=>ord_mem h0 _ (List.mem_map.2 ⟨q,hq,rfl⟩)⟩
 have hco0:=fun w h hlow=>l7Copy_any v ps w h hlow hl
 obtain ⟨a,cap,rfl⟩:=h.shape
 have hw:=cl_ways (ps.map InstQ.e) (InstQ.e p)
 have HLA:Hid (∀ hlt:ps.length - 1 < ps.length,lastE (ps.map InstQ.e)=InstQ.e ps[ps.length - 1]):=fun hlt=>last_at ps hlt
 generalize clC (ps.map InstQ.e) (InstQ.e p)=D at *
 generalize clO (ps.map InstQ.e) (InstQ.e p)=O at *
 have HEP:Hid (∀ q1:List InstQ,∀ q:InstQ,q1.map InstQ.e=ps.map InstQ.e→q.e=InstQ.e p→1≤ps.length→(q1.set (ps.length - 1) q).map InstQ.e=(ps.map InstQ.e).take ((ps.map InstQ.e).length - 1) ++ [InstQ.e p]):=fun q1 q h1 h2 h3=>by
  rw [List.map_set,h1,h2,List.length_map,List.set_eq_take_append_cons_drop,if_pos (by rw [List.length_map];omega),List.drop_of_length_le (by rw [List.length_map];omega)]
 have HLE:Hid (∀ q1:List InstQ,q1.map InstQ.e=ps.map InstQ.e→q1.length=ps.length):=fun q1 h1=>by simpa using congrArg List.length h1
 have HPI:Hid (insF (InstQ.e p)=0→((∀ r∈p.rounds,r.rep.length=3∧r.pro.length=3)∧p.dec.length=3)∧(∀ t∈p.batch,0 < t.acts.length)∧(∀ r∈p.rounds,0 < r.rep.length∧0 < r.pro.length)∧0 < p.dec.length):=fun h0=>⟨rows3 h0,ins_low h0⟩
 have hgr0:=fun b o b' o' (l:InstQ) w h h' hl h1 h2 h3 h4=>l7Grown_any b o b' o' l p w h h' hl hlp h1 h2 h3 h4
 have hci0:=fun w h h1 h2 h3=>l6Copy_any p w h hlp h1 h2 h3
 have hrb:=fun (w' : World) hb=>instK.rd_below (w' := w') hp hb
 have HIP:Hid (∀ w' b o,Box4 w' b o (.bool p.has) p.vb p.vr p.vd→Below w.heap.size w w' → InstP w' b o p):=fun w' b o hx hb=>⟨hx,instK.rd_below hp hb⟩
 generalize ordF (ps.map InstQ.e)=C at *
 generalize insF (InstQ.e p)=PF at *
 generalize hpe:InstQ.e p=pe at *
 obtain ⟨has,vb,batch,vr,rounds,vd,dec⟩:=p
 obtain ⟨ba,bk,rfl⟩:∃ a c,vb=.slice a batch.length c:=hp.1.shape
 obtain ⟨va,vk,rfl⟩:∃ a c,vr=.slice a rounds.length c:=hp.2.1.shape
 obtain ⟨da,dk,rfl⟩:∃ a c,vd=.slice a dec.length c:=hp.2.2.shape
 dsimp only at hci0 hrb HPI HIP
 have hB:Below w.heap.size w ((w.alloc (.cells #[.bool has,.slice ba batch.length bk,.slice va rounds.length vk,.slice da dec.length dk] 49)).alloc (.cells #[.int .i64 0,.slice none 0 0] 33)):=by go_grown
 have Bk:=(Blk.new w 49 #[.bool has,.slice ba batch.length bk,.slice va rounds.length vk,.slice da dec.length dk]).below (w' := ((w.alloc (.cells #[.bool has,.slice ba batch.length bk,.slice va rounds.length vk,.slice da dec.length dk] 49)).alloc (.cells #[.int .i64 0,.slice none 0 0] 33))) (by go_grown)
 have Rb:=Blk.new (w.alloc (.cells #[.bool has,.slice ba batch.length bk,.slice va rounds.length vk,.slice da dec.length dk] 49)) 33 #[.int .i64 0,.slice none 0 0]
 rw [World.size_alloc] at Rb
 go_enter Tryz.func24,Tryz.ntmps24
 go_wp2_with fail
 generalize ((w.alloc (.cells #[.bool has,.slice ba batch.length bk,.slice va rounds.length vk,.slice da dec.length dk] 49)).alloc (.cells #[.int .i64 0,.slice none 0 0] 33))=W at *
 refine (hof W (h.below hB)).mono ?_
 rintro e w1 ⟨rfl,hb⟩
 replace hB:=hB.trans (hb.mono hB.size)
 replace Rb:=Rb.below hb
 replace Bk:=Bk.below hb
 clear hb hof
 by_cases hC:C=0
 case neg=>
  have hC' : (C != 0)=true:=by simpa using hC
  have E1:Hid (D=C∧O=[]):=by
   rcases hw with ⟨_,e1,e2⟩ | ⟨h1,_⟩ | ⟨h1,_⟩ | ⟨h1,_⟩
   ·exact ⟨e1,e2⟩
   ·exact absurd h1 hC
   ·exact absurd h1 hC
   ·exact absurd h1 hC
  clear hw HO HEP HLE HPI hC
  have q0:=Rb.cell 0 _ rfl
  have q1:=Rb.cell 1 _ rfl
  have f0:=Rb.frozen 0
  have f1:=Rb.frozen 1
  obtain ⟨hn1,hn2⟩:=Kind.own_nil (K:=instK) w
  clear hn1
  go_wp2
  exact bodyPost_ret (v:=.agg #[.int .i64 C,.slice none 0 0]) (by simp [results,Tryz.results24,go_sem,q0,q1]) rfl ⟨.slice none 0 0,[],by rw [E1.out.1],by rw [E1.out.2];rfl,(Kind.own_nil _).1,by rw [hn2];simp,by rw [hn2];simp,(hB.setCell (p:=⟨w.heap.size + 1,0,none⟩) (by show w.heap.size≤w.heap.size + 1;omega) _).setCell (p:=⟨w.heap.size + 1,1,none⟩) (by show w.heap.size≤w.heap.size + 1;omega) _⟩
 case pos=>
 obtain ⟨p1,p4,hin⟩:=HO.out hC
 subst hC
 have hP1:=HIP.out w1 w.heap.size 0 ⟨Bk.cell 0 _ rfl,Bk.cell 1 _ rfl,Bk.cell 2 _ rfl,Bk.cell 3 _ rfl⟩ hB
 clear HO
 go_wp2_with fail
 refine (hif w.heap.size 0 w1 hP1).mono ?_
 rintro e X ⟨rfl,hb⟩
 replace hB:=hB.trans (hb.mono hB.size)
 replace Rb:=Rb.below hb
 replace Bk:=Bk.below hb
 clear hb hif hP1
 by_cases hP:PF=0
 case neg=>
  have hP' : (PF != 0)=true:=by simpa using hP
  have E1:Hid (D=PF∧O=[]):=by
   rcases hw with ⟨h0,_⟩ | ⟨_,_,e1,e2⟩ | ⟨_,h1,_⟩ | ⟨_,h1,_⟩
   ·exact absurd rfl h0
   ·exact ⟨e1,e2⟩
   ·exact absurd h1 hP
   ·exact absurd h1 hP
  clear hw HEP HLE HPI hP
  have q0:=Rb.cell 0 _ rfl
  have q1:=Rb.cell 1 _ rfl
  have f0:=Rb.frozen 0
  have f1:=Rb.frozen 1
  obtain ⟨hn1,hn2⟩:=Kind.own_nil (K:=instK) w
  clear hn1
  go_wp2
  exact bodyPost_ret (v:=.agg #[.int .i64 PF,.slice none 0 0]) (by simp [results,Tryz.results24,go_sem,q0,q1]) rfl ⟨.slice none 0 0,[],by rw [E1.out.1],by rw [E1.out.2];rfl,(Kind.own_nil _).1,by rw [hn2];simp,by rw [hn2];simp,(hB.setCell (p:=⟨w.heap.size + 1,0,none⟩) (by show w.heap.size≤w.heap.size + 1;omega) _).setCell (p:=⟨w.heap.size + 1,1,none⟩) (by show w.heap.size≤w.heap.size + 1;omega) _⟩
 case pos=>
 obtain ⟨⟨hr3,hd3⟩,hlow1,hlow2,hlow3⟩:=HPI.out hP
 have hlt:ps.length - 1 < ps.length:=by omega
 have hq0:=hin _ (List.getElem_mem hlt)
 obtain ⟨hr3',hd3'⟩:=rows3 hq0
 have HLB:Hid (lastE (ps.map InstQ.e)=InstQ.e ps[ps.length - 1]):=HLA.out hlt
 have hnl:InstQ.n ps[ps.length - 1]≤1048576:=by have:=nmI_le ps _ hlt;omega
 obtain ⟨b,off,rfl,hbs,hPL⟩:=instP_at (h.below hB) (ps.length - 1) hlt
 have hgr1:=hgr0 b (off + (ps.length - 1) * 4) w.heap.size 0 ps[ps.length - 1] X hPL
 have hgr:=hgr1 (HIP.out X w.heap.size 0 ⟨Bk.cell 0 _ rfl,Bk.cell 1 _ rfl,Bk.cell 2 _ rfl,Bk.cell 3 _ rfl⟩ hB) hnl hr3' hr3 hd3' hd3
 rw [HLB.out] at hw
 subst hP
 have hlowm:(∀ p∈ps,(∀ t∈p.batch,0 < t.acts.length)∧(∀ r∈p.rounds,0 < r.rep.length∧0 < r.pro.length)∧0 < p.dec.length):=fun q hq=>ins_low (hin q hq)
 have hco:=fun w h=>hco0 w h hlowm
 have hci:=fun w h=>hci0 w h hlow1 hlow2 hlow3
 have HEP1:Hid (∀ q1:List InstQ,∀ q:InstQ,q1.map InstQ.e=ps.map InstQ.e→q.e=pe→(q1.set (ps.length - 1) q).map InstQ.e=(ps.map InstQ.e).take ((ps.map InstQ.e).length - 1) ++ [pe]):=fun q1 q h1 h2=>HEP.out q1 q h1 h2 p1
 clear hgr0 hgr1 hci0 hco0 HLA HLB hlow1 hlow2 hlow3 hlowm hr3 hd3 hr3' hd3' hq0 HPI hin hnl hPL HEP HIP
 generalize grw (InstQ.e ps[ps.length - 1]) pe=G at *
 replace hw:(G=false∧D=8∧O=[])∨(G=true∧D=0∧O=(ps.map InstQ.e).take ((ps.map InstQ.e).length - 1) ++ [pe]):=by
  rcases hw with ⟨h0,_⟩ | ⟨_,h1,_⟩ | ⟨_,_,h1,e1,e2⟩ | ⟨_,_,h1,e1,e2⟩
  ·exact absurd rfl h0
  ·exact absurd rfl h1
  ·exact Or.inl ⟨h1,e1,e2⟩
  ·exact Or.inr ⟨h1,e1,e2⟩
 generalize hm:ps.length - 1=m at *
 have hpl2:ps.length=m + 1:=by omega
 have hmi:(m:Int) < ((m + 1:Nat):Int):=by omega
 have HPL:Hid (ps.length=m + 1):=hpl2
 rw [hpl2] at h hco ⊢
 have hm4:(m:Int)≤3:=by omega
 have hm00:(0:Int)≤(m:Int):=by omega
 clear hm hpl2 hlt
 go_wp2_with fail
 refine hgr.mono ?_
 rintro e X2 ⟨rfl,hb⟩
 replace hB:=hB.trans (hb.mono hB.size)
 replace Rb:=Rb.below hb
 replace Bk:=Bk.below hb
 clear hb hgr
 rcases hw with ⟨hg,e1,e2⟩ | ⟨hg,e1,e2⟩
 ·have E1:Hid (D=8∧O=[]):=⟨e1,e2⟩
  subst hg
  clear e1 e2 HEP1 HLE
  have q0:=Rb.cell 0 _ rfl
  have q1:=Rb.cell 1 _ rfl
  have f0:=Rb.frozen 0
  have f1:=Rb.frozen 1
  obtain ⟨hn1,hn2⟩:=Kind.own_nil (K:=instK) w
  clear hn1
  go_wp2
  exact bodyPost_ret (v:=.agg #[.int .i64 8,.slice none 0 0]) (by simp [results,Tryz.results24,go_sem,q0,q1]) rfl ⟨.slice none 0 0,[],by rw [E1.out.1],by rw [E1.out.2];rfl,(Kind.own_nil _).1,by rw [hn2];simp,by rw [hn2];simp,(hB.setCell (p:=⟨w.heap.size + 1,0,none⟩) (by show w.heap.size≤w.heap.size + 1;omega) _).setCell (p:=⟨w.heap.size + 1,1,none⟩) (by show w.heap.size≤w.heap.size + 1;omega) _⟩
 ·have HC0:Hid (D=0):=e1
  subst hg
  clear e1
  go_wp2_with fail
  refine (hco X2 (h.below hB)).mono ?_
  rintro e Y ⟨vq,qs,rfl,eqs,hO,hn0,hlo0,hbY⟩
  obtain ⟨sa,sc,rfl⟩:=hO.shape
  have hqn:qs.length=m + 1:=by have h1:=HLE.out qs eqs;have h2:=HPL.out;omega
  obtain ⟨g,rfl⟩:=hO.blkOf (by omega)
  have hX2:=Rb.lt
  have hltq:m < qs.length:=by omega
  have HN:Hid ((instK.fp (.slice (some ⟨g,0,none⟩) qs.length sc) qs).Nodup∧∀ k∈instK.fp (.slice (some ⟨g,0,none⟩) qs.length sc) qs,X2.heap.size≤k):=⟨hn0,hlo0⟩
  have HLT:Hid (∀ x∈instK.fp (.slice (some ⟨g,0,none⟩) qs.length sc) qs,x < Y.heap.size):=hO.lt
  replace hB:=hB.trans (hbY.mono hB.size)
  replace Rb:=Rb.below hbY
  replace Bk:=Bk.below hbY
  have rP:=hrb Y hB
  have c0:=Bk.cell 0 _ rfl
  have c1:=Bk.cell 1 _ rfl
  have c2:=Bk.cell 2 _ rfl
  have c3:=Bk.cell 3 _ rfl
  clear hn0 hlo0 hco hbY
  go_wp2_with fail
  clear c0 c1 c2 c3
  refine (hci Y rP).mono ?_
  rintro e Y2 ⟨q,rfl,eq,oq,nq,gq,hb2⟩
  have HQ5:Hid ((qs.set m q).map InstQ.e=O):=(HEP1.out qs q eqs eq).trans e2.symm
  have hO2:=hO.below hb2
  replace hB:=hB.trans (hb2.mono hB.size)
  replace Rb:=Rb.below hb2
  clear hb2 eqs eq e2 hci HEP1 HLE hO rP Bk
  have hdis:∀ k∈instK.foot q,k ∉ instK.fp (.slice (some ⟨g,0,none⟩) qs.length sc) qs:=fun k hk hk' => by have:=gq k hk;have:=HLT.out k hk';omega
  have hg0:g∈instK.fp (.slice (some ⟨g,0,none⟩) qs.length sc) qs:=by simp [Kind.fp,blk,Value.ownBlock]
  have hgl:=HN.out.2 g hg0
  have HNS:Hid ((instK.fp (.slice (some ⟨g,0,none⟩) qs.length sc) (qs.set m q)).Nodup∧∀ k∈instK.fp (.slice (some ⟨g,0,none⟩) qs.length sc) (qs.set m q),X2.heap.size≤k):=by
   refine ⟨nodup_set HN.out.1 m hltq q nq hdis,fun k hk=>?_⟩
   simp only [Kind.fp,List.mem_append] at hk
   rcases hk with hk | hk
   ·exact HN.out.2 k (by simp only [Kind.fp,List.mem_append];exact Or.inl hk)
   ·rcases mem_foot_set hltq hk with hk | hk
    ·exact HN.out.2 k (by simp only [Kind.fp,List.mem_append];exact Or.inr hk)
    ·have:=gq k hk;have:=HLT.out g hg0;omega
  have hgq:∀ q' ∈ qs,∀ k∈instK.foot q',k≠g:=fun q' hq' k hk e=>by
   have h1:=HN.out.1
   simp only [Kind.fp,blk,Value.ownBlock,Option.toList,List.cons_append,List.nil_append,List.nodup_cons] at h1
   exact h1.1 (List.mem_flatMap.2 ⟨q',hq',e ▸ hk⟩)
  have hgp:∀ k∈instK.foot q,k≠g:=fun k hk e=>hdis k hk (e ▸ hg0)
  obtain ⟨qh,qvb,qb,qvr,qr,qvd,qd⟩:=q
  obtain ⟨x1,y1,rfl⟩:∃ a c,qvb=.slice a qb.length c:=oq.1.shape
  obtain ⟨x2,y2,rfl⟩:∃ a c,qvr=.slice a qr.length c:=oq.2.1.shape
  obtain ⟨x3,y3,rfl⟩:∃ a c,qvd=.slice a qd.length c:=oq.2.2.shape
  obtain ⟨d0,f0⟩:=hO2.cell m hltq 0 (.bool qs[m].has) rfl
  obtain ⟨d1,f1⟩:=hO2.cell m hltq 1 qs[m].vb rfl
  obtain ⟨d2,f2⟩:=hO2.cell m hltq 2 qs[m].vr rfl
  obtain ⟨d3,f3⟩:=hO2.cell m hltq 3 qs[m].vd rfl
  have hkk:∀ j,m * instK.size + j=m * 4 + j:=fun j=>rfl
  rw [hkk] at d0 f0 d1 f1 d2 f2 d3 f3
  rw [Nat.add_zero] at d0 f0
  have hrow:=own_setFrom hO2.1 (m * 4) [.bool qh,.slice x1 qb.length y1,.slice x2 qr.length y2,.slice x3 qd.length y3]
  have hput:=hO2.put (w' := ((((Y2.setCell ⟨g,m * 4,none⟩ (.bool qh)).setCell ⟨g,m * 4 + 1,none⟩ (.slice x1 qb.length y1)).setCell ⟨g,m * 4 + 2,none⟩ (.slice x2 qr.length y2)).setCell ⟨g,m * 4 + 3,none⟩ (.slice x3 qd.length y3))) m hltq (⟨qh,.slice x1 qb.length y1,qb,.slice x2 qr.length y2,qr,.slice x3 qd.length y3,qd⟩:InstQ) (by simp [List.zipIdx_cons] at hrow;exact hrow) (((Out.setCell _ _ _ _).trans (Out.setCell _ _ _ _)).trans (Out.setCell _ _ _ _) |>.trans (Out.setCell _ _ _ _)) hgq oq hgp
  have hBp:Below w.heap.size w ((((Y2.setCell ⟨g,m * 4,none⟩ (.bool qh)).setCell ⟨g,m * 4 + 1,none⟩ (.slice x1 qb.length y1)).setCell ⟨g,m * 4 + 2,none⟩ (.slice x2 qr.length y2)).setCell ⟨g,m * 4 + 3,none⟩ (.slice x3 qd.length y3)):=(((hB.setCell (p:=⟨g,m * 4,none⟩) (by show w.heap.size≤g;omega) _).setCell (p:=⟨g,m * 4 + 1,none⟩) (by show w.heap.size≤g;omega) _).setCell (p:=⟨g,m * 4 + 2,none⟩) (by show w.heap.size≤g;omega) _).setCell (p:=⟨g,m * 4 + 3,none⟩) (by show w.heap.size≤g;omega) _
  have Rp:Blk ((((Y2.setCell ⟨g,m * 4,none⟩ (.bool qh)).setCell ⟨g,m * 4 + 1,none⟩ (.slice x1 qb.length y1)).setCell ⟨g,m * 4 + 2,none⟩ (.slice x2 qr.length y2)).setCell ⟨g,m * 4 + 3,none⟩ (.slice x3 qd.length y3)) (w.heap.size + 1) 33 #[.int .i64 0,.slice none 0 0]:=(((Rb.other (b' := g) (by omega) _ _).other (b' := g) (by omega) _ _).other (b' := g) (by omega) _ _).other (b' := g) (by omega) _ _
  have r0:=Rp.cell 0 _ rfl
  have r1:=Rp.cell 1 _ rfl
  have g0:=Rp.frozen 0
  have g1:=Rp.frozen 1
  rw [← hqn]
  have hlti:(m:Int) < (qs.length:Int):=by omega
  have HFIN:Hid (∀ u u',instK.Own ((((((Y2.setCell ⟨g,m * 4,none⟩ (.bool qh)).setCell ⟨g,m * 4 + 1,none⟩ (.slice x1 qb.length y1)).setCell ⟨g,m * 4 + 2,none⟩ (.slice x2 qr.length y2)).setCell ⟨g,m * 4 + 3,none⟩ (.slice x3 qd.length y3)).setCell ⟨w.heap.size + 1,0,none⟩ u).setCell ⟨w.heap.size + 1,1,none⟩ u') (.slice (some ⟨g,0,none⟩) qs.length sc) (qs.set m (⟨qh,.slice x1 qb.length y1,qb,.slice x2 qr.length y2,qr,.slice x3 qd.length y3,qd⟩:InstQ))∧Below w.heap.size w ((((((Y2.setCell ⟨g,m * 4,none⟩ (.bool qh)).setCell ⟨g,m * 4 + 1,none⟩ (.slice x1 qb.length y1)).setCell ⟨g,m * 4 + 2,none⟩ (.slice x2 qr.length y2)).setCell ⟨g,m * 4 + 3,none⟩ (.slice x3 qd.length y3)).setCell ⟨w.heap.size + 1,0,none⟩ u).setCell ⟨w.heap.size + 1,1,none⟩ u')):=fun u u' => by
   refine ⟨hput.out (((Out.refl [w.heap.size + 1] _).set (b:=w.heap.size + 1) (j:=0) (u:=u) (by simp)).set (b:=w.heap.size + 1) (j:=1) (u:=u') (by simp)) (fun k hk=>by have:=HNS.out.2 k hk;simp only [List.mem_singleton];omega),?_⟩
   exact (hBp.setCell (p:=⟨w.heap.size + 1,0,none⟩) (by show w.heap.size≤w.heap.size + 1;omega) _).setCell (p:=⟨w.heap.size + 1,1,none⟩) (by show w.heap.size≤w.heap.size + 1;omega) _
  have HL5:Hid ((instK.fp (.slice (some ⟨g,0,none⟩) qs.length sc) (qs.set m (⟨qh,.slice x1 qb.length y1,qb,.slice x2 qr.length y2,qr,.slice x3 qd.length y3,qd⟩:InstQ))).Nodup∧∀ k∈instK.fp (.slice (some ⟨g,0,none⟩) qs.length sc) (qs.set m (⟨qh,.slice x1 qb.length y1,qb,.slice x2 qr.length y2,qr,.slice x3 qd.length y3,qd⟩:InstQ)),w.heap.size≤k):=⟨HNS.out.1,fun k hk=>by have:=HNS.out.2 k hk;omega⟩
  clear hrow hO2 HN HLT hgq hgp hdis nq gq oq hB Rb hput hBp Rp HNS
  go_wp2
  exact bodyPost_ret (v:=.agg #[.int .i64 0,.slice (some ⟨g,0,none⟩) qs.length sc]) (by simp [results,Tryz.results24,go_sem,r0,r1,hqn]) rfl ⟨.slice (some ⟨g,0,none⟩) qs.length sc,qs.set m (⟨qh,.slice x1 qb.length y1,qb,.slice x2 qr.length y2,qr,.slice x3 qd.length y3,qd⟩:InstQ),by rw [HC0.out],HQ5.out,(HFIN.out _ _).1,HL5.out.1,HL5.out.2,(HFIN.out _ _).2⟩

theorem clO_n {ps:List InstQ} {p:InstQ} {qs:List InstQ} (h:qs.map InstQ.e=clO (ps.map InstQ.e) (InstQ.e p)):qs.length + nmL InstQ.n qs≤1048576:=by
 rcases cl_ways (ps.map InstQ.e) (InstQ.e p) with ⟨_,_,e2⟩ | ⟨_,_,_,e2⟩ | ⟨_,_,_,_,e2⟩ | ⟨h0,h1,_,_,e2⟩
 ·rw [e2] at h
  have:qs=[]:=by simpa using h
  subst this
  simp [nmL]
 ·rw [e2] at h
  have:qs=[]:=by simpa using h
  subst this
  simp [nmL]
 ·rw [e2] at h
  have:qs=[]:=by simpa using h
  subst this
  simp [nmL]
 ·rw [e2] at h
  have hl:=congrArg List.length h
  have hl2:=((ord_iff _).1 h0).1
  rw [List.length_map] at hl2
  simp only [List.length_map,List.length_append,List.length_singleton,List.length_take] at hl
  have:=insts_small (qs:=qs) (fun q hq=>by
   have hm:InstQ.e q∈(ps.map InstQ.e).take ((ps.map InstQ.e).length - 1) ++ [InstQ.e p]:=by rw [← h];exact List.mem_map.2 ⟨q,hq,rfl⟩
   rcases List.mem_append.1 hm with hm | hm
   ·exact ord_mem h0 _ (List.mem_of_mem_take hm)
   ·simp only [List.mem_singleton] at hm
    rw [hm];exact h1)
  have h5:qs.length≤5:=by omega
  have h6:qs.length * 61≤5 * 61:=Nat.mul_le_mul_right _ h5
  omega

end Go.Proofs.YtjjolkihiclopaaGreatDoor
