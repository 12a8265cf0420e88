/- Texts joined,with what the laws reach alone. -/
import Derived.Test.YtljbililjlafcaaGreatDoorILAM
import Derived.Test.YtljbililjlafcaaGreatDoorILAJ
set_option linter.unusedVariables false
set_option linter.unusedSimpArgs false
set_option maxRecDepth 100000
set_option maxHeartbeats 16000000
namespace Go.Proofs.YtljbililjlafcaaGreatDoor
open Go.RowKit Go.BigFrame
section
open Go.Maps
def nextI(xs:List ItemD)(t:TxnD):List ItemD:=if(z0t xs t.acts).1=0 then(z0t xs t.acts).2 else xs
def allI:List ItemD→List TxnD→List ItemD
 |xs,[]=>xs
 |xs,t::r=>allI (nextI xs t) r
def z4X:List ItemD→List TxnD→List Int
 |_,[]=>[]
 |xs,t::r=>(z0t xs t.acts).1::z4X (nextI xs t) r
def z4Y:List ItemD→List TxnD→List Int
 |_,[]=>[]
 |xs,t::r=>runV xs t.acts::z4Y (nextI xs t) r
theorem z1b{xs:List ItemD}{t:TxnD}(hl:xs.length≤8)(g:Good xs)(ht:t.F=0):(nextI xs t).length≤8∧Good (nextI xs t):=by
 unfold nextI;split
 ·rename_i h;exact z8C hl g (z0S ht).2 h
 ·exact⟨hl,g⟩
theorem z1E:∀ {ds:List TxnD} {xs:List ItemD},xs.length≤8→Good xs→(∀t∈ds,t.F=0)→(allI xs ds).length≤8∧Good (allI xs ds)
 |[],xs,hl,g,_=>⟨hl,g⟩
 |t::r,xs,hl,g,ht=>by
  obtain⟨h1,h2⟩:=z1b hl g (ht t (by simp));exact z1E (ds:=r) (xs:=nextI xs t) h1 h2 (fun u hu=>ht u (by simp[hu]))
theorem z7o:∀ {ds:List TxnD},allF ds=0→∀t∈ds,t.F=0
 |[],_,t,h=>by simp at h
 |x::r,h,t,ht=>by
  simp only[allF]at h;by_cases hx:x.F=0
  ·rw[if_pos hx]at h;rcases List.mem_cons.1 ht with rfl|ht
   ·exact hx
   ·exact z7o h t ht
  ·rw[if_neg hx]at h;exact absurd h hx
theorem q2a{ds:List TxnD}(h:z7x ds=0):ds.length≤60∧∀t∈ds,t.F=0:=by
 have h60:=q1D h;unfold z7x at h;rw[if_neg (by omega)]at h;exact⟨h60,z7o h⟩
def eaC(xs:List ItemD)(ds:List TxnD):Int:=if itemsF xs≠0 then itemsF xs else z7x ds
def q3v(xs:List ItemD)(ds:List TxnD):List Int:=if eaC xs ds=0 then z4X xs ds else []
def q3w(xs:List ItemD)(ds:List TxnD):List Int:=if eaC xs ds=0 then z4Y xs ds else []
def eaI(xs:List ItemD)(ds:List TxnD):List ItemD:=if eaC xs ds=0 then allI xs ds else []
theorem q4o{xs:List ItemD}{ds:List TxnD}(h:itemsF xs=0)(h2:z7x ds=0):eaC xs ds=0∧q3v xs ds=z4X xs ds∧q3w xs ds=z4Y xs ds∧eaI xs ds=allI xs ds:=by
 have e:eaC xs ds=0:=by simp[eaC,h,h2]
 exact⟨e,by simp[q3v,e],by simp[q3w,e],by simp[eaI,e]⟩
theorem q2b{ds:List TxnD}{k:Nat}(h:k<ds.length):ds.drop k=ds.getD k z0l::ds.drop (k+1):=by
 have e:ds.getD k z0l=ds[k]:=by simp[List.getD,h]
 rw[List.drop_eq_getElem_cons h,e]
theorem Apart3.nil:Apart3 (.slice none 0 0) (.slice none 0 0) (.slice none 0 0):=⟨Or.inl rfl,Or.inl rfl,Or.inl rfl⟩
theorem Apart3.grow1{w:World}{s1 s2 s3 s1':Value}(h:Apart3 s1 s2 s3)(hl:s1'.ownBlock=s1.ownBlock∨s1'.ownBlock=some w.heap.size)(h2:∀g,s2.ownBlock=some g→g<w.heap.size)(h3:∀g,s3.ownBlock=some g→g<w.heap.size):Apart3 s1' s2 s3:=by
 rcases hl with e|e
 ·exact⟨by rw[e];exact h.a12,by rw[e];exact h.a13,h.a23⟩
 ·exact⟨Or.inr (by rw[e];intro k;have:=h2 _ k.symm;omega),Or.inr (by rw[e];intro k;have:=h3 _ k.symm;omega),h.a23⟩
theorem Apart3.grow2{w:World}{s1 s2 s3 s2':Value}(h:Apart3 s1 s2 s3)(hl:s2'.ownBlock=s2.ownBlock∨s2'.ownBlock=some w.heap.size)(h1:∀g,s1.ownBlock=some g→g<w.heap.size)(h3:∀g,s3.ownBlock=some g→g<w.heap.size):Apart3 s1 s2' s3:=by
 rcases hl with e|e
 ·exact⟨by rw[e];exact h.a12,h.a13,by rw[e];exact h.a23⟩
 ·refine⟨z55 (Or.inr ?_),h.a13,Or.inr ?_⟩
  ·rw[e];intro k;have:=h1 _ k.symm;omega
  ·rw[e];intro k;have:=h3 _ k.symm;omega
end
def z0F:List ItemD→List TxnD→List (TxnD × Int × Int × List UndoD)
 |_,[]=>[]
 |xs,t::r=>(t,(z0t xs t.acts).1,runV xs t.acts,z0G xs t.acts)::z0F (nextI xs t) r
theorem z2p:∀ (ds:List TxnD) (xs:List ItemD) (t:TxnD),z0F xs (ds++[t])=z0F xs ds++[(t,(z0t (allI xs ds) t.acts).1,runV (allI xs ds) t.acts,z0G (allI xs ds) t.acts)]
 |[],_,_=>rfl
 |d::r,xs,t=>by
  simp only[List.cons_append,z0F,allI];rw[z2p r]
theorem z3c:∀ (ds:List TxnD) (xs:List ItemD) (t:TxnD),allI xs (ds++[t])=nextI (allI xs ds) t
 |[],_,_=>rfl
 |d::r,xs,t=>by
  simp only[List.cons_append,allI];exact z3c r _ t
def DeedQ.t(p:DeedQ):TxnD:=⟨p.i,p.s,p.q,p.acts⟩
def DeedQ.e4(p:DeedQ):TxnD × Int × Int × List UndoD:=(p.t,p.code,p.val,p.us)
theorem du9{xs:List ItemD}{t:TxnD}(hl:xs.length≤8)(g:Good xs)(ht:t.F=0):exC xs t.id t.session t.seq t.acts=(z0t xs t.acts).1∧exV xs t.id t.session t.seq t.acts=runV xs t.acts∧duU xs t.id t.session t.seq t.acts=z0G xs t.acts∧exR xs t.id t.session t.seq t.acts=runR xs t.acts:=by
 have h1:=q0X hl g;have h2:txnF t.id t.session t.seq t.acts=0:=ht;have e:exC xs t.id t.session t.seq t.acts=(z0t xs t.acts).1:=by
  unfold exC;rw[if_neg (by simp[h1]),if_neg (by simp[h2])]
 refine⟨e,?_,?_,?_⟩
 ·unfold exV runV;rw[e]
 ·unfold duU z0G;rw[e]
 ·unfold exR runR;rw[e]
theorem z2g{e n lo hi:Nat}{w:World}{v:Value}{m:Nat}{xs:List Value}(h:OwnS e n lo hi w v m xs):w.ownsRow 0 e n v m xs∧∀k∈blk v,lo≤k:=z0y h.1
theorem z4Z:itemsF ([]:List ItemD)=0:=by decide
theorem z4c:Good ([]:List ItemD):=(z29 z4Z).2
theorem q1c(ia:Option Addr)(ic:Nat)(xs:List ItemD)(i s q:Int)(ta:Option Addr)(tc:Nat)(zs:List ActD)(w:World)(h:itemK.At w (.slice ia xs.length ic) xs)(ht:actK.At w (.slice ta zs.length tc) zs)(hl:xs.length≤8)(g:Good xs)(hF:(⟨i,s,q,zs⟩:TxnD).F=0):
  Calls Tryz.prog 147 #[.slice ia xs.length ic,.agg #[.int .i64 i,.int .i64 s,.int .i64 q,.slice ta zs.length tc]] w fun e w'=>∃b c b2 c2,e=.returned (.agg #[.int .i64 (z0t xs zs).1,.int .i64 (runV xs zs),.slice b (z0G xs zs).length c,.slice b2 (runR xs zs).length c2])∧
   undoK.Own w' (.slice b (z0G xs zs).length c) (z0G xs zs)∧itemK.Own w' (.slice b2 (runR xs zs).length c2) (runR xs zs)∧(∀k∈blk (.slice b (z0G xs zs).length c),w.heap.size≤k)∧(∀k∈blk (.slice b2 (runR xs zs).length c2),w.heap.size≤k)∧Below w.heap.size w w':=by
 obtain⟨e1,e2,e3,e4⟩:=du9 (t:=⟨i,s,q,zs⟩) hl g hF;have hz:=(z0S (show txnF i s q zs=0 from hF)).1;have hq:=z5m ia ic xs i s q ta tc zs w (z0T h).2 (z0O ht).2 (by omega) (by omega);dsimp only at e1 e2 e3 e4;rw[e1,e2,e3,e4]at hq;refine hq.mono ?_;rintro e w' ⟨b,c,b2,c2,rfl,hU,hb⟩;obtain⟨o1,l1⟩:=z2g hU.o1;obtain⟨o2,l2⟩:=z2g hU.o2;exact⟨b,c,b2,c2,rfl,⟨o1,fun _ _=>trivial⟩,⟨o2,fun _ _=>trivial⟩,l1,l2,hb⟩
structure Rec (w:World) (rb B0:Nat) (wr:World) (vN iN vU iU:Value) (ds us:List DeedQ) (xs ys:List ItemD):Prop where
 B:Blk wr rb 160 #[vN,iN,vU,iU]
 oN:wr.ownsRow 0 271 6 vN ds.length ((z4T w).row ds)
 aN:∀p∈ds,actK.At w p.va p.acts
 oU:wr.ownsRow 0 239 7 vU us.length ((z3R w).row us)
 aU:∀p∈us,actK.At w p.va p.acts∧undoK.Own wr p.lv p.us
 jN:itemK.Own wr iN xs
 jU:itemK.Own wr iU ys
 nu:∀k∈blk vN,k∉blk vU
 lN:∀k∈blk vN,B0≤k
 lU:∀k∈blk vU,B0≤k
 d1:∀k∈blk iN,B0≤k∧k∉blk vN∧k∉blk vU
 d2:∀k∈blk iU,B0≤k∧k∉blk vN∧k∉blk vU
 d3:∀p∈us,∀k∈blk p.lv,B0≤k∧k∉blk vN∧k∉blk vU
theorem Rec.below{w:World}{rb B0:Nat}{wr wr':World}{vN iN vU iU:Value}{ds us:List DeedQ}{xs ys:List ItemD}(h:Rec w rb B0 wr vN iN vU iU ds us xs ys)(hb:Below wr.heap.size wr wr'):Rec w rb B0 wr' vN iN vU iU ds us xs ys:=
 ⟨h.B.below hb,z0d h.oN hb,h.aN,z0d h.oU hb,fun p hp=>⟨(h.aU p hp).1,(h.aU p hp).2.below hb⟩,h.jN.below hb,h.jU.below hb,h.nu,h.lN,h.lU,h.d1,h.d2,h.d3⟩
theorem z2J{v v':Value}{H B0:Nat}(h:v'.ownBlock=v.ownBlock∨∃g,v'.ownBlock=some g∧H≤g){k:Nat}(hk:k∈blk v'):k∈blk v∨H≤k:=by
 unfold blk at hk⊢;rcases h with h|⟨g,h,hg⟩
 ·rw[h]at hk;exact Or.inl hk
 ·rw[h]at hk;simp only[Option.toList,List.mem_singleton]at hk;subst hk;exact Or.inr hg
theorem z0J{w:World}{b e n m:Nat}{v:Value}{xs:List Value}(h:w.ownsRow b e n v m xs):∀k∈blk v,k<w.heap.size:=fun k hk=>(h.lt k (by simpa[blk]using hk)).2
theorem Rec.addN{w:World}{rb B0:Nat}{w1 w2:World}{vN iN d':Value}{vU iU i':Value}{ds us:List DeedQ}{xs ys xs':List ItemD}{p:DeedQ}(h:Rec w rb B0 w1 vN iN vU iU ds us xs ys)(hrb:rb<B0)(hB:B0≤w1.heap.size)(hp:actK.At w p.va p.acts)
  (hi:itemK.Own w1 i' xs') (hil:∀k∈blk i',B0≤k∧k∉blk vN∧k∉blk vU)
  (B:Blk w2 rb 160 #[d',i',vU,iU]) (ho:w2.ownsRow 0 271 6 d' (ds.length+1) ((z4T w).row ds++(z4T w).cells p)) (hd:d'.ownBlock=vN.ownBlock∨∃g,d'.ownBlock=some g∧w1.heap.size≤g) (hO:Out (rb::blk vN) w1 w2):
  Rec w rb B0 w2 d' i' vU iU (ds++[p]) us xs' ys:=by
 have nF:∀ {k},B0≤k→k∉blk vN→k∉rb::blk vN:=fun hk hn hm=>by
  rcases List.mem_cons.1 hm with e|e
  ·omega
  ·exact hn e
 have out:∀ {k},(k<w1.heap.size)→k∉blk vN→k∉blk d':=fun hk hn hm=>by
  rcases z2J (B0:=0) hd hm with e|e
  ·exact hn e
  ·omega
 refine⟨B,by rw[List.length_append,List.length_singleton,Kind.row_snoc];exact ho,?_,z0L h.oU hO (fun k hk=>nF (h.lU k hk) (fun e=>h.nu k e hk)),?_,?_,?_,?_,?_,h.lU,?_,?_,?_⟩
 ·intro q hq;rcases List.mem_append.1 hq with hq|hq
  ·exact h.aN q hq
  ·simp only[List.mem_singleton]at hq;subst hq;exact hp
 ·exact fun q hq=>⟨(h.aU q hq).1,(h.aU q hq).2.out hO (fun k hk=>by rw[z0U]at hk;exact nF (h.d3 q hq k hk).1 (h.d3 q hq k hk).2.1)⟩
 ·exact hi.out hO (fun k hk=>by rw[z0s]at hk;exact nF (hil k hk).1 (hil k hk).2.1)
 ·exact h.jU.out hO (fun k hk=>by rw[z0s]at hk;exact nF (h.d2 k hk).1 (h.d2 k hk).2.1)
 ·intro k hk hm;rcases z2J (B0:=0) hd hk with e|e
  ·exact h.nu k e hm
  ·have:=z0J h.oU k hm;omega
 ·intro k hk;rcases z2J (B0:=0) hd hk with e|e
  ·exact h.lN k e
  ·omega
 ·exact fun k hk=>⟨(hil k hk).1,out (z0J hi.1 k hk) (hil k hk).2.1,(hil k hk).2.2⟩
 ·exact fun k hk=>⟨(h.d2 k hk).1,out (z0J h.jU.1 k hk) (h.d2 k hk).2.1,(h.d2 k hk).2.2⟩
 ·exact fun q hq k hk=>⟨(h.d3 q hq k hk).1,out (z0J (h.aU q hq).2.1 k hk) (h.d3 q hq k hk).2.1,(h.d3 q hq k hk).2.2⟩
theorem Rec.addU{w:World}{rb B0:Nat}{w1 w2:World}{vN iN d':Value}{vU iU i':Value}{ds us:List DeedQ}{xs ys z:List ItemD}{p:DeedQ}(h:Rec w rb B0 w1 vN iN vU iU ds us xs ys)(A:rb<B0)(hB:B0≤w1.heap.size)(hp:actK.At w p.va p.acts)(y:undoK.Own w1 p.lv p.us)
  (d:∀k∈blk p.lv,B0≤k∧k∉blk vN∧k∉blk vU)
  (hi:itemK.Own w1 i' z) (c:∀k∈blk i',B0≤k∧k∉blk vN∧k∉blk vU)
  (B:Blk w2 rb 160 #[vN,iN,d',i']) (ho:w2.ownsRow 0 239 7 d' (us.length+1) ((z3R w).row us++(z3R w).cells p)) (hd:d'.ownBlock=vU.ownBlock∨∃g,d'.ownBlock=some g∧w1.heap.size≤g) (hO:Out (rb::blk vU) w1 w2):
  Rec w rb B0 w2 vN iN d' i' ds (us++[p]) xs z:=by
 have nF:∀ {k},B0≤k→k∉blk vU→k∉rb::blk vU:=fun hk hn hm=>by
  rcases List.mem_cons.1 hm with e|e
  ·omega
  ·exact hn e
 have x:∀ {k},(k<w1.heap.size)→k∉blk vU→k∉blk d':=fun hk hn hm=>by
  rcases z2J (B0:=0) hd hm with e|e
  ·exact hn e
  ·omega
 refine⟨B,z0L h.oN hO (fun k hk=>nF (h.lN k hk) (h.nu k hk)),h.aN,by rw[List.length_append,List.length_singleton,Kind.row_snoc];exact ho,?_,?_,?_,?_,h.lN,?_,?_,?_,?_⟩
 ·intro q hq;rcases List.mem_append.1 hq with hq|hq
  ·exact⟨(h.aU q hq).1,(h.aU q hq).2.out hO (fun k hk=>by rw[z0U]at hk;exact nF (h.d3 q hq k hk).1 (h.d3 q hq k hk).2.2)⟩
  ·simp only[List.mem_singleton]at hq;subst hq;exact⟨hp,y.out hO (fun k hk=>by rw[z0U]at hk;exact nF (d k hk).1 (d k hk).2.2)⟩
 ·exact h.jN.out hO (fun k hk=>by rw[z0s]at hk;exact nF (h.d1 k hk).1 (h.d1 k hk).2.2)
 ·exact hi.out hO (fun k hk=>by rw[z0s]at hk;exact nF (c k hk).1 (c k hk).2.2)
 ·intro k hk hm;rcases z2J (B0:=0) hd hm with e|e
  ·exact h.nu k hk e
  ·have:=z0J h.oN k hk;omega
 ·intro k hk;rcases z2J (B0:=0) hd hk with e|e
  ·exact h.lU k e
  ·omega
 ·exact fun k hk=>⟨(h.d1 k hk).1,(h.d1 k hk).2.1,x (z0J h.jN.1 k hk) (h.d1 k hk).2.2⟩
 ·exact fun k hk=>⟨(c k hk).1,(c k hk).2.1,x (z0J hi.1 k hk) (c k hk).2.2⟩
 ·intro q hq k hk;rcases List.mem_append.1 hq with hq|hq
  ·exact⟨(h.d3 q hq k hk).1,(h.d3 q hq k hk).2.1,x (z0J (h.aU q hq).2.1 k hk) (h.d3 q hq k hk).2.2⟩
  ·simp only[List.mem_singleton]at hq;subst hq;exact⟨(d k hk).1,(d k hk).2.1,x (z0J y.1 k hk) (d k hk).2.2⟩
theorem Rec.share{w:World}{rb B0:Nat}{w1:World}{vN iN vU iU:Value}{ds us:List DeedQ}{xs ys:List ItemD}(h:Rec w rb B0 w1 vN iN vU iU ds us xs ys)(hrb:rb<B0):Rec w rb B0 (w1.setCell ⟨rb,3,none⟩ iN) vN iN vU iN ds us xs xs:=by
 have hO:=Out.setCell w1 rb 3 iN;have nF:∀ {k},B0≤k→k∉[rb]:=fun hk hm=>by simp only[List.mem_singleton]at hm;omega
 refine⟨?_,z0L h.oN hO (fun k hk=>nF (h.lN k hk)),h.aN,z0L h.oU hO (fun k hk=>nF (h.lU k hk)),fun p hp=>⟨(h.aU p hp).1,(h.aU p hp).2.out hO (fun k hk=>by rw[z0U]at hk;exact nF (h.d3 p hp k hk).1)⟩,h.jN.out hO (fun k hk=>by rw[z0s]at hk;exact nF (h.d1 k hk).1),h.jN.out hO (fun k hk=>by rw[z0s]at hk;exact nF (h.d1 k hk).1),h.nu,h.lN,h.lU,h.d1,h.d1,h.d3⟩;have:=h.B.set 3 iN;simpa using this
theorem z3d{F:List Nat}{w:World}{b o:Nat}{v:Value}(h:w.cell? ⟨b,o,none⟩=some v)(hF:b∉F):∀u:KeepP (Out F w),u.val.cell? ⟨b,o,none⟩=some v:=fun u=>by
 have hb:=World.block_lt_of_cell? w _ h;have e:=u.isP.block b hb hF;unfold World.cell? at h⊢;simp only at h⊢;rw[e];exact h
theorem q1d(ps:List TxnQ)(k:Nat)(hk:k<ps.length):(ps.map TxnQ.e).take (k+1)=(ps.map TxnQ.e).take k++[TxnQ.e ps[k]]:=by
 rw[List.take_succ_eq_append_getElem (by simpa using hk)];simp
theorem q3x{xs:List ItemD}{t:TxnD}:nextI xs t=if(z0t xs t.acts).1=0 then runR xs t.acts else xs:=by
 unfold nextI runR;split<;>simp_all
def RecPost(w w':World)(vN iN vU iU:Value)(D E:List TxnD):Prop:=∃ (ds us:List DeedQ) (rb B0:Nat),Rec w rb B0 w' vN iN vU iU ds us (allI [] D) (allI (allI [] D) E)∧ds.map DeedQ.e4=z0F [] D∧us.map DeedQ.e4=z0F (allI [] D) E∧w.heap.size≤rb∧rb<B0
theorem Rec.other{w:World}{rb B0 g:Nat}{wr:World}{vN iN vU iU:Value}{ds us:List DeedQ}{xs ys:List ItemD}(h:Rec w rb B0 wr vN iN vU iU ds us xs ys)(hg:g<B0)(hr:rb≠g)(j:Nat)(u:Value):Rec w rb B0 (wr.setCell ⟨g,j,none⟩ u) vN iN vU iU ds us xs ys:=by
 have hO:=Out.setCell wr g j u;have nF:∀ {k},B0≤k→k∉[g]:=fun hk hm=>by simp only[List.mem_singleton]at hm;omega
 exact⟨h.B.other hr j u,z0L h.oN hO (fun k hk=>nF (h.lN k hk)),h.aN,z0L h.oU hO (fun k hk=>nF (h.lU k hk)),fun p hp=>⟨(h.aU p hp).1,(h.aU p hp).2.out hO (fun k hk=>by rw[z0U]at hk;exact nF (h.d3 p hp k hk).1)⟩,h.jN.out hO (fun k hk=>by rw[z0s]at hk;exact nF (h.d1 k hk).1),h.jU.out hO (fun k hk=>by rw[z0s]at hk;exact nF (h.d2 k hk).1),h.nu,h.lN,h.lU,h.d1,h.d2,h.d3⟩
theorem z7p(v1 v2:Value)(ps qs:List TxnQ)(w:World)(h1:txnK.At w v1 ps)(h2:txnK.At w v2 qs)(aA:∀p∈ps,(TxnQ.e p).F=0)(aB:∀p∈qs,(TxnQ.e p).F=0)(aK:ps.length≤40)(aL:qs.length≤40):
  Calls Tryz.prog 121 #[v1,v2] w fun e w'=>∃ (vN iN vU iU:Value),e=.returned (.agg #[vN,iN,vU,iU])∧RecPost w w' vN iN vU iU (ps.map TxnQ.e) (qs.map TxnQ.e)∧Below w.heap.size w w':=by
 obtain⟨a1,k1,rfl⟩:=h1.shape;obtain⟨a2,k2,rfl⟩:=h2.shape;have aq:Below w.heap.size w ((w.alloc (.cells #[.slice none 0 0,.slice none 0 0,.slice none 0 0,.slice none 0 0] 160)).alloc (.cells #[.slice none 0 0,.slice none 0 0,.slice none 0 0,.slice none 0 0] 160)):=by go_grown
 have R0:=(Blk.new w 160 #[.slice none 0 0,.slice none 0 0,.slice none 0 0,.slice none 0 0]).below (w':=(w.alloc (.cells #[.slice none 0 0,.slice none 0 0,.slice none 0 0,.slice none 0 0] 160)).alloc (.cells #[.slice none 0 0,.slice none 0 0,.slice none 0 0,.slice none 0 0] 160)) (by go_grown);have B:=Blk.new (w.alloc (.cells #[.slice none 0 0,.slice none 0 0,.slice none 0 0,.slice none 0 0] 160)) 160 #[.slice none 0 0,.slice none 0 0,.slice none 0 0,.slice none 0 0];rw[World.size_alloc]at B;have T:w.heap.size+2≤((w.alloc (.cells #[.slice none 0 0,.slice none 0 0,.slice none 0 0,.slice none 0 0] 160)).alloc (.cells #[.slice none 0 0,.slice none 0 0,.slice none 0 0,.slice none 0 0] 160)).heap.size:=by simp only[World.size_alloc];omega
 have hn:∀k∈blk (Value.slice none 0 0),False:=fun k hk=>by simp[blk,Value.ownBlock]at hk
 have Rz:Rec w (w.heap.size+1) (w.heap.size+2) ((w.alloc (.cells #[.slice none 0 0,.slice none 0 0,.slice none 0 0,.slice none 0 0] 160)).alloc (.cells #[.slice none 0 0,.slice none 0 0,.slice none 0 0,.slice none 0 0] 160)) (.slice none 0 0) (.slice none 0 0) (.slice none 0 0) (.slice none 0 0) [] [] [] []:=
  ⟨B,World.ownsRow_nil _ _ _ _,fun p hp=>by simp at hp,World.ownsRow_nil _ _ _ _,fun p hp=>by simp at hp,(Kind.own_nil _).1,(Kind.own_nil _).1,fun k hk=>(hn k hk).elim,fun k hk=>(hn k hk).elim,fun k hk=>(hn k hk).elim,fun k hk=>(hn k hk).elim,fun k hk=>(hn k hk).elim,fun p hp=>by simp at hp⟩
 clear B;have aC:(ps.length:Int)≤40:=by omega
 have aD:(qs.length:Int)≤40:=by omega
 go_enter Tryz.func121,Tryz.ntmps121
 go_wp2
 generalize (w.alloc (.cells #[.slice none 0 0,.slice none 0 0,.slice none 0 0,.slice none 0 0] 160)).alloc (.cells #[.slice none 0 0,.slice none 0 0,.slice none 0 0,.slice none 0 0] 160)=W0 at*;have H0:Hid (([]:List DeedQ).map DeedQ.e4=z0F [] ((ps.map TxnQ.e).take 0)∧([]:List ItemD)=allI [] ((ps.map TxnQ.e).take 0)∧([]:List ItemD).length≤8∧Good ([]:List ItemD)):=⟨rfl,rfl,by simp,z4c⟩
 go_loopw[13] (fun j wr=>∃ (k:Nat) (vN iN:Value) (ds:List DeedQ) (xs:List ItemD),k≤ps.length∧j=.int .i64 k∧Rec w (w.heap.size+1) (w.heap.size+2) wr vN iN (.slice none 0 0) (.slice none 0 0) ds [] xs []∧Hid (ds.map DeedQ.e4=z0F [] ((ps.map TxnQ.e).take k)∧xs=allI [] ((ps.map TxnQ.e).take k)∧xs.length≤8∧Good xs)∧Blk wr w.heap.size 160 #[.slice none 0 0,.slice none 0 0,.slice none 0 0,.slice none 0 0]∧Below w.heap.size w wr∧w.heap.size+2≤wr.heap.size) (fun j _=>ps.length-(intOf j).toNat)
 case atStart=>exact⟨0,_,_,[],[],Nat.zero_le _,rfl,Rz,H0,R0,aq,T⟩
 case round=>
  clear Rz H0 R0 aq T hn;obtain⟨k,vN,iN,ds,xs,hk,rfl,R,HD,R0,hb,T⟩:=hrel;obtain⟨ia,ic,rfl⟩:=R.jN.shape;by_cases C:k<ps.length
  ·obtain⟨b,am,rfl,ag,Z,d⟩:=(h1.below hb).cell (by decide) k C;have A:∀j x,(txnK.cells ps[k])[j]?=some x→wr.cell? ⟨b,am+k*4+j,none⟩=some x:=Z;have c0:=A 0 (.int .i64 ps[k].i) rfl;have c1:=A 1 (.int .i64 ps[k].s) rfl;have c2:=A 2 (.int .i64 ps[k].q) rfl;have c3:=A 3 (ps[k].va) rfl;rw[Nat.add_zero]at c0;have E:txnK.rd w ps[k]:=h1.rdm (List.getElem_mem C);have M:=aA ps[k] (List.getElem_mem C);have U:=q1d ps k C;have au:(k:Int)<(ps.length:Int):=by omega
   have ai:Hid (ds.length=k):=by
    have:=congrArg List.length HD.out.1;have e:∀ (xs:List ItemD) (l:List TxnD),(z0F xs l).length=l.length:=fun xs l=>by
     induction l generalizing xs with
     |nil=>rfl
     |cons t r ih=>simp[z0F,ih]
    rw[List.length_map,e,List.length_take,List.length_map]at this;show ds.length=k;omega
   clear Z A;generalize ps[k]=p at*;obtain⟨i,s,q,va,c⟩:=p;replace d:actK.At wr va c:=d;replace E:actK.At w va c:=E;obtain⟨ta,tc,rfl⟩:=d.shape;dsimp only[TxnQ.e]at c0 c1 c2 c3 M U;have y:Below wr.heap.size wr (wr.alloc (.cells #[.int .i64 i,.int .i64 s,.int .i64 q,.slice ta c.length tc] 82)):=by go_grown
   have Bt:=Blk.new wr 82 #[.int .i64 i,.int .i64 s,.int .i64 q,.slice ta c.length tc];have R1:=R.below y;replace R0:=R0.below y;replace d:=d.below y;replace hb:=hb.trans (y.mono hb.size);have I:∀x∈blk vN,x<wr.heap.size:=z0J R.oN;have aG:=y.size
   go_wp2_with fail
   clear c0 c1 c2 c3 y;generalize hX:wr.alloc (.cells #[.int .i64 i,.int .i64 s,.int .i64 q,.slice ta c.length tc] 82)=X at*;generalize hT:wr.heap.size=tb at*;clear hX R;have af:tb∉(w.heap.size+1)::blk vN:=fun hm=>by
    rcases List.mem_cons.1 hm with e|e
    ·omega
    ·have:=I _ e;omega
   have t0:=z3d (Bt.cell 0 _ rfl) af;have t1:=z3d (Bt.cell 1 _ rfl) af;have t2:=z3d (Bt.cell 2 _ rfl) af;have t3:=z3d (Bt.cell 3 _ rfl) af;have ao:Out ((w.heap.size+1)::blk vN) X X.drew:=Out.of_below (Below.refl _ _).drew;have hW:Below X.heap.size X X.drew:=(Below.refl _ _).drew;have aF:Nonempty (KeepP (Out ((w.heap.size+1)::blk vN) X)):=⟨⟨X,Out.refl _ _⟩⟩
   refine z0b (S:=fun w'=>∃u:KeepP (Out ((w.heap.size+1)::blk vN) X),w'=u.val) (by kernel_rfl) ?_;refine sgr [(0,4),(5,1),(7,1)] 3 (by kernel_rfl) ⟨⟨_,ao⟩,rfl⟩ ?_;simp only[pkE];repeat go_big_quiet_step (fail)
   refine wpQuiet_nil ?_;clear t0 t1 t2 t3 aF;have r1:=(R1.B.below hW).cell 1 _ rfl;refine ona 4 2 rfl (by kernel_rfl) ?_
   go_wp2
   clear r1;refine ThenGo.to ⟨⟨⟨_,ao⟩,rfl⟩,?_⟩;refine cla 6 (some 23) 147 #[.slice ia xs.length ic,.agg #[.int .i64 i,.int .i64 s,.int .i64 q,.slice ta c.length tc]] 1 (by kernel_rfl) ?_;refine(q1c ia ic xs i s q ta tc c _ (R1.jN.at.below hW) (d.below hW) HD.out.2.2.1 HD.out.2.2.2 M).mono ?_;rintro e w5 ⟨ub,uc,jb,jc,rfl,ou,oi,lu,li,D⟩;have aE:∀x∈blk (.slice jb (runR xs c).length jc),X.heap.size≤x:=fun x hx=>Nat.le_trans hW.size (li x hx)
   replace hW:=hW.trans (D.mono hW.size);refine⟨_,rfl,⟨⟨_,Out.of_below hW⟩,rfl⟩,?_⟩;simp only[Act.put,pjE];have R5:=R1.below hW;have aJ:=hW.size;have ab:∀x∈blk (.slice jb (runR xs c).length jc),w.heap.size+2≤x∧x∉blk vN∧x∉blk (Value.slice none 0 0):=fun x hx=>by
    have:=aE x hx;exact⟨by omega,fun e=>by have:=I x e;omega,by simp[blk,Value.ownBlock]⟩
   have aj:Hid ((ds++[(⟨i,s,q,.slice ta c.length tc,c,(z0t xs c).1,runV xs c,.slice none 0 0,z0G xs c⟩:DeedQ)]).map DeedQ.e4=z0F [] ((ps.map TxnQ.e).take (k+1))∧nextI xs ⟨i,s,q,c⟩=allI [] ((ps.map TxnQ.e).take (k+1))∧(nextI xs ⟨i,s,q,c⟩).length≤8∧Good (nextI xs ⟨i,s,q,c⟩)):=by
    obtain⟨d1,d2,d3,d4⟩:=HD.out;have g:=z1b d3 d4 M;rw[U,z2p,z3c,←d2,List.map_append,d1];exact⟨rfl,rfl,g.1,g.2⟩
   have ae:=q3x (xs:=xs) (t:=⟨i,s,q,c⟩);dsimp only at ae;refine cla 8 (some 25) 146 #[.pointer (some ⟨w.heap.size+1,0,none⟩),.agg #[.int .i64 i,.int .i64 s,.int .i64 q,.slice ta c.length tc],.agg #[.int .i64 (z0t xs c).1,.int .i64 (runV xs c),.slice ub (z0G xs c).length uc,.slice jb (runR xs c).length jc],.agg #[]] 0 (by kernel_rfl) ?_;refine(q17 (w.heap.size+1) vN (.slice ia xs.length ic) (.slice none 0 0) (.slice none 0 0) ds.length _ i s q (.slice ta c.length tc) _ _ _ jb _ jc w5 R5.B R5.oN (fun e=>by have:=R5.lN _ e;omega) (by have:=ai.out;omega) rfl).mono ?_;rintro e w6 ⟨rfl,d1,B6,o6,aa,z⟩;have aH:=z.size;refine⟨_,rfl,⟨⟨_,(Out.of_below (F:=(w.heap.size+1)::blk vN) hW).trans z⟩,rfl⟩,?_⟩;simp only[Act.put,pjE];refine z0f (by kernel_rfl) ?_;have ad:itemK.Own w5 (if(z0t xs c).1=0 then .slice jb (runR xs c).length jc else .slice ia xs.length ic) (nextI xs ⟨i,s,q,c⟩):=by
    rw[ae];by_cases hc:(z0t xs c).1=0
    ·rw[if_pos hc,if_pos hc];exact oi
    ·rw[if_neg hc,if_neg hc];exact R5.jN
   have L:∀x∈blk (if(z0t xs c).1=0 then .slice jb (runR xs c).length jc else .slice ia xs.length ic),w.heap.size+2≤x∧x∉blk vN∧x∉blk (Value.slice none 0 0):=by
    by_cases hc:(z0t xs c).1=0
    ·rw[if_pos hc];exact ab
    ·rw[if_neg hc];exact R5.d1
   have R6:=R5.addN (p:=⟨i,s,q,.slice ta c.length tc,c,(z0t xs c).1,runV xs c,.slice none 0 0,z0G xs c⟩) (by omega) (by omega) E ad L B6 o6 aa z;have W:Below w.heap.size w w6:=Out.keep (hb.trans (hW.mono hb.size)) z (by omega) (fun x hx=>by
    rcases List.mem_cons.1 hx with e|e
    ·omega
    ·have:=R5.lN x e;omega)
   have V:=(R0.below hW).outs8 z (fun hx=>by
    rcases List.mem_cons.1 hx with e|e
    ·omega
    ·have:=R5.lN _ e;omega)
   have HR:Hid (_∧_∧_∧_):=⟨R6,V,W,(show w.heap.size+2≤w6.heap.size by omega)⟩
   clear R6 V W R5 R1 R0 hb ad L ab ou oi lu li D hW z aa o6 B6 d E HD
   go_wp2
   go_roundw
   case rel=>exact⟨k+1,d1,_,_,_,by omega,by go_num,HR.out.1,aj,HR.out.2.1,HR.out.2.2.1,HR.out.2.2.2⟩
   case measure=>simp[intOf];omega
  ·have ak:k=ps.length:=by omega
   subst ak;have au:¬((ps.length:Int)<(ps.length:Int)):=by omega
   obtain⟨N,O,ax,gx⟩:=HD.out;rw[List.take_of_length_le (by simp)]at N O;have HE:Hid (ds.map DeedQ.e4=z0F [] (ps.map TxnQ.e)∧xs=allI [] (ps.map TxnQ.e)):=⟨N,O⟩
   clear HD N O C;have r1:=R.B.cell 1 _ rfl;have r3:=R.B.cell 3 _ rfl;have f3:=R.B.frozen 3;have Rs:=R.share (by omega);have an:=R0.other (b':=w.heap.size+1) (by omega) 3 (.slice ia xs.length ic);have ag:=hb.setCell (p:=⟨w.heap.size+1,3,none⟩) (by show w.heap.size≤w.heap.size+1;omega) (.slice ia xs.length ic);have av:w.heap.size+2≤(wr.setCell ⟨w.heap.size+1,3,none⟩ (.slice ia xs.length ic)).heap.size:=by simpa using T
   go_wp2
   clear r1 r3 f3 R R0 hb T;generalize wr.setCell ⟨w.heap.size+1,3,none⟩ (.slice ia xs.length ic)=Y at*;have H0:Hid (([]:List DeedQ).map DeedQ.e4=z0F xs ((qs.map TxnQ.e).take 0)∧xs=allI xs ((qs.map TxnQ.e).take 0)∧xs.length≤8∧Good xs):=⟨rfl,rfl,ax,gx⟩
   clear ax gx;go_loopw[34] (fun j wr=>∃ (k:Nat) (vU iU:Value) (us:List DeedQ) (ys:List ItemD),k≤qs.length∧j=.int .i64 k∧Rec w (w.heap.size+1) (w.heap.size+2) wr vN (.slice ia xs.length ic) vU iU ds us xs ys∧Hid (us.map DeedQ.e4=z0F xs ((qs.map TxnQ.e).take k)∧ys=allI xs ((qs.map TxnQ.e).take k)∧ys.length≤8∧Good ys)∧Blk wr w.heap.size 160 #[.slice none 0 0,.slice none 0 0,.slice none 0 0,.slice none 0 0]∧Below w.heap.size w wr∧w.heap.size+2≤wr.heap.size) (fun j _=>qs.length-(intOf j).toNat)
   case atStart=>exact⟨0,_,_,[],_,Nat.zero_le _,rfl,Rs,H0,an,ag,av⟩
   case round=>
    clear Rs H0 an ag av;obtain⟨k,vU,iU,us,ys,hk,rfl,R,HD,R0,hb,T⟩:=hrel;obtain⟨ja,jc,rfl⟩:=R.jU.shape;by_cases C:k<qs.length
    ·obtain⟨b,am,rfl,ag,Z,d⟩:=(h2.below hb).cell (by decide) k C;have A:∀j x,(txnK.cells qs[k])[j]?=some x→wr.cell? ⟨b,am+k*4+j,none⟩=some x:=Z;have c0:=A 0 (.int .i64 qs[k].i) rfl;have c1:=A 1 (.int .i64 qs[k].s) rfl;have c2:=A 2 (.int .i64 qs[k].q) rfl;have c3:=A 3 (qs[k].va) rfl;rw[Nat.add_zero]at c0;have E:txnK.rd w qs[k]:=h2.rdm (List.getElem_mem C);have M:=aB qs[k] (List.getElem_mem C);have U:=q1d qs k C;have al:(k:Int)<(qs.length:Int):=by omega
     have ai:Hid (us.length=k):=by
      have:=congrArg List.length HD.out.1;have e:∀ (xs:List ItemD) (l:List TxnD),(z0F xs l).length=l.length:=fun xs l=>by
       induction l generalizing xs with
       |nil=>rfl
       |cons t r ih=>simp[z0F,ih]
      rw[List.length_map,e,List.length_take,List.length_map]at this;show us.length=k;omega
     clear Z A;generalize qs[k]=p at*;obtain⟨i,s,q,va,c⟩:=p;replace d:actK.At wr va c:=d;replace E:actK.At w va c:=E;obtain⟨ta,tc,rfl⟩:=d.shape;dsimp only[TxnQ.e]at c0 c1 c2 c3 M U;have y:Below wr.heap.size wr (wr.alloc (.cells #[.int .i64 i,.int .i64 s,.int .i64 q,.slice ta c.length tc] 82)):=by go_grown
     have Bt:=Blk.new wr 82 #[.int .i64 i,.int .i64 s,.int .i64 q,.slice ta c.length tc];have R1:=R.below y;replace R0:=R0.below y;replace d:=d.below y;replace hb:=hb.trans (y.mono hb.size);have I:∀x∈blk vN,x<wr.heap.size:=z0J R.oN;have ah:∀x∈blk vU,x<wr.heap.size:=z0J R.oU;have aG:=y.size;obtain⟨x0,x1,x2,x3⟩:=Bt.cel4;have r3:=R1.B.cell 3 _ rfl;have ar:=q1c ja jc ys i s q ta tc c _ R1.jU.at d HD.out.2.2.1 HD.out.2.2.2 M
     go_wp2_with fail
     clear c0 c1 c2 c3 y x0 x1 x2 x3 r3;generalize hX:wr.alloc (.cells #[.int .i64 i,.int .i64 s,.int .i64 q,.slice ta c.length tc] 82)=X at*;generalize hT:wr.heap.size=tb at*;clear hX R;refine ar.mono ?_;rintro e w5 ⟨ub,uc,jb,jd,rfl,ou,oi,lu,li,D⟩;clear ar;have J:Below w5.heap.size w5 (w5.alloc (.cells #[.int .i64 (z0t ys c).1,.int .i64 (runV ys c),.slice ub (z0G ys c).length uc,.slice jb (runR ys c).length jd] 218)):=by go_grown
     have Bu:=Blk.new w5 218 #[.int .i64 (z0t ys c).1,.int .i64 (runV ys c),.slice ub (z0G ys c).length uc,.slice jb (runR ys c).length jd];have aM:=D.size;have aH:=J.size;have R5:=(R1.below D).below J;replace R0:=(R0.below D).below J;replace hb:=(hb.trans (D.mono hb.size))
     replace hb:=hb.trans (J.mono hb.size);replace Bt:=(Bt.below D).below J;replace ou:=ou.below J;replace oi:=oi.below J;obtain⟨x0,x1,x2,x3⟩:=Bt.cel4;obtain⟨y0,y1,y2,y3⟩:=Bu.cel4;have ab:∀x∈blk (.slice jb (runR ys c).length jd),w.heap.size+2≤x∧x∉blk vN∧x∉blk vU:=fun x hx=>by
      have:=li x hx;exact⟨by omega,fun e=>by have:=I x e;omega,fun e=>by have:=ah x e;omega⟩
     have aw:∀x∈blk (.slice ub (z0G ys c).length uc),w.heap.size+2≤x∧x∉blk vN∧x∉blk vU:=fun x hx=>by
      have:=lu x hx;exact⟨by omega,fun e=>by have:=I x e;omega,fun e=>by have:=ah x e;omega⟩
     have aj:Hid ((us++[(⟨i,s,q,.slice ta c.length tc,c,(z0t ys c).1,runV ys c,.slice ub (z0G ys c).length uc,z0G ys c⟩:DeedQ)]).map DeedQ.e4=z0F xs ((qs.map TxnQ.e).take (k+1))∧nextI ys ⟨i,s,q,c⟩=allI xs ((qs.map TxnQ.e).take (k+1))∧(nextI ys ⟨i,s,q,c⟩).length≤8∧Good (nextI ys ⟨i,s,q,c⟩)):=by
      obtain⟨d1,d2,d3,d4⟩:=HD.out;have g:=z1b d3 d4 M;rw[U,z2p,z3c,←d2,List.map_append,d1];exact⟨rfl,rfl,g.1,g.2⟩
     have ae:=q3x (xs:=ys) (t:=⟨i,s,q,c⟩);dsimp only at ae;have ap:=q18 (w.heap.size+1) vU (.slice ja ys.length jc) vN (.slice ia xs.length ic) us.length _ i s q (.slice ta c.length tc) (z0t ys c).1 (runV ys c) (.slice ub (z0G ys c).length uc) jb (runR ys c).length jd ub (z0G ys c).length uc _ R5.B R5.oU (fun e=>by have:=R5.lU _ e;omega) (by have:=ai.out;omega) rfl
     go_wp2_with fail
     clear x0 x1 x2 x3 y0 y1 y2 y3 Bt Bu J D;generalize w5.alloc (.cells #[.int .i64 (z0t ys c).1,.int .i64 (runV ys c),.slice ub (z0G ys c).length uc,.slice jb (runR ys c).length jd] 218)=aI at*;refine ap.mono ?_;rintro e w6 ⟨rfl,d1,B6,o6,aa,z⟩;have aN:=z.size;have ad:itemK.Own aI (if(z0t ys c).1=0 then .slice jb (runR ys c).length jd else .slice ja ys.length jc) (nextI ys ⟨i,s,q,c⟩):=by
      rw[ae];by_cases hc:(z0t ys c).1=0
      ·rw[if_pos hc,if_pos hc];exact oi
      ·rw[if_neg hc,if_neg hc];exact R5.jU
     have L:∀x∈blk (if(z0t ys c).1=0 then .slice jb (runR ys c).length jd else .slice ja ys.length jc),w.heap.size+2≤x∧x∉blk vN∧x∉blk vU:=by
      by_cases hc:(z0t ys c).1=0
      ·rw[if_pos hc];exact ab
      ·rw[if_neg hc];exact R5.d2
     have R6:=R5.addU (p:=⟨i,s,q,.slice ta c.length tc,c,(z0t ys c).1,runV ys c,.slice ub (z0G ys c).length uc,z0G ys c⟩) (by omega) (by omega) E ou aw ad L B6 o6 aa z;have W:Below w.heap.size w w6:=Out.keep hb z (by omega) (fun x hx=>by
      rcases List.mem_cons.1 hx with e|e
      ·omega
      ·have:=R5.lU x e;omega)
     have V:=R0.outs8 z (fun hx=>by
      rcases List.mem_cons.1 hx with e|e
      ·omega
      ·have:=R5.lU _ e;omega)
     have HR:Hid (_∧_∧_∧_):=⟨R6,V,W,(show w.heap.size+2≤w6.heap.size by omega)⟩
     clear R6 V W R5 R1 R0 hb ad L ab aw ou oi lu li z aa o6 B6 d E HD ap
     go_wp2
     go_roundw
     case rel=>exact⟨k+1,d1,_,_,_,by omega,by go_num,HR.out.1,aj,HR.out.2.1,HR.out.2.2.1,HR.out.2.2.2⟩
     case measure=>simp[intOf];omega
    ·have ak:k=qs.length:=by omega
     subst ak;have al:¬((qs.length:Int)<(qs.length:Int)):=by omega
     obtain⟨N,O,_,_⟩:=HD.out;rw[List.take_of_length_le (by simp)]at N O;obtain⟨ay,az⟩:=HE.out;subst az;subst O;clear HD HE C;have r0:=R.B.cell 0 _ rfl;have r1:=R.B.cell 1 _ rfl;have r2:=R.B.cell 2 _ rfl;have r3:=R.B.cell 3 _ rfl;obtain⟨z0,z1,z2,z3⟩:=R0.cel4;obtain⟨g0,g1,g2,g3⟩:=R0.frz4;obtain⟨na,nc,rfl⟩:=z0g R.oN;obtain⟨ua,uc,rfl⟩:=z0g R.oU;have RF:Hid (∀u0 u1 u2 u3:Value,Rec w (w.heap.size+1) (w.heap.size+2) ((((wr.setCell ⟨w.heap.size,0,none⟩ u0).setCell ⟨w.heap.size,1,none⟩ u1).setCell ⟨w.heap.size,2,none⟩ u2).setCell ⟨w.heap.size,3,none⟩ u3) _ _ _ _ ds us _ _∧Below w.heap.size w ((((wr.setCell ⟨w.heap.size,0,none⟩ u0).setCell ⟨w.heap.size,1,none⟩ u1).setCell ⟨w.heap.size,2,none⟩ u2).setCell ⟨w.heap.size,3,none⟩ u3)):=fun u0 u1 u2 u3=>
      ⟨(((R.other (by omega) (by omega) 0 u0).other (by omega) (by omega) 1 u1).other (by omega) (by omega) 2 u2).other (by omega) (by omega) 3 u3,(((hb.setCell (p:=⟨w.heap.size,0,none⟩) (Nat.le_refl _) u0).setCell (p:=⟨w.heap.size,1,none⟩) (Nat.le_refl _) u1).setCell (p:=⟨w.heap.size,2,none⟩) (Nat.le_refl _) u2).setCell (p:=⟨w.heap.size,3,none⟩) (Nat.le_refl _) u3⟩
     clear R R0
     go_wp2
     exact bodyPost_ret (v:=.agg #[.slice na ds.length nc,_,.slice ua us.length uc,_]) (by simp[results,Tryz.results121,go_sem,z0,z1,z2,z3]) rfl ⟨_,_,_,_,rfl,⟨ds,us,w.heap.size+1,w.heap.size+2,(RF.out _ _ _ _).1,ay,N,by omega,by omega⟩,(RF.out _ _ _ _).2⟩
theorem z6q(zs:List UndoD):∀u∈z0n zs,u.oneCell'=true:=by
 intro u hu;obtain⟨z,_,hz⟩:=List.mem_flatMap.1 hu;simp only[UndoD.cells,List.mem_cons,List.not_mem_nil,or_false]at hz;rcases hz with rfl|rfl|rfl<;>rfl
theorem z2y(sa:Option Addr)(sc:Nat)(xs:List ItemD)(w:World)(h:itemK.At w (.slice sa xs.length sc) xs)(hN:z7l sa xs.length sc)(hl:xs.length≤1048576):
  Calls Tryz.prog 153 #[.slice sa xs.length sc] w fun e w'=>∃a c,e=.returned (.slice a xs.length c)∧itemK.Own w' (.slice a xs.length c) xs∧(∀k∈blk (.slice a xs.length c),w.heap.size≤k)∧Below w.heap.size w w':=by
 rcases hN with⟨ad,rfl⟩|⟨rfl,hn,rfl⟩
 ·obtain⟨i0,hi,D,E,I⟩:=info_parts z1H;have y:Below w.heap.size w (w.alloc (.cells #[] 187)):=by go_grown
  have hr:=(h.below y)
  obtain⟨_,_,e1,l1,_⟩:=hr;simp only[Value.slice.injEq]at e1;obtain⟨rfl,_,rfl⟩:=e1;have ho:=World.ownsRow_lit (e:=187) (size:=2) w #[] 0 (Nat.le_refl _) (by decide) rfl;have z:∀w,(binOp .eql 70 (.slice (some ad) xs.length sc) (.slice none 0 0)).run Tryz.prog w=.ok (.bool false) w:=fun w=>by first|rfl|kernel_rfl|(simp only[binOp];simp[Op.equal,Op.maxDepth,Op.equalIn,run_underlying Tryz.underlying70])
  have x1:([]:List ItemD).length+xs.length≤maxLen:=by unfold maxLen;rw[List.length_nil];omega
  have x2:(([]:List ItemD).length+xs.length)*16≤140737488355328:=by rw[List.length_nil];omega
  have A:=y.size;go_enter Tryz.func153,Tryz.ntmps153
  go_wp2_with (at_builtin;refine z03 (K:=itemK) _ rfl _ _ 70 rfl i0 (.agg #[.int .i64 0,.int .i64 0]) 16 Tryz.underlying70 hi D E I rfl (by decide) w.heap.size _ [] rfl ho _ xs _ rfl l1 (z1R xs) (Or.inl ⟨_,rfl⟩) x1 x2 A ?_)
  intro v' w2 d x;have C:Below w.heap.size w w2:=y.grown x A (fun k hk=>(ho.lt k hk).1);try simp only[List.nil_append]at d
  obtain⟨a2,c2,rfl⟩:=z0g d;obtain⟨o2,l2⟩:=z0y d;clear x ho l1 d
  go_wp2
  go_ret;exact⟨a2,c2,rfl,⟨o2,fun _ _=>trivial⟩,l2,C⟩
 ·have hz:xs=[]:=List.eq_nil_of_length_eq_zero hn;subst hz;have z:∀w,(binOp .eql 70 (.slice none 0 0) (.slice none 0 0)).run Tryz.prog w=.ok (.bool true) w:=fun w=>by first|rfl|kernel_rfl|(simp only[binOp];simp[Op.equal,Op.maxDepth,Op.equalIn,run_underlying Tryz.underlying70])
  rw[List.length_nil];go_enter Tryz.func153,Tryz.ntmps153
  go_wp2
  go_ret;exact⟨none,0,rfl,(Kind.own_nil _).1,fun k hk=>by simp[blk,Value.ownBlock]at hk,Below.refl _ _⟩
theorem z5n(sa:Option Addr)(sc:Nat)(xs:List UndoD)(w:World)(h:undoK.At w (.slice sa xs.length sc) xs)(hN:z7l sa xs.length sc)(hl:xs.length≤1048576):
  Calls Tryz.prog 155 #[.slice sa xs.length sc] w fun e w'=>∃a c,e=.returned (.slice a xs.length c)∧undoK.Own w' (.slice a xs.length c) xs∧(∀k∈blk (.slice a xs.length c),w.heap.size≤k)∧Below w.heap.size w w':=by
 rcases hN with⟨ad,rfl⟩|⟨rfl,hn,rfl⟩
 ·obtain⟨i0,hi,D,E,I⟩:=info_parts z34;have y:Below w.heap.size w (w.alloc (.cells #[] 223)):=by go_grown
  have hr:=(h.below y)
  obtain⟨_,_,e1,l1,_⟩:=hr;simp only[Value.slice.injEq]at e1;obtain⟨rfl,_,rfl⟩:=e1;have ho:=World.ownsRow_lit (e:=223) (size:=3) w #[] 0 (Nat.le_refl _) (by decide) rfl;have z:∀w,(binOp .eql 190 (.slice (some ad) xs.length sc) (.slice none 0 0)).run Tryz.prog w=.ok (.bool false) w:=fun w=>by first|rfl|kernel_rfl|(simp only[binOp];simp[Op.equal,Op.maxDepth,Op.equalIn,run_underlying Tryz.underlying190])
  have x1:([]:List UndoD).length+xs.length≤maxLen:=by unfold maxLen;rw[List.length_nil];omega
  have x2:(([]:List UndoD).length+xs.length)*24≤140737488355328:=by rw[List.length_nil];omega
  have A:=y.size;go_enter Tryz.func155,Tryz.ntmps155
  go_wp2_with (at_builtin;refine z03 (K:=undoK) _ rfl _ _ 190 rfl i0 (.agg #[.int .i64 0,.bool false,.int .i64 0]) 24 Tryz.underlying190 hi D E I rfl (by decide) w.heap.size _ [] rfl ho _ xs _ rfl l1 (z6q xs) (Or.inl ⟨_,rfl⟩) x1 x2 A ?_)
  intro v' w2 d x;have C:Below w.heap.size w w2:=y.grown x A (fun k hk=>(ho.lt k hk).1);try simp only[List.nil_append]at d
  obtain⟨a2,c2,rfl⟩:=z0g d;obtain⟨o2,l2⟩:=z0y d;clear x ho l1 d
  go_wp2
  go_ret;exact⟨a2,c2,rfl,⟨o2,fun _ _=>trivial⟩,l2,C⟩
 ·have hz:xs=[]:=List.eq_nil_of_length_eq_zero hn;subst hz;have z:∀w,(binOp .eql 190 (.slice none 0 0) (.slice none 0 0)).run Tryz.prog w=.ok (.bool true) w:=fun w=>by first|rfl|kernel_rfl|(simp only[binOp];simp[Op.equal,Op.maxDepth,Op.equalIn,run_underlying Tryz.underlying190])
  rw[List.length_nil];go_enter Tryz.func155,Tryz.ntmps155
  go_wp2
  go_ret;exact⟨none,0,rfl,(Kind.own_nil _).1,fun k hk=>by simp[blk,Value.ownBlock]at hk,Below.refl _ _⟩
theorem q1e(w0:World)(v iv:Value)(ds:List DeedQ)(w:World)(h:(z4T w0).At w v ds)(af:Below w0.heap.size w0 w)(aB:∀p∈ds,p.t.F=0)(hl:ds.length≤100):
  Calls Tryz.prog 152 #[.agg #[v,iv]] w fun e w'=>∃v' qs,e=.returned v'∧qs.map TxnQ.e=ds.map DeedQ.t∧txnK.Own w' v' qs∧(txnK.fp v' qs).Nodup∧(∀k∈txnK.fp v' qs,w.heap.size≤k)∧Below w.heap.size w w':=by
 obtain⟨a,cap,rfl⟩:=h.shape;obtain⟨i0,hi,aF,aG,aH⟩:=info_parts z09;have ai:Below w.heap.size w (w.alloc (.cells #[.slice a ds.length cap,iv] 155)):=by go_grown
 have BX:=Blk.new w 155 #[.slice a ds.length cap,iv];obtain⟨al,am⟩:=Kind.own_nil (K:=txnK) (w.alloc (.cells #[.slice a ds.length cap,iv] 155));have ad:Hid ((txnK.fp (.slice none 0 0) ([]:List TxnQ)).Nodup∧∀k∈txnK.fp (.slice none 0 0) ([]:List TxnQ),w.heap.size≤k):=by
  rw[am];exact⟨by simp,by simp⟩
 clear am;have x0:=BX.cell 0 _ rfl;have aL:(ds.length:Int)≤100:=by omega
 go_enter Tryz.func152,Tryz.ntmps152
 go_wp2
 clear x0 BX;generalize w.alloc (.cells #[.slice a ds.length cap,iv] 155)=WX at*;go_loopw[3,9] (fun v j wr=>∃ (k:Nat) (qs:List TxnQ),k≤ds.length∧j=.int .i64 k∧Hid (qs.map TxnQ.e=(ds.take k).map DeedQ.t)∧txnK.Own wr v qs∧Hid ((txnK.fp v qs).Nodup∧∀k∈txnK.fp v qs,w.heap.size≤k)∧Below w.heap.size w wr) (fun _ j _=>ds.length-(intOf j).toNat)
 case atStart=>exact⟨0,[],Nat.zero_le _,rfl,(rfl:_=_),al,ad,ai⟩
 case round=>
  clear ad al ai;obtain⟨k,qs,hk,rfl,HE,hO,HN,hb⟩:=hrel;obtain⟨sa,sc,rfl⟩:=hO.shape;have ae:Hid (qs.length=k):=by
   have:=congrArg List.length HE.out;rw[List.length_map,List.length_map,List.length_take]at this;show qs.length=k;omega
  by_cases W:k<ds.length
  ·obtain⟨b,aI,rfl,aK,hc,d⟩:=(h.below hb).cell (by show 0<6;decide) k W;have y:∀j x,((z4T w0).cells ds[k])[j]?=some x→wr.cell? ⟨b,aI+k*6+j,none⟩=some x:=hc;have c0:=y 0 (.int .i64 ds[k].i) rfl;have c1:=y 1 (.int .i64 ds[k].s) rfl;have c2:=y 2 (.int .i64 ds[k].q) rfl;have c3:=y 3 (ds[k].va) rfl;have c4:=y 4 (.int .i64 ds[k].code) rfl;have c5:=y 5 (.int .i64 ds[k].val) rfl;skip;have aw:=aB _ (List.getElem_mem W);have T:Hid (∀p':TxnQ,p'.e=DeedQ.t ds[k]→(qs++[p']).map TxnQ.e=(ds.take (k+1)).map DeedQ.t):=fun p' aC=>by
    rw[List.take_succ_eq_append_getElem W,List.map_append,List.map_append,HE.out,List.map_singleton,List.map_singleton,aC]
   clear hc y;generalize ds[k]=p at*;obtain⟨i,s,q,va,c,z,X,lv,us⟩:=p;replace d:actK.At w0 va c:=d;skip;have hz:=(z0S (show txnF i s q c=0 from aw)).1;have O:0<c.length:=by omega
   replace d:=d.below (af.trans (hb.mono af.size));obtain⟨aa,ac,rfl⟩:=d.shape;dsimp only[DeedQ.t]at c0 c1 c2 c3 c4 c5 T;obtain⟨ab,ao,ay⟩:∃ab ao,aa=some ⟨ab,ao,none⟩:=by
    rcases(z0O d).2 with h0|⟨ab,ao,e,_⟩
    ·have:=z0r c;rw[h0]at this;simp at this;omega
    ·exact⟨ab,ao,e⟩
   subst ay;have L:Below wr.heap.size wr (wr.alloc (.cells #[.int .i64 i,.int .i64 s,.int .i64 q,.slice (some ⟨ab,ao,none⟩) c.length ac,.int .i64 z,.int .i64 X] 271)):=by go_grown
   have BY:=Blk.new wr 271 #[.int .i64 i,.int .i64 s,.int .i64 q,.slice (some ⟨ab,ao,none⟩) c.length ac,.int .i64 z,.int .i64 X];have aj:=z15 i s q ab ao ac c _ ((z0O d).2.below L) O (by omega);rw[Nat.add_zero]at c0;replace hO:=hO.below L;replace hb:=hb.trans (L.mono hb.size);obtain⟨y0,y1,y2,y3⟩:=BY.cel4;clear HE L
   go_wp2_with fail
   clear c0 c1 c2 c3 c4 c5 y0 y1 y2 y3 BY;generalize wr.alloc (.cells #[.int .i64 i,.int .i64 s,.int .i64 q,.slice (some ⟨ab,ao,none⟩) c.length ac,.int .i64 z,.int .i64 X] 271)=Y at*;have aJ:w.heap.size≤Y.heap.size:=hb.size;refine aj.mono ?_;rintro e w2 ⟨a2,c2,rfl,aq,I⟩;have Z:=hO.lt;replace hO:=hO.below I;replace hb:=hb.trans (I.mono hb.size);obtain⟨o2,ak⟩:=z0y aq;have hP:txnK.own w2 ⟨i,s,q,.slice a2 c.length c2,c⟩:=⟨o2,fun _ _=>trivial⟩
   have A:∀x∈txnK.foot ⟨i,s,q,.slice a2 c.length c2,c⟩,Y.heap.size≤x:=fun x hx=>ak x (by rw[←z05 (.slice a2 c.length c2) c];exact hx)
   have ah:(txnK.foot ⟨i,s,q,.slice a2 c.length c2,c⟩).Nodup:=by
    show(actK.fp _ _).Nodup;rw[z05];exact z0w _
   have C:Below w2.heap.size w2 (w2.alloc (.cells #[.int .i64 i,.int .i64 s,.int .i64 q,.slice a2 c.length c2] 82)):=by go_grown
   have U:=hO.below C;have ag:=txnK.own_out (F:=[]) hP (Out.of_below C) (fun _ _=>by simp);have J:=hb.trans (C.mono hb.size);clear aj aq hO hP ak;have E:=U.1
   go_wp2_with (at_builtin;refine wpList_append_own_at _ rfl _ _ 40 rfl 0 82 i0 (.agg #[.int .i64 0,.int .i64 0,.int .i64 0,.slice none 0 0]) 4 48 Tryz.underlying40 hi aF aG aH rfl (by decide) _ qs.length (txnK.row qs) rfl E ⟨w2.heap.size,0,none⟩ 1 1 [.int .i64 i,.int .i64 s,.int .i64 q,.slice a2 c.length c2] rfl rfl ?c1 ?c2 ?c3 ?c4 ?c5 ?_)
   all_goals try(case c1=>intro j u hj;match j,hj with|0,hj=>simp at hj;subst hj;simp[Addr.add]|1,hj=>simp at hj;subst hj;simp[Addr.add]|2,hj=>simp at hj;subst hj;simp[Addr.add]|3,hj=>simp at hj;subst hj;simp[Addr.add])
   all_goals try(case c2=>intro u hu;simp at hu;rcases hu with rfl|rfl|rfl|rfl<;>rfl)
   all_goals try(case c3=>have:=ae.out;unfold maxLen;omega)
   all_goals try(case c4=>have:=ae.out;omega)
   all_goals try(case c5=>first|omega|simp)
   intro v' w5 N D ap V;clear ap E;rw[show w2.heap.size+1=(w2.alloc (.cells #[.int .i64 i,.int .i64 s,.int .i64 q,.slice a2 c.length c2] 82)).heap.size from(World.size_alloc _ _).symm]at V;generalize aD:w2.alloc (.cells #[.int .i64 i,.int .i64 s,.int .i64 q,.slice a2 c.length c2] 82)=WA at*;clear aD;have aM:Y.heap.size≤WA.heap.size:=by have:=I.size;have:=C.size;omega
   obtain⟨ax,an,M,ar⟩:=U.snoc HN.out.1 HN.out.2 ag ah (fun x hx aE=>by have:=Z x aE;have:=A x hx;omega) (fun x hx=>by have:=A x hx;omega) J.size N D V;have az:Below w.heap.size w w5:=Out.keep J ar J.size (fun x hx=>HN.out.2 x (by simp only[Kind.fp,List.mem_append];exact Or.inl hx));have au:Hid ((qs++[(⟨i,s,q,.slice a2 c.length c2,c⟩:TxnQ)]).map TxnQ.e=(ds.take (k+1)).map DeedQ.t):=T.out _ rfl;have av:Hid ((txnK.fp v' (qs++[(⟨i,s,q,.slice a2 c.length c2,c⟩:TxnQ)])).Nodup∧∀k∈txnK.fp v' (qs++[(⟨i,s,q,.slice a2 c.length c2,c⟩:TxnQ)]),w.heap.size≤k):=⟨an,M⟩
   clear T HN Z A ah ag U J N D V ar an M d hb C I O
   go_wp2
   go_roundw
   case rel=>exact⟨k+1,_,by omega,by go_num,au,ax,av,az⟩
   case measure=>simp[intOf];omega
  ·have aA:k=ds.length:=by omega
   subst aA;have hE:=HE.out;rw[List.take_length]at hE;clear HE
   go_wp2
   go_ret;exact⟨_,qs,rfl,hE,hO,HN.out.1,HN.out.2,hb⟩
theorem q1f(w0:World)(v iv:Value)(ds:List DeedQ)(w:World)(h:(z3R w0).At w v ds)(af:Below w0.heap.size w0 w)(aB:∀p∈ds,p.t.F=0)(hl:ds.length≤100):
  Calls Tryz.prog 154 #[.agg #[v,iv]] w fun e w'=>∃v' qs,e=.returned v'∧qs.map TxnQ.e=ds.map DeedQ.t∧txnK.Own w' v' qs∧(txnK.fp v' qs).Nodup∧(∀k∈txnK.fp v' qs,w.heap.size≤k)∧Below w.heap.size w w':=by
 obtain⟨a,cap,rfl⟩:=h.shape;obtain⟨i0,hi,aG,aH,aI⟩:=info_parts z09;have ai:Below w.heap.size w (w.alloc (.cells #[.slice a ds.length cap,iv] 158)):=by go_grown
 have BX:=Blk.new w 158 #[.slice a ds.length cap,iv];obtain⟨al,am⟩:=Kind.own_nil (K:=txnK) (w.alloc (.cells #[.slice a ds.length cap,iv] 158));have ad:Hid ((txnK.fp (.slice none 0 0) ([]:List TxnQ)).Nodup∧∀k∈txnK.fp (.slice none 0 0) ([]:List TxnQ),w.heap.size≤k):=by
  rw[am];exact⟨by simp,by simp⟩
 clear am;have x0:=BX.cell 0 _ rfl;have aM:(ds.length:Int)≤100:=by omega
 go_enter Tryz.func154,Tryz.ntmps154
 go_wp2
 clear x0 BX;generalize w.alloc (.cells #[.slice a ds.length cap,iv] 158)=WX at*;go_loopw[3,9] (fun v j wr=>∃ (k:Nat) (qs:List TxnQ),k≤ds.length∧j=.int .i64 k∧Hid (qs.map TxnQ.e=(ds.take k).map DeedQ.t)∧txnK.Own wr v qs∧Hid ((txnK.fp v qs).Nodup∧∀k∈txnK.fp v qs,w.heap.size≤k)∧Below w.heap.size w wr) (fun _ j _=>ds.length-(intOf j).toNat)
 case atStart=>exact⟨0,[],Nat.zero_le _,rfl,(rfl:_=_),al,ad,ai⟩
 case round=>
  clear ad al ai;obtain⟨k,qs,hk,rfl,HE,hO,HN,hb⟩:=hrel;obtain⟨sa,sc,rfl⟩:=hO.shape;have ae:Hid (qs.length=k):=by
   have:=congrArg List.length HE.out;rw[List.length_map,List.length_map,List.length_take]at this;show qs.length=k;omega
  by_cases W:k<ds.length
  ·obtain⟨b,aJ,rfl,aL,hc,y⟩:=(h.below hb).cell (by show 0<7;decide) k W;have d:∀j x,((z3R w0).cells ds[k])[j]?=some x→wr.cell? ⟨b,aJ+k*7+j,none⟩=some x:=hc;have c0:=d 0 (.int .i64 ds[k].i) rfl;have c1:=d 1 (.int .i64 ds[k].s) rfl;have c2:=d 2 (.int .i64 ds[k].q) rfl;have c3:=d 3 (ds[k].va) rfl;have c4:=d 4 (.int .i64 ds[k].code) rfl;have c5:=d 5 (.int .i64 ds[k].val) rfl;have c6:=d 6 (ds[k].lv) rfl;have aw:=aB _ (List.getElem_mem W);have T:Hid (∀p':TxnQ,p'.e=DeedQ.t ds[k]→(qs++[p']).map TxnQ.e=(ds.take (k+1)).map DeedQ.t):=fun p' aC=>by
    rw[List.take_succ_eq_append_getElem W,List.map_append,List.map_append,HE.out,List.map_singleton,List.map_singleton,aC]
   clear hc d;generalize ds[k]=p at*;obtain⟨i,s,q,va,c,z,X,lv,us⟩:=p;obtain⟨y,aD⟩:actK.At w0 va c∧undoK.At wr lv us:=y;obtain⟨la,lc,rfl⟩:=aD.shape;have hz:=(z0S (show txnF i s q c=0 from aw)).1;have O:0<c.length:=by omega
   replace y:=y.below (af.trans (hb.mono af.size));obtain⟨aa,ac,rfl⟩:=y.shape;dsimp only[DeedQ.t]at c0 c1 c2 c3 c4 c5 T;obtain⟨ab,ao,ay⟩:∃ab ao,aa=some ⟨ab,ao,none⟩:=by
    rcases(z0O y).2 with h0|⟨ab,ao,e,_⟩
    ·have:=z0r c;rw[h0]at this;simp at this;omega
    ·exact⟨ab,ao,e⟩
   subst ay;have L:Below wr.heap.size wr (wr.alloc (.cells #[.int .i64 i,.int .i64 s,.int .i64 q,.slice (some ⟨ab,ao,none⟩) c.length ac,.int .i64 z,.int .i64 X,.slice la us.length lc] 239)):=by go_grown
   have BY:=Blk.new wr 239 #[.int .i64 i,.int .i64 s,.int .i64 q,.slice (some ⟨ab,ao,none⟩) c.length ac,.int .i64 z,.int .i64 X,.slice la us.length lc];have aj:=z15 i s q ab ao ac c _ ((z0O y).2.below L) O (by omega);rw[Nat.add_zero]at c0;replace hO:=hO.below L;replace hb:=hb.trans (L.mono hb.size);obtain⟨y0,y1,y2,y3⟩:=BY.cel4;clear HE L
   go_wp2_with fail
   clear c0 c1 c2 c3 c4 c5 c6 y0 y1 y2 y3 BY;generalize wr.alloc (.cells #[.int .i64 i,.int .i64 s,.int .i64 q,.slice (some ⟨ab,ao,none⟩) c.length ac,.int .i64 z,.int .i64 X,.slice la us.length lc] 239)=Y at*;have aK:w.heap.size≤Y.heap.size:=hb.size;refine aj.mono ?_;rintro e w2 ⟨a2,c2,rfl,aq,I⟩;have Z:=hO.lt;replace hO:=hO.below I;replace hb:=hb.trans (I.mono hb.size);obtain⟨o2,ak⟩:=z0y aq;have hP:txnK.own w2 ⟨i,s,q,.slice a2 c.length c2,c⟩:=⟨o2,fun _ _=>trivial⟩
   have A:∀x∈txnK.foot ⟨i,s,q,.slice a2 c.length c2,c⟩,Y.heap.size≤x:=fun x hx=>ak x (by rw[←z05 (.slice a2 c.length c2) c];exact hx)
   have ah:(txnK.foot ⟨i,s,q,.slice a2 c.length c2,c⟩).Nodup:=by
    show(actK.fp _ _).Nodup;rw[z05];exact z0w _
   have C:Below w2.heap.size w2 (w2.alloc (.cells #[.int .i64 i,.int .i64 s,.int .i64 q,.slice a2 c.length c2] 82)):=by go_grown
   have U:=hO.below C;have ag:=txnK.own_out (F:=[]) hP (Out.of_below C) (fun _ _=>by simp);have J:=hb.trans (C.mono hb.size);clear aj aq hO hP ak;have E:=U.1
   go_wp2_with (at_builtin;refine wpList_append_own_at _ rfl _ _ 40 rfl 0 82 i0 (.agg #[.int .i64 0,.int .i64 0,.int .i64 0,.slice none 0 0]) 4 48 Tryz.underlying40 hi aG aH aI rfl (by decide) _ qs.length (txnK.row qs) rfl E ⟨w2.heap.size,0,none⟩ 1 1 [.int .i64 i,.int .i64 s,.int .i64 q,.slice a2 c.length c2] rfl rfl ?c1 ?c2 ?c3 ?c4 ?c5 ?_)
   all_goals try(case c1=>intro j u hj;match j,hj with|0,hj=>simp at hj;subst hj;simp[Addr.add]|1,hj=>simp at hj;subst hj;simp[Addr.add]|2,hj=>simp at hj;subst hj;simp[Addr.add]|3,hj=>simp at hj;subst hj;simp[Addr.add])
   all_goals try(case c2=>intro u hu;simp at hu;rcases hu with rfl|rfl|rfl|rfl<;>rfl)
   all_goals try(case c3=>have:=ae.out;unfold maxLen;omega)
   all_goals try(case c4=>have:=ae.out;omega)
   all_goals try(case c5=>first|omega|simp)
   intro v' w5 N D ap V;clear ap E;rw[show w2.heap.size+1=(w2.alloc (.cells #[.int .i64 i,.int .i64 s,.int .i64 q,.slice a2 c.length c2] 82)).heap.size from(World.size_alloc _ _).symm]at V;generalize aE:w2.alloc (.cells #[.int .i64 i,.int .i64 s,.int .i64 q,.slice a2 c.length c2] 82)=WA at*;clear aE;have aN:Y.heap.size≤WA.heap.size:=by have:=I.size;have:=C.size;omega
   obtain⟨ax,an,M,ar⟩:=U.snoc HN.out.1 HN.out.2 ag ah (fun x hx aF=>by have:=Z x aF;have:=A x hx;omega) (fun x hx=>by have:=A x hx;omega) J.size N D V;have az:Below w.heap.size w w5:=Out.keep J ar J.size (fun x hx=>HN.out.2 x (by simp only[Kind.fp,List.mem_append];exact Or.inl hx));have au:Hid ((qs++[(⟨i,s,q,.slice a2 c.length c2,c⟩:TxnQ)]).map TxnQ.e=(ds.take (k+1)).map DeedQ.t):=T.out _ rfl;have av:Hid ((txnK.fp v' (qs++[(⟨i,s,q,.slice a2 c.length c2,c⟩:TxnQ)])).Nodup∧∀k∈txnK.fp v' (qs++[(⟨i,s,q,.slice a2 c.length c2,c⟩:TxnQ)]),w.heap.size≤k):=⟨an,M⟩
   clear T HN Z A ah ag U J N D V ar an M y hb C I O
   go_wp2
   go_roundw
   case rel=>exact⟨k+1,_,by omega,by go_num,au,ax,av,az⟩
   case measure=>simp[intOf];omega
  ·have aA:k=ds.length:=by omega
   subst aA;have hE:=HE.out;rw[List.take_length]at hE;clear HE
   go_wp2
   go_ret;exact⟨_,qs,rfl,hE,hO,HN.out.1,HN.out.2,hb⟩
def z6r(xs:List ItemD)(E:List TxnD):List (List UndoD):=(z0F xs E).map (fun x=>x.2.2.2)
def mkR(D E:List TxnD):RepE:=⟨D,allI [] D,E,z6r (allI [] D) E,allI (allI [] D) E⟩
theorem q3y(E:List TxnD)(xs:List ItemD):(z0F xs E).map (fun x=>x.1)=E:=by
 induction E generalizing xs with
 |nil=>rfl
 |cons t r ih=>simp[z0F,ih]
theorem z7q(E:List TxnD)(xs:List ItemD):(z0F xs E).length=E.length:=by
 induction E generalizing xs with
 |nil=>rfl
 |cons t r ih=>simp[z0F,ih]
theorem q4R{us:List DeedQ}{xs:List ItemD}{E:List TxnD}(h:us.map DeedQ.e4=z0F xs E):us.map DeedQ.t=E:=by
 have:=congrArg (List.map (fun x=>x.1)) h;rw[q3y,List.map_map]at this;exact this
theorem dq_u{us:List DeedQ}{xs:List ItemD}{E:List TxnD}(h:us.map DeedQ.e4=z0F xs E):us.map DeedQ.us=z6r xs E:=by
 have:=congrArg (List.map (fun x=>x.2.2.2)) h;rw[List.map_map]at this;exact this
theorem q2z:(Tryz.prog.info? 73).map (·.size)=some 5:=by kernel_rfl
structure Four (X w':World) (g:Nat) (vd vb vt vn:Value) (d t:List TxnQ) (b n:List ItemD):Prop where
 od:txnK.Own w' vd d
 ob:itemK.Own w' vb b
 ot:txnK.Own w' vt t
 on:itemK.Own w' vn n
 nd:(txnK.fp vd d++(blk vb++(txnK.fp vt t++blk vn))).Nodup
 lo:∀k∈txnK.fp vd d++(blk vb++(txnK.fp vt t++blk vn)),X.heap.size≤k∧k≠g
theorem HU4{us:List DeedQ}{xs:List ItemD}{E:List TxnD}(hl:xs.length≤8)(g:Good xs)(hF:∀t∈E,t.F=0)(h:us.map DeedQ.e4=z0F xs E):∀p∈us,p.us.length≤1048576:=by
 induction E generalizing us xs with
 |nil=>
  intro p hp;have:us=[]:=by simpa[z0F]using h
  rw[this]at hp;simp at hp
 |cons t r ih=>
  intro p hp
  cases us with
  |nil=>simp at hp
  |cons u us=>
   simp only[List.map_cons,z0F,List.cons.injEq]at h;have ht:=hF t (by simp);rcases List.mem_cons.1 hp with rfl|hp
   ·have e:p.us=z0G xs t.acts:=congrArg (fun x=>x.2.2.2) h.1;have hz:=z0S (show txnF t.id t.session t.seq t.acts=0 from ht);rw[e];unfold z0G;split
    ·have:=(z4U hl g hz.2 (by assumption)).1;omega
    ·simp
   ·have g2:=z1b hl g ht;exact ih g2.1 g2.2 (fun t' h'=>hF t' (List.mem_cons_of_mem _ h')) h.2 p hp
theorem z8f(w0:World)(vN iN vU iU:Value)(D E:List TxnD)(w:World)(h:RecPost w0 w vN iN vU iU D E)(aJ:Below w0.heap.size w0 w)(bt:∀t∈D,t.F=0)(aL:∀t∈E,t.F=0)(ca:D.length≤40)(cb:E.length≤40)(bH:(allI [] D).length≤8)(ck:(allI (allI [] D) E).length≤8)(bw:Good (allI [] D)):
  Calls Tryz.prog 123 #[.agg #[vN,iN,vU,iU]] w fun e w'=>∃p:RepQ,e=.returned (.agg #[p.vd,p.vb,p.vt,p.vu,p.vn])∧p.e=mkR D E∧repK.own w' p∧(repK.foot p).Nodup∧(∀k∈repK.foot p,w.heap.size≤k)∧Below w.heap.size w w':=by
 obtain⟨ds,us,rb,B0,R,eD,eE,bs⟩:=h;obtain⟨na,nc,rfl⟩:=z0g R.oN;obtain⟨ua,uc,rfl⟩:=z0g R.oU;obtain⟨ia,ic,rfl⟩:=R.jN.shape;obtain⟨ja,jc,rfl⟩:=R.jU.shape;have nI:=R.jN.niceV _ _ _ rfl;have nJ:=R.jU.niceV _ _ _ rfl;have dN:(z4T w0).At w (.slice na ds.length nc) ds:=Kind.at_of_row (K:=z4T w0) R.oN R.aN;have dU:(z3R w0).At w (.slice ua us.length uc) us:=Kind.at_of_row (K:=z3R w0) R.oU (fun p hp=>⟨(R.aU p hp).1,(R.aU p hp).2.at⟩);have br:∀p∈us,z30 p.lv:=fun p hp=>(R.aU p hp).2.niceV
 have jN:=R.jN.at;have jU:=R.jU.at;have tD:=q4R eD;have tE:=q4R eE;have uE:=dq_u eE;have bW:ds.length≤40:=by
  have:=congrArg List.length tD;rw[List.length_map]at this;omega
 have bX:us.length≤40:=by
  have:=congrArg List.length tE;rw[List.length_map]at this;omega
 have bh:∀p∈ds,p.t.F=0:=fun p hp=>bt _ (by rw[←tD];exact List.mem_map_of_mem hp)
 have bi:∀p∈us,p.t.F=0:=fun p hp=>aL _ (by rw[←tE];exact List.mem_map_of_mem hp)
 have HU:Hid (us.map DeedQ.us=z6r (allI [] D) E∧ds.map DeedQ.t=D∧us.map DeedQ.t=E):=⟨uE,tD,tE⟩
 have bF:∀p∈us,p.us.length≤1048576:=HU4 bH bw aL eE;clear R eD eE tD tE uE bs;have aw:Hid (mkR D E=⟨D,allI [] D,E,z6r (allI [] D) E,allI (allI [] D) E⟩):=show _=_ from rfl
 generalize allI (allI [] D) E=ys at*;generalize allI [] D=xs at*;have aa:Below w.heap.size w ((w.alloc (.cells #[.slice na ds.length nc,.slice ia xs.length ic,.slice ua us.length uc,.slice ja ys.length jc] 160)).alloc (.cells #[.slice none 0 0,.slice none 0 0,.slice none 0 0,.slice none 0 0,.slice none 0 0] 73)):=by go_grown
 have B:=(Blk.new w 160 #[.slice na ds.length nc,.slice ia xs.length ic,.slice ua us.length uc,.slice ja ys.length jc]).below (w':=(w.alloc (.cells #[.slice na ds.length nc,.slice ia xs.length ic,.slice ua us.length uc,.slice ja ys.length jc] 160)).alloc (.cells #[.slice none 0 0,.slice none 0 0,.slice none 0 0,.slice none 0 0,.slice none 0 0] 73)) (by go_grown);have Bv:=Blk.new (w.alloc (.cells #[.slice na ds.length nc,.slice ia xs.length ic,.slice ua us.length uc,.slice ja ys.length jc] 160)) 73 #[.slice none 0 0,.slice none 0 0,.slice none 0 0,.slice none 0 0,.slice none 0 0];rw[World.size_alloc]at Bv;replace dN:=dN.below aa;replace dU:=dU.below aa;replace jN:=jN.below aa;replace jU:=jU.below aa;have ak:=aJ.trans (aa.mono aJ.size);have ci:w.heap.size+2≤((w.alloc (.cells #[.slice na ds.length nc,.slice ia xs.length ic,.slice ua us.length uc,.slice ja ys.length jc] 160)).alloc (.cells #[.slice none 0 0,.slice none 0 0,.slice none 0 0,.slice none 0 0,.slice none 0 0] 73)).heap.size:=by simp only[World.size_alloc];omega
 go_enter Tryz.func123,Tryz.ntmps123
 go_wp2_with fail
 generalize (w.alloc (.cells #[.slice na ds.length nc,.slice ia xs.length ic,.slice ua us.length uc,.slice ja ys.length jc] 160)).alloc (.cells #[.slice none 0 0,.slice none 0 0,.slice none 0 0,.slice none 0 0,.slice none 0 0] 73)=X at*;generalize ce:w.heap.size=rc at*;obtain⟨f0,f1,f2,f3⟩:=B.lts4;have aX:=fun(w':World) (hb:Below X.heap.size X w')=>q1e w0 (.slice na ds.length nc) (.slice ia xs.length ic) ds w' (dN.below hb) (ak.trans (hb.mono ak.size)) bh (by omega)
 have aY:=fun(w':World) (hb:Below X.heap.size X w')=>z2y ia ic xs w' (jN.below hb) nI (by omega)
 have aZ:=fun(w':World) (hb:Below X.heap.size X w')=>q1f w0 (.slice ua us.length uc) (.slice ja ys.length jc) us w' (dU.below hb) (ak.trans (hb.mono ak.size)) bi (by omega)
 have a2:=fun(w':World) (hb:Below X.heap.size X w')=>z2y ja jc ys w' (jU.below hb) nJ (by omega)
 refine z1o [some 6,some 7,some 8,some 9,some 10,some 11,some 12,some 13,some 14,some 15,some 16,some 17,some 18,some 19,some 20,some 3] (fun vs w'=>∃ (a1:Option Addr) (k1:Nat) (b1:Option Addr) (c1:Nat) (a3:Option Addr) (k3:Nat) (b2:Option Addr) (c2 g:Nat) (q1 q3:List TxnQ),vs=[.pointer (some ⟨rc,0,none⟩),.agg #[.slice na ds.length nc,.slice ia xs.length ic],.slice a1 q1.length k1,.pointer (some ⟨rc,0,none⟩),.pointer (some ⟨rc,1,none⟩),.slice ia xs.length ic,.slice b1 xs.length c1,.pointer (some ⟨rc,2,none⟩),.agg #[.slice ua us.length uc,.slice ja ys.length jc],.slice a3 q3.length k3,.pointer (some ⟨rc,2,none⟩),.pointer (some ⟨rc,3,none⟩),.slice ja ys.length jc,.slice b2 ys.length c2,.agg #[.slice a1 q1.length k1,.slice b1 xs.length c1,.slice a3 q3.length k3,.slice none 0 0,.slice b2 ys.length c2],.pointer (some ⟨g,0,none⟩)]∧X.heap.size≤g∧Blk w' g 73 #[.slice a1 q1.length k1,.slice b1 xs.length c1,.slice a3 q3.length k3,.slice none 0 0,.slice b2 ys.length c2]∧q1.map TxnQ.e=ds.map DeedQ.t∧q3.map TxnQ.e=us.map DeedQ.t∧Four X w' g (.slice a1 q1.length k1) (.slice b1 xs.length c1) (.slice a3 q3.length k3) (.slice b2 ys.length c2) q1 q3 xs ys∧Below X.heap.size X w') ?_ ?_
 ·have hW:Below X.heap.size X X.drew:=(Below.refl _ _).drew;have cd:Nonempty (Lat X):=⟨⟨X,Below.refl _ _⟩⟩
  refine z0b (S:=fun w'=>∃u:Lat X,w'=u.val) (by kernel_rfl) ?_;refine sgr [(0,2),(3,3),(7,2),(10,3)] 7 (by kernel_rfl) ⟨⟨_,hW⟩,rfl⟩ ?_;simp only[pkE];repeat go_big_quiet_step (fail)
  refine wpQuiet_nil ?_;clear f0 f1 f2 f3 HU aw;generalize X.drew=x at hW⊢;refine twa 2 15 6 (by kernel_rfl) ?_ ?_
  rotate_left
  focus
   refine z2u 15 _ rfl ?_;have Bz:=Blk.new x 73 #[.slice none 0 0,.slice none 0 0,.slice none 0 0,.slice none 0 0,.slice none 0 0];have ap:X.heap.size≤x.heap.size:=hW.size;have d:Below x.heap.size x (x.alloc (.cells #[.slice none 0 0,.slice none 0 0,.slice none 0 0,.slice none 0 0,.slice none 0 0] 73)):=by go_grown
   replace hW:=hW.trans (d.mono hW.size);clear d
   go_wp2
   refine ThenGo.to ⟨⟨⟨_,hW⟩,rfl⟩,?_⟩;generalize C:x.heap.size=g at*;generalize x.alloc (.cells #[.slice none 0 0,.slice none 0 0,.slice none 0 0,.slice none 0 0,.slice none 0 0] 73)=x at*;clear C
  all_goals first|refine cla 2 (some 8) 152 #[.agg #[.slice na ds.length nc,.slice ia xs.length ic]] 5 (by kernel_rfl) ?_|refine opc 2 (some 8) 152 #[.agg #[.slice na ds.length nc,.slice ia xs.length ic]] (by kernel_rfl) ?_
  all_goals
   refine(aX _ hW).mono ?_;rintro e x ⟨v1,q1,rfl,e1,o1,n1,g1,hb⟩;obtain⟨a1,k1,rfl⟩:=o1.shape;try have A:∀k∈txnK.fp (.slice a1 q1.length k1) q1,k≠g:=fun k hk=>by have:=g1 k hk;have:=Bz.lt;omega
   try replace Bz:=Bz.below hb
   obtain⟨m1,M1,bN,bP,bY,ag,y⟩:∃m M,(∀k∈txnK.fp (.slice a1 q1.length k1) q1,m≤k)∧X.heap.size≤m∧m≤M∧(∀k∈txnK.fp (.slice a1 q1.length k1) q1,k<M)∧M≤x.heap.size:=⟨_,x.heap.size,g1,hW.size,hb.size,fun k hk=>o1.lt k hk,Nat.le_refl _⟩
   replace hW:=hW.trans (hb.mono hW.size);clear hb g1;refine⟨_,rfl,⟨⟨_,hW⟩,rfl⟩,?_⟩;simp only[Act.put,pgE,pjE]
  rotate_right
  refine twa 6 15 5 (by kernel_rfl) ?_ ?_
  rotate_left
  focus
   refine z2u 15 _ rfl ?_;have Bz:=Blk.new x 73 #[.slice none 0 0,.slice none 0 0,.slice none 0 0,.slice none 0 0,.slice none 0 0];have ap:X.heap.size≤x.heap.size:=hW.size;have d:Below x.heap.size x (x.alloc (.cells #[.slice none 0 0,.slice none 0 0,.slice none 0 0,.slice none 0 0,.slice none 0 0] 73)):=by go_grown
   have A:∀k∈txnK.fp (.slice a1 q1.length k1) q1,k≠x.heap.size:=fun k hk=>by have:=ag k hk;omega
   replace o1:=o1.below d;replace y:=Nat.le_trans y d.size;replace hW:=hW.trans (d.mono hW.size);clear d
   go_wp2
   refine ThenGo.to ⟨⟨⟨_,hW⟩,rfl⟩,?_⟩;generalize C:x.heap.size=g at*;generalize x.alloc (.cells #[.slice none 0 0,.slice none 0 0,.slice none 0 0,.slice none 0 0,.slice none 0 0] 73)=x at*;clear C
  all_goals first|refine cla 6 (some 12) 153 #[.slice ia xs.length ic] 4 (by kernel_rfl) ?_|refine opc 6 (some 12) 153 #[.slice ia xs.length ic] (by kernel_rfl) ?_
  all_goals
   refine(aY _ hW).mono ?_;rintro e x ⟨b1,c1,rfl,o2,g2,hb⟩;try have J:∀k∈blk (.slice b1 xs.length c1),k≠g:=fun k hk=>by have:=g2 k hk;have:=Bz.lt;omega
   try replace Bz:=Bz.below hb
   obtain⟨m2,M2,bl,bQ,bT,bZ,am,y⟩:∃m M,(∀k∈blk (.slice b1 xs.length c1),m≤k)∧X.heap.size≤m∧M1≤m∧m≤M∧(∀k∈blk (.slice b1 xs.length c1),k<M)∧M≤x.heap.size:=⟨_,x.heap.size,g2,hW.size,y,hb.size,fun k hk=>z0J o2.1 k hk,Nat.le_refl _⟩
   replace o1:=o1.below hb;replace hW:=hW.trans (hb.mono hW.size);clear hb g2;refine⟨_,rfl,⟨⟨_,hW⟩,rfl⟩,?_⟩;simp only[Act.put,pgE,pjE]
  rotate_right
  refine twa 9 15 4 (by kernel_rfl) ?_ ?_
  rotate_left
  focus
   refine z2u 15 _ rfl ?_;have Bz:=Blk.new x 73 #[.slice none 0 0,.slice none 0 0,.slice none 0 0,.slice none 0 0,.slice none 0 0];have ap:X.heap.size≤x.heap.size:=hW.size;have d:Below x.heap.size x (x.alloc (.cells #[.slice none 0 0,.slice none 0 0,.slice none 0 0,.slice none 0 0,.slice none 0 0] 73)):=by go_grown
   have A:∀k∈txnK.fp (.slice a1 q1.length k1) q1,k≠x.heap.size:=fun k hk=>by have:=ag k hk;omega
   replace o1:=o1.below d;have J:∀k∈blk (.slice b1 xs.length c1),k≠x.heap.size:=fun k hk=>by have:=am k hk;omega
   replace o2:=o2.below d;replace y:=Nat.le_trans y d.size;replace hW:=hW.trans (d.mono hW.size);clear d
   go_wp2
   refine ThenGo.to ⟨⟨⟨_,hW⟩,rfl⟩,?_⟩;generalize C:x.heap.size=g at*;generalize x.alloc (.cells #[.slice none 0 0,.slice none 0 0,.slice none 0 0,.slice none 0 0,.slice none 0 0] 73)=x at*;clear C
  all_goals first|refine cla 9 (some 15) 154 #[.agg #[.slice ua us.length uc,.slice ja ys.length jc]] 3 (by kernel_rfl) ?_|refine opc 9 (some 15) 154 #[.agg #[.slice ua us.length uc,.slice ja ys.length jc]] (by kernel_rfl) ?_
  all_goals
   refine(aZ _ hW).mono ?_;rintro e x ⟨v3,q3,rfl,e3,o3,n3,g3,hb⟩;obtain⟨a3,k3,rfl⟩:=o3.shape;try have U:∀k∈txnK.fp (.slice a3 q3.length k3) q3,k≠g:=fun k hk=>by have:=g3 k hk;have:=Bz.lt;omega
   try replace Bz:=Bz.below hb
   obtain⟨m3,M3,aD,bR,bU,b0,aA,y⟩:∃m M,(∀k∈txnK.fp (.slice a3 q3.length k3) q3,m≤k)∧X.heap.size≤m∧M2≤m∧m≤M∧(∀k∈txnK.fp (.slice a3 q3.length k3) q3,k<M)∧M≤x.heap.size:=⟨_,x.heap.size,g3,hW.size,y,hb.size,fun k hk=>o3.lt k hk,Nat.le_refl _⟩
   replace o1:=o1.below hb;replace o2:=o2.below hb;replace hW:=hW.trans (hb.mono hW.size);clear hb g3;refine⟨_,rfl,⟨⟨_,hW⟩,rfl⟩,?_⟩;simp only[Act.put,pgE,pjE]
  rotate_right
  refine twa 13 15 3 (by kernel_rfl) ?_ ?_
  rotate_left
  focus
   refine z2u 15 _ rfl ?_;have Bz:=Blk.new x 73 #[.slice none 0 0,.slice none 0 0,.slice none 0 0,.slice none 0 0,.slice none 0 0];have ap:X.heap.size≤x.heap.size:=hW.size;have d:Below x.heap.size x (x.alloc (.cells #[.slice none 0 0,.slice none 0 0,.slice none 0 0,.slice none 0 0,.slice none 0 0] 73)):=by go_grown
   have A:∀k∈txnK.fp (.slice a1 q1.length k1) q1,k≠x.heap.size:=fun k hk=>by have:=ag k hk;omega
   replace o1:=o1.below d;have J:∀k∈blk (.slice b1 xs.length c1),k≠x.heap.size:=fun k hk=>by have:=am k hk;omega
   replace o2:=o2.below d;have U:∀k∈txnK.fp (.slice a3 q3.length k3) q3,k≠x.heap.size:=fun k hk=>by have:=aA k hk;omega
   replace o3:=o3.below d;replace y:=Nat.le_trans y d.size;replace hW:=hW.trans (d.mono hW.size);clear d
   go_wp2
   refine ThenGo.to ⟨⟨⟨_,hW⟩,rfl⟩,?_⟩;generalize C:x.heap.size=g at*;generalize x.alloc (.cells #[.slice none 0 0,.slice none 0 0,.slice none 0 0,.slice none 0 0,.slice none 0 0] 73)=x at*;clear C
  all_goals first|refine cla 13 (some 19) 153 #[.slice ja ys.length jc] 2 (by kernel_rfl) ?_|refine opc 13 (some 19) 153 #[.slice ja ys.length jc] (by kernel_rfl) ?_
  all_goals
   refine(a2 _ hW).mono ?_;rintro e x ⟨b2,c2,rfl,o4,g4,hb⟩;try have ad:∀k∈blk (.slice b2 ys.length c2),k≠g:=fun k hk=>by have:=g4 k hk;have:=Bz.lt;omega
   try replace Bz:=Bz.below hb
   obtain⟨m4,M4,aq,bS,bV,b3,bx,y⟩:∃m M,(∀k∈blk (.slice b2 ys.length c2),m≤k)∧X.heap.size≤m∧M3≤m∧m≤M∧(∀k∈blk (.slice b2 ys.length c2),k<M)∧M≤x.heap.size:=⟨_,x.heap.size,g4,hW.size,y,hb.size,fun k hk=>z0J o4.1 k hk,Nat.le_refl _⟩
   replace o1:=o1.below hb;replace o2:=o2.below hb;replace o3:=o3.below hb;replace hW:=hW.trans (hb.mono hW.size);clear hb g4;refine⟨_,rfl,⟨⟨_,hW⟩,rfl⟩,?_⟩;simp only[Act.put,pgE,pjE]
  rotate_right
  focus
   refine sgr [(14,1)] 2 (by kernel_rfl) ⟨⟨_,hW⟩,rfl⟩ ?_;simp only[pkE];repeat go_big_quiet_step (fail)
   refine wpQuiet_nil ?_;refine ona 15 1 rfl (by kernel_rfl) ?_;have Bz:=Blk.new x 73 #[.slice none 0 0,.slice none 0 0,.slice none 0 0,.slice none 0 0,.slice none 0 0];have ap:X.heap.size≤x.heap.size:=hW.size;have d:Below x.heap.size x (x.alloc (.cells #[.slice none 0 0,.slice none 0 0,.slice none 0 0,.slice none 0 0,.slice none 0 0] 73)):=by go_grown
   have A:∀k∈txnK.fp (.slice a1 q1.length k1) q1,k≠x.heap.size:=fun k hk=>by have:=ag k hk;omega
   replace o1:=o1.below d;have J:∀k∈blk (.slice b1 xs.length c1),k≠x.heap.size:=fun k hk=>by have:=am k hk;omega
   replace o2:=o2.below d;have U:∀k∈txnK.fp (.slice a3 q3.length k3) q3,k≠x.heap.size:=fun k hk=>by have:=aA k hk;omega
   replace o3:=o3.below d;have ad:∀k∈blk (.slice b2 ys.length c2),k≠x.heap.size:=fun k hk=>by have:=bx k hk;omega
   replace o4:=o4.below d;replace y:=Nat.le_trans y d.size;replace hW:=hW.trans (d.mono hW.size);clear d
   go_wp2
   refine ThenGo.to ⟨⟨⟨_,hW⟩,rfl⟩,?_⟩;generalize C:x.heap.size=g at*;generalize x.alloc (.cells #[.slice none 0 0,.slice none 0 0,.slice none 0 0,.slice none 0 0,.slice none 0 0] 73)=x at*;clear C
  iterate 4
   rotate_left
   focus
    refine sgr [(14,1)] 1 (by kernel_rfl) ⟨⟨_,hW⟩,rfl⟩ ?_;simp only[pkE];repeat go_big_quiet_step (fail)
    refine wpQuiet_nil ?_
  all_goals
   refine ona 16 0 rfl (by kernel_rfl) ?_;have a8:X.heap.size≤g:=by omega
   have Rz:=Bz.row #[.slice a1 q1.length k1,.slice b1 xs.length c1,.slice a3 q3.length k3,.slice none 0 0,.slice b2 ys.length c2];have z1:=o1.out (z2F _ g #[.slice a1 q1.length k1,.slice b1 xs.length c1,.slice a3 q3.length k3,.slice none 0 0,.slice b2 ys.length c2]) (fun k hk=>by simp only[List.mem_singleton];exact A k hk);have z2:=o2.out (z2F _ g #[.slice a1 q1.length k1,.slice b1 xs.length c1,.slice a3 q3.length k3,.slice none 0 0,.slice b2 ys.length c2]) (fun k hk=>by rw[z0s]at hk;simp only[List.mem_singleton];exact J k hk);have z3:=o3.out (z2F _ g #[.slice a1 q1.length k1,.slice b1 xs.length c1,.slice a3 q3.length k3,.slice none 0 0,.slice b2 ys.length c2]) (fun k hk=>by simp only[List.mem_singleton];exact U k hk);have z4:=o4.out (z2F _ g #[.slice a1 q1.length k1,.slice b1 xs.length c1,.slice a3 q3.length k3,.slice none 0 0,.slice b2 ys.length c2]) (fun k hk=>by rw[z0s]at hk;simp only[List.mem_singleton];exact ad k hk);replace hW:=z0x hW a8 #[.slice a1 q1.length k1,.slice b1 xs.length c1,.slice a3 q3.length k3,.slice none 0 0,.slice b2 ys.length c2];have ba:∀k∈txnK.fp (.slice a1 q1.length k1) q1,k<m2:=fun k hk=>by have:=ag k hk;omega
   have bb:∀k∈blk (.slice b1 xs.length c1),k<m3:=fun k hk=>by have:=am k hk;omega
   have bc:∀k∈txnK.fp (.slice a3 q3.length k3) q3,k<m4:=fun k hk=>by have:=aA k hk;omega
   have FO:Four X _ g (.slice a1 q1.length k1) (.slice b1 xs.length c1) (.slice a3 q3.length k3) (.slice b2 ys.length c2) q1 q3 xs ys:=⟨z1,z2,z3,z4,List.nodup_append.2 ⟨n1,List.nodup_append.2 ⟨z0w _,List.nodup_append.2 ⟨n3,z0w _,z4p (m:=m4) bc aq⟩,z4p (m:=m3) bb (fun k hk=>by rcases List.mem_append.1 hk with hk | hk <;> first | (have:=aD k hk;omega) | (have:=aq k hk;omega))⟩,z4p (m:=m2) ba (fun k hk=>by rcases List.mem_append.1 hk with hk | hk <;> first | (have:=bl k hk;omega) | (rcases List.mem_append.1 hk with hk | hk <;> first | (have:=aD k hk;omega) | (have:=aq k hk;omega)))⟩,fun k hk=>by
    rcases List.mem_append.1 hk with hk|hk
    ·exact⟨by have:=bN k hk;omega,A k hk⟩
    rcases List.mem_append.1 hk with hk|hk
    ·exact⟨by have:=bl k hk;omega,J k hk⟩
    rcases List.mem_append.1 hk with hk|hk
    ·exact⟨by have:=aD k hk;omega,U k hk⟩
    ·exact ⟨by have:=aq k hk;omega,ad k hk⟩⟩
   refine z1n (by kernel_rfl) 73 _ _ rfl _ #[.slice a1 q1.length k1,.slice b1 xs.length c1,.slice a3 q3.length k3,.slice none 0 0,.slice b2 ys.length c2] rfl rfl 73 _ Bz q2z rfl (by simp[Value.oneCell']) ?_;refine ThenGo.to ⟨⟨⟨_,hW⟩,rfl⟩,?_⟩;refine z0f (by kernel_rfl) ?_;refine⟨rfl,_,⟨a1,k1,b1,c1,a3,k3,b2,c2,g,q1,q3,rfl,a8,Rz,e1,e3,FO,hW⟩,?_⟩;simp only[z1V,Act.put,pgE,pjE];try rfl
 rintro vs w5 ⟨a1,k1,b1,c1,a3,k3,b2,c2,g,q1,q3,rfl,b7,Bg,e1,e3,FO,Z⟩;simp only[z1V,Act.put,pjE];clear f0 f1 f2 f3 aX aY aZ a2 dN jN jU nI nJ;have b8:=Bg.lt;have aK:=(B.below Z)
 have x2:=aK.cell 2 _ rfl;have cc:(us.length:Int)≤40:=by omega
 obtain⟨be,bf⟩:=Kind.own_nil (K:=ussK) w5;have aF:Hid ((ussK.fp (.slice none 0 0) ([]:List USQ)).Nodup∧∀k∈ussK.fp (.slice none 0 0) ([]:List USQ),w5.heap.size≤k):=by
  rw[bf];exact⟨by simp,by simp⟩
 clear bf
 go_wp2
 clear x2 aK;go_loopw[25] (fun j wr=>∃ (k:Nat) (vu:Value) (qs:List USQ),k≤us.length∧j=.int .i64 k∧Blk wr g 73 #[.slice a1 q1.length k1,.slice b1 xs.length c1,.slice a3 q3.length k3,vu,.slice b2 ys.length c2]∧ussK.Own wr vu qs∧Hid (qs.map USQ.e=(us.take k).map DeedQ.us)∧Hid ((ussK.fp vu qs).Nodup∧∀x∈ussK.fp vu qs,w5.heap.size≤x)∧Out [g] w5 wr) (fun j _=>us.length-(intOf j).toNat)
 case atStart=>exact⟨0,_,[],Nat.zero_le _,rfl,Bg,be,(rfl:_=_),aF,Out.refl _ _⟩
 case round=>
  clear aF be Bg;obtain⟨k,vu,qs,hk,rfl,Bg,hO,HE,HN,hU⟩:=hrel;obtain⟨sa,sc,rfl⟩:=hO.shape;have aT:Below X.heap.size X wr:=Out.keep Z hU Z.size (fun x hx=>by simp only[List.mem_singleton]at hx;omega);have cf:=hU.size;have aG:Hid (qs.length=k):=by
   have:=congrArg List.length HE.out;rw[List.length_map,List.length_map,List.length_take]at this;show qs.length=k;omega
  by_cases an:k<us.length
  ·obtain⟨b,bO,rfl,b5,a6,bE⟩:=(dU.below aT).cell (by show 0<7;decide) k an;have L:∀j x,((z3R w0).cells us[k])[j]?=some x→wr.cell? ⟨b,bO+k*7+j,none⟩=some x:=a6;have c0:=L 0 (.int .i64 us[k].i) rfl;have aH:=L 1 (.int .i64 us[k].s) rfl;have aI:=L 2 (.int .i64 us[k].q) rfl;have c3:=L 3 (us[k].va) rfl;have c4:=L 4 (.int .i64 us[k].code) rfl;have c5:=L 5 (.int .i64 us[k].val) rfl;have c6:=L 6 (us[k].lv) rfl;rw[Nat.add_zero]at c0;have bk:=bF _ (List.getElem_mem an);have bG:=br _ (List.getElem_mem an);have ax:Hid (∀p':USQ,p'.us=DeedQ.us us[k]→(qs++[p']).map USQ.e=(us.take (k+1)).map DeedQ.us):=fun p' bD=>by
    rw[List.take_succ_eq_append_getElem an,List.map_append,List.map_append,HE.out,List.map_singleton,List.map_singleton];show _++[p'.us]=_;rw[bD]
   have bd:(k:Int)<(us.length:Int):=by omega
   clear a6 L HE;generalize us[k]=p at*;obtain⟨i,s,q,va,z,I,aj,lv,c⟩:=p;obtain⟨bj,ah⟩:actK.At w0 va z∧undoK.At wr lv c:=bE;obtain⟨ta,tc,rfl⟩:=bj.shape;obtain⟨la,lc,rfl⟩:=ah.shape;have bC:=bG _ _ _ rfl;dsimp only at c0 aH aI c3 c4 c5 c6 ax bk;have ab:Below wr.heap.size wr (wr.alloc (.cells #[.int .i64 i,.int .i64 s,.int .i64 q,.slice ta z.length tc,.int .i64 I,.int .i64 aj,.slice la c.length lc] 239)):=by go_grown
   have BY:=Blk.new wr 239 #[.int .i64 i,.int .i64 s,.int .i64 q,.slice ta z.length tc,.int .i64 I,.int .i64 aj,.slice la c.length lc];replace Bg:=Bg.below ab;replace ah:=ah.below ab;have bn:=hO.lt;replace hO:=hO.below ab;have aQ:=hU.trans (Out.of_below (F:=[g]) ab);have cj:=ab.size;have b9:g<wr.heap.size:=by omega
   go_wp2_with fail
   clear c0 aH aI c3 c4 c5 c6 ab;generalize wr.alloc (.cells #[.int .i64 i,.int .i64 s,.int .i64 q,.slice ta z.length tc,.int .i64 I,.int .i64 aj,.slice la c.length lc] 239)=Y at*;generalize b6:wr.heap.size=db at*;have az:Blk Y g 73 #[.slice a1 q1.length k1,.slice b1 xs.length c1,.slice a3 q3.length k3,.slice sa qs.length sc,.slice b2 ys.length c2]∧Blk Y db 239 #[.int .i64 i,.int .i64 s,.int .i64 q,.slice ta z.length tc,.int .i64 I,.int .i64 aj,.slice la c.length lc]:=⟨Bg,BY⟩
   generalize hP:(fun u:World=>Blk u g 73 #[.slice a1 q1.length k1,.slice b1 xs.length c1,.slice a3 q3.length k3,.slice sa qs.length sc,.slice b2 ys.length c2]∧Blk u db 239 #[.int .i64 i,.int .i64 s,.int .i64 q,.slice ta z.length tc,.int .i64 I,.int .i64 aj,.slice la c.length lc])=PP;have aM:PP Y:=by subst hP;exact az
   have bp:∀u:KeepP PP,u.val.cell? ⟨g,3,none⟩=some (.slice sa qs.length sc):=fun u=>by have:=u.isP;subst hP;exact this.1.cell 3 _ rfl
   have bq:∀u:KeepP PP,u.val.cell? ⟨db,6,none⟩=some (.slice la c.length lc):=fun u=>by have:=u.isP;subst hP;exact this.2.cell 6 _ rfl
   have bB:Nonempty (KeepP PP):=⟨⟨Y,aM⟩⟩
   refine z6Y (S:=fun w'=>∃u:KeepP PP,w'=u.val) (R:=fun _ _=>False) 8 (by kernel_rfl) (fun _ _ _ _ h=>h.elim) ?_;have aP:PP Y.drew:=by subst hP;exact az
   refine sgX [(0,4)] 5 (by kernel_rfl) ⟨⟨Y.drew,aP⟩,rfl⟩ ?_;simp only[pkE];repeat go_big_quiet_step (fail)
   refine wpQuiet_nil ?_;clear bp bq bB aM;have hW:Below Y.heap.size Y Y.drew:=(Below.refl _ _).drew;refine clX 4 (some 33) 155 #[.slice la c.length lc] 4 (by kernel_rfl) rfl ?_;refine(z5n la lc c _ (ah.below hW) bC bk).mono ?_;rintro e w7 ⟨a7,c7,rfl,o7,l7,aW⟩;have hD:=hW.size;replace hW:=hW.trans (aW.mono hW.size);replace Bg:=Bg.below hW;replace BY:=BY.below hW;have aE:=hO.lt;replace hO:=hO.below hW;have aR:=aQ.trans (Out.of_below (F:=[g]) hW);have cg:=hW.size;clear aW az aP;refine Or.inl ⟨_,rfl,⟨⟨_,by subst hP;exact⟨Bg,BY⟩⟩,rfl⟩,?_⟩;simp only[Act.put,pgE,pjE];refine onX 5 3 rfl (by kernel_rfl) ?_;have O:Below w7.heap.size w7 (w7.alloc (.cells #[.slice a7 c.length c7] 190)):=by go_grown
   have au:∀j u,[Value.slice a7 c.length c7][j]?=some u→(w7.alloc (.cells #[.slice a7 c.length c7] 190)).cell? ((⟨w7.heap.size,0,none⟩:Addr).add j)=some u:=by
    intro j u hj;match j,hj with|0,hj=>simp at hj;subst hj;simp[Addr.add]
   go_wp2
   replace Bg:=Bg.below O;replace BY:=BY.below O;have ay:=hO.below O;have aO:ussK.own (w7.alloc (.cells #[.slice a7 c.length c7] 190)) (⟨.slice a7 c.length c7,c⟩:USQ):=o7.below O;have W:=aR.trans (Out.of_below (F:=[g]) O);have ch:=O.size;refine ThenX.to ⟨Or.inr ⟨⟨_,by subst hP;exact⟨Bg,BY⟩⟩,rfl⟩,?_⟩;generalize w7.alloc (.cells #[.slice a7 c.length c7] 190)=WA at*;have ai:=ay.1;obtain⟨i0,hi,bI,bJ,bK⟩:=info_parts z3h;refine onX 6 2 rfl (by kernel_rfl) ?_;refine wpList_append_own_at _ rfl _ _ 71 rfl 0 190 i0 (.slice none 0 0) 1 24 Tryz.underlying71 hi bI bJ bK rfl (by decide) _ qs.length (ussK.row qs) rfl ai ⟨w7.heap.size,0,none⟩ 1 1 [.slice a7 c.length c7] rfl rfl au ?c2 ?c3 ?c4 ?c5 ?_
   case c2=>intro u hu;simp at hu;subst hu;rfl
   case c3=>have:=aG.out;unfold maxLen;omega
   case c4=>have:=aG.out;omega
   case c5=>omega
   intro v' wc ar af _ aV;have ae:∀x∈ussK.foot (⟨.slice a7 c.length c7,c⟩:USQ),Y.heap.size≤x:=fun x hx=>by
    have ao:x∈undoK.fp (.slice a7 c.length c7) c:=hx;rw[z0U]at ao;have:=l7 x ao;omega
   obtain⟨al,aB,V,N⟩:=ay.snoc HN.out.1 HN.out.2 aO (by show(undoK.fp _ _).Nodup;rw[z0U];exact z0w _) (fun x hx ao=>by have:=aE x ao;have:=ae x hx;omega) (fun x hx=>by have:=ae x hx;omega) (by omega) ar af aV;obtain⟨a9,c9,rfl⟩:=al.shape;have bA:(qs++[(⟨.slice a7 c.length c7,c⟩:USQ)]).length=qs.length+1:=by simp
   rw[bA]at al aB V;have aC:∀x∈blk (.slice sa qs.length sc),w5.heap.size≤x:=fun x hx=>HN.out.2 x (by simp only[Kind.fp,List.mem_append];exact Or.inl hx)
   have bv:g∉blk (.slice sa qs.length sc):=fun hx=>by have:=aC g hx;omega
   have bu:db∉blk (.slice sa qs.length sc):=fun hx=>by have:=bn db (by simp only[Kind.fp,List.mem_append];exact Or.inl hx);omega
   replace Bg:=Bg.outs8 N bv;replace BY:=BY.outs8 N bu;have aS:Out [g] w5 wc:=⟨N.os.trans W.os,N.tape.trans W.tape,N.output.trans W.output,Nat.le_trans W.size N.size,fun x hx hn=>(N.block x (by omega) (fun e=>by have:=aC x e;omega)).trans (W.block x hx hn)⟩
   go_wp2
   refine ThenX.to ⟨Or.inr ⟨⟨_,by subst hP;exact⟨Bg,BY⟩⟩,rfl⟩,?_⟩;clear ar af aV ai au ay aO O;refine onX 7 1 rfl (by kernel_rfl) ?_
   go_wp2
   refine ThenX.to ⟨Or.inr ⟨⟨_,by subst hP;exact⟨Bg,BY⟩⟩,rfl⟩,?_⟩;refine onX 8 0 rfl (by kernel_rfl) ?_;have bL:=Bg.cell 3 _ rfl;have bM:=Bg.frozen 3
   go_wp2
   clear bL bM;refine ThenX.to ⟨Or.inl (by kernel_rfl),?_⟩;refine q33 (by kernel_rfl) ?_;have B9:Blk (wc.setCell ⟨g,3,none⟩ (.slice a9 (qs.length+1) c9)) g 73 #[.slice a1 q1.length k1,.slice b1 xs.length c1,.slice a3 q3.length k3,.slice a9 (qs.length+1) c9,.slice b2 ys.length c2]:=by
    have:=Bg.set 3 (.slice a9 (qs.length+1) c9);simpa using this
   have O9:=al.out (Out.setCell wc g 3 (.slice a9 (qs.length+1) c9)) (fun x hx e=>by simp only[List.mem_singleton]at e;have:=V x hx;omega);have U9:=aS.trans (Out.setCell wc g 3 (.slice a9 (qs.length+1) c9));have bm:Hid ((qs++[(⟨.slice a7 c.length c7,c⟩:USQ)]).map USQ.e=(us.take (k+1)).map DeedQ.us):=ax.out _ rfl;have bo:Hid ((ussK.fp (.slice a9 (qs.length+1) c9) (qs++[(⟨.slice a7 c.length c7,c⟩:USQ)])).Nodup∧∀x∈ussK.fp (.slice a9 (qs.length+1) c9) (qs++[(⟨.slice a7 c.length c7,c⟩:USQ)]),w5.heap.size≤x):=⟨aB,V⟩
   have HR:Hid (_∧_∧_):=⟨B9,O9,U9⟩
   clear B9 O9 U9 Bg BY al hO aS W aR aQ hU ax HN aB V N aE aC ah bj o7 l7
   go_wp2
   go_roundw
   case rel=>exact⟨k+1,_,_,by omega,by go_num,HR.out.1,HR.out.2.1,bm,bo,HR.out.2.2⟩
   case measure=>simp[intOf];omega
  ·have bz:k=us.length:=by omega
   subst bz;have hE:=HE.out;rw[List.take_length]at hE;have bd:¬((us.length:Int)<(us.length:Int)):=by omega
   have av:=(Bv.below Z).outs8 hU (fun hx=>by simp only[List.mem_singleton]at hx;omega);have bg:=HN.out.1;have T:=HN.out.2;have RF:Hid (∀u0 u1 u2 u3 u4:Value,repK.own (((((wr.setCell ⟨rc+1,0,none⟩ u0).setCell ⟨rc+1,1,none⟩ u1).setCell ⟨rc+1,2,none⟩ u2).setCell ⟨rc+1,3,none⟩ u3).setCell ⟨rc+1,4,none⟩ u4) (⟨.slice a1 q1.length k1,q1,.slice b1 xs.length c1,xs,.slice a3 q3.length k3,q3,.slice sa qs.length sc,qs,.slice b2 ys.length c2,ys⟩:RepQ)∧Below rc w (((((wr.setCell ⟨rc+1,0,none⟩ u0).setCell ⟨rc+1,1,none⟩ u1).setCell ⟨rc+1,2,none⟩ u2).setCell ⟨rc+1,3,none⟩ u3).setCell ⟨rc+1,4,none⟩ u4)):=fun u0 u1 u2 u3 u4=>by
    have hS:Out [rc+1] wr (((((wr.setCell ⟨rc+1,0,none⟩ u0).setCell ⟨rc+1,1,none⟩ u1).setCell ⟨rc+1,2,none⟩ u2).setCell ⟨rc+1,3,none⟩ u3).setCell ⟨rc+1,4,none⟩ u4):=((((Out.setCell wr (rc+1) 0 u0).trans (Out.setCell _ (rc+1) 1 u1)).trans (Out.setCell _ (rc+1) 2 u2)).trans (Out.setCell _ (rc+1) 3 u3)).trans (Out.setCell _ (rc+1) 4 u4);have hA:Out [g,rc+1] w5 (((((wr.setCell ⟨rc+1,0,none⟩ u0).setCell ⟨rc+1,1,none⟩ u1).setCell ⟨rc+1,2,none⟩ u2).setCell ⟨rc+1,3,none⟩ u3).setCell ⟨rc+1,4,none⟩ u4):=(hU.mono (fun x hx=>by simp only[List.mem_singleton]at hx;simp[hx])).trans (hS.mono (fun x hx=>by simp only[List.mem_singleton]at hx;simp[hx]));have nn:∀x,X.heap.size≤x∧x≠g→x∉[g,rc+1]:=fun x hx hm=>by
     simp only[List.mem_cons,List.not_mem_nil,or_false]at hm;omega
    refine⟨⟨FO.od.out hA (fun x hx=>nn x (FO.lo x (List.mem_append_left _ hx))),FO.ob.out hA (fun x hx=>by rw[z0s]at hx;exact nn x (FO.lo x (List.mem_append_right _ (List.mem_append_left _ hx)))),FO.ot.out hA (fun x hx=>nn x (FO.lo x (List.mem_append_right _ (List.mem_append_right _ (List.mem_append_left _ hx))))),hO.out hS (fun x hx e=>by simp only[List.mem_singleton]at e;have:=T x hx;have:=Z.size;omega),FO.on.out hA (fun x hx=>by rw[z0s]at hx;exact nn x (FO.lo x (List.mem_append_right _ (List.mem_append_right _ (List.mem_append_right _ hx)))))⟩,?_⟩;have h1:=aa.trans (aT.mono (by omega));exact Out.keep h1 hS (by omega) (fun x hx=>by simp only[List.mem_singleton]at hx;omega)
   have R1:Hid ((repK.foot (⟨.slice a1 q1.length k1,q1,.slice b1 xs.length c1,xs,.slice a3 q3.length k3,q3,.slice sa qs.length sc,qs,.slice b2 ys.length c2,ys⟩:RepQ)).Nodup∧∀x∈repK.foot (⟨.slice a1 q1.length k1,q1,.slice b1 xs.length c1,xs,.slice a3 q3.length k3,q3,.slice sa qs.length sc,qs,.slice b2 ys.length c2,ys⟩:RepQ),rc≤x):=by
    have hA:=List.nodup_append.1 FO.nd;have hB:=List.nodup_append.1 hA.2.1;have hC:=List.nodup_append.1 hB.2.1;have lA:=FO.od.lt;have lB:∀x∈blk (.slice b1 xs.length c1),x<w5.heap.size:=z0J FO.ob.1;have lC:=FO.ot.lt;have lD:∀x∈blk (.slice b2 ys.length c2),x<w5.heap.size:=z0J FO.on.1;have e1:itemK.fp (.slice b1 xs.length c1) xs=blk (.slice b1 xs.length c1):=z0s _ _;have e2:itemK.fp (.slice b2 ys.length c2) ys=blk (.slice b2 ys.length c2):=z0s _ _;show List.Nodup (txnK.fp (.slice a1 q1.length k1) q1++(itemK.fp (.slice b1 xs.length c1) xs++(txnK.fp (.slice a3 q3.length k3) q3++(ussK.fp (.slice sa qs.length sc) qs++itemK.fp (.slice b2 ys.length c2) ys))))∧∀x∈txnK.fp (.slice a1 q1.length k1) q1++(itemK.fp (.slice b1 xs.length c1) xs++(txnK.fp (.slice a3 q3.length k3) q3++(ussK.fp (.slice sa qs.length sc) qs++itemK.fp (.slice b2 ys.length c2) ys))),rc≤x;rw[e1,e2];refine⟨List.nodup_append.2 ⟨hA.1,List.nodup_append.2 ⟨hB.1,List.nodup_append.2 ⟨hC.1,List.nodup_append.2 ⟨bg,hC.2.1,?_⟩,?_⟩,?_⟩,?_⟩,?_⟩
    ·intro a ha b hb e;have:=T a ha;have:=lD b hb;omega
    ·intro a ha b hb e;rcases List.mem_append.1 hb with hb|hb
     ·have:=T b hb;have:=lC a ha;omega
     ·exact hC.2.2 a ha b hb e
    ·intro a ha b hb e;rcases List.mem_append.1 hb with hb|hb
     ·exact hB.2.2 a ha b (List.mem_append_left _ hb) e
     rcases List.mem_append.1 hb with hb|hb
     ·have:=T b hb;have:=lB a ha;omega
     ·exact hB.2.2 a ha b (List.mem_append_right _ hb) e
    ·intro a ha b hb e;rcases List.mem_append.1 hb with hb|hb
     ·exact hA.2.2 a ha b (List.mem_append_left _ hb) e
     rcases List.mem_append.1 hb with hb|hb
     ·exact hA.2.2 a ha b (List.mem_append_right _ (List.mem_append_left _ hb)) e
     rcases List.mem_append.1 hb with hb|hb
     ·have:=T b hb;have:=lA a ha;omega
     ·exact hA.2.2 a ha b (List.mem_append_right _ (List.mem_append_right _ hb)) e
    ·intro x hx;have b4:=Z.size;rcases List.mem_append.1 hx with hx|hx
     ·have:=(FO.lo x (List.mem_append_left _ hx)).1;omega
     rcases List.mem_append.1 hx with hx|hx
     ·have:=(FO.lo x (List.mem_append_right _ (List.mem_append_left _ hx))).1;omega
     rcases List.mem_append.1 hx with hx|hx
     ·have:=(FO.lo x (List.mem_append_right _ (List.mem_append_right _ (List.mem_append_left _ hx)))).1;omega
     rcases List.mem_append.1 hx with hx|hx
     ·have:=T x hx;omega
     ·have:=(FO.lo x (List.mem_append_right _ (List.mem_append_right _ (List.mem_append_right _ hx)))).1;omega
   have R2:Hid (RepQ.e (⟨.slice a1 q1.length k1,q1,.slice b1 xs.length c1,xs,.slice a3 q3.length k3,q3,.slice sa qs.length sc,qs,.slice b2 ys.length c2,ys⟩:RepQ)=mkR D E):=show _=_ by
    rw[aw.out];obtain⟨h1,h2,h3⟩:=HU.out;simp only[RepQ.e,e1,e3,h2,h3,hE,h1]
   clear HN HE bg T HU aw FO dU;obtain⟨r0,r1,r2,r3,r4⟩:=Bg.cel5;obtain⟨z0,z1,z2,z3,z4⟩:=av.cel5;obtain⟨g0,g1,g2,g3,g4⟩:=av.frz5;clear Bg av hO hU
   go_wp2
   exact bodyPost_ret (v:=.agg #[.slice a1 q1.length k1,.slice b1 xs.length c1,.slice a3 q3.length k3,.slice sa qs.length sc,.slice b2 ys.length c2]) (by simp[results,Tryz.results123,go_sem,z0,z1,z2,z3,z4]) rfl ⟨(⟨.slice a1 q1.length k1,q1,.slice b1 xs.length c1,xs,.slice a3 q3.length k3,q3,.slice sa qs.length sc,qs,.slice b2 ys.length c2,ys⟩:RepQ),rfl,R2.out,(RF.out _ _ _ _ _).1,R1.out.1,R1.out.2,(RF.out _ _ _ _ _).2⟩
theorem q2c{acc:List TxnD}{t:TxnD}(h:stpF acc t=0):t.F=0∧knw acc t=false:=by
 unfold stpF at h;by_cases h0:t.F=0
 ·rw[if_pos h0]at h;refine⟨h0,?_⟩
  cases hk:knw acc t with
  |false=>rfl
  |true=>rw[hk]at h;exact absurd h (by decide)
 ·rw[if_neg h0]at h;exact absurd h h0
theorem knw_false{acc:List TxnD}{t:TxnD}:knw acc t=false↔∀a∈acc,stF a t=false:=by
 unfold knw;rw[List.any_eq_false];simp
theorem z40:∀ (r acc:List TxnD),z1Z acc r=0↔(∀t∈r,t.F=0)∧r.Pairwise (fun a b=>stF a b=false)∧∀a∈acc,∀t∈r,stF a t=false
 |[],acc=>by simp[z1Z]
 |x::r,acc=>by
  rw[z1Z];constructor
  ·intro h;by_cases h0:stpF acc x=0
   ·rw[if_pos h0]at h;obtain⟨h1,h2⟩:=q2c h0;obtain⟨i1,i2,i3⟩:=(z40 r (acc++[x])).1 h;refine⟨fun t ht=>?_,List.pairwise_cons.2 ⟨fun t ht=>i3 x (by simp) t ht,i2⟩,fun a ha t ht=>?_⟩
    ·rcases List.mem_cons.1 ht with rfl|ht
     ·exact h1
     ·exact i1 t ht
    ·rcases List.mem_cons.1 ht with rfl|ht
     ·exact knw_false.1 h2 a ha
     ·exact i3 a (by simp[ha]) t ht
   ·rw[if_neg h0]at h;exact absurd h h0
  ·rintro⟨h1,h2,h3⟩;have hx:stpF acc x=0:=by
    unfold stpF;rw[if_pos (h1 x (by simp)),knw_false.2 (fun a ha=>h3 a ha x (by simp))];rfl
   rw[if_pos hx];obtain⟨p1,p2⟩:=List.pairwise_cons.1 h2;refine(z40 r (acc++[x])).2 ⟨fun t ht=>h1 t (List.mem_cons_of_mem _ ht),p2,fun a ha t ht=>?_⟩;rcases List.mem_append.1 ha with ha|ha
   ·exact h3 a ha t (List.mem_cons_of_mem _ ht)
   ·rw[List.mem_singleton.1 ha];exact p1 t ht
theorem q3z(ds:List TxnD):lstF ds=0↔ds.length≤40∧(∀t∈ds,t.F=0)∧ds.Pairwise (fun a b=>stF a b=false):=by
 unfold lstF;by_cases h:40<ds.length
 ·rw[if_pos h];constructor
  ·intro h;exact absurd h (by decide)
  ·intro h1;omega
 ·rw[if_neg h,z40];constructor
  ·rintro⟨h1,h2,_⟩;exact⟨by omega,h1,h2⟩
  ·rintro⟨_,h1,h2⟩;exact⟨h1,h2,fun a ha=>by simp at ha⟩
theorem q1g{qs:List TxnQ}(h:∀t∈qs.map TxnQ.e,t.F=0):nmL TxnQ.n qs≤4*qs.length:=by
 induction qs with
 |nil=>simp[nmL]
 |cons q r ih=>
  have h1:(TxnQ.e q).F=0:=h _ (by simp);have h2:=(z2Q h1).2.2.2.1.2;have h3:q.acts.length≤4:=h2;have:=ih (fun t ht=>h t (by simp only[List.map_cons,List.mem_cons];exact Or.inr ht));simp only[nmL,List.map_cons,List.sum_cons,List.length_cons,TxnQ.n]at this⊢;omega
def repF(r:RepE):Int:=if 16<r.done.length∨8<r.tent.length then 2 else if lstF (r.done++r.tent)=0 then(if sameRep (mkR r.done r.tent) r=true then 0 else 8)else lstF (r.done++r.tent)
theorem z8F{r:RepE}(h:16<r.done.length∨8<r.tent.length):repF r=2:=by unfold repF;rw[if_pos h]
theorem z8G{r:RepE}(h:¬(16<r.done.length∨8<r.tent.length))(h2:lstF (r.done++r.tent)≠0):repF r=lstF (r.done++r.tent):=by unfold repF;rw[if_neg h,if_neg h2]
theorem z8H{r:RepE}(h:¬(16<r.done.length∨8<r.tent.length))(h2:lstF (r.done++r.tent)=0):repF r=if sameRep (mkR r.done r.tent) r=true then 0 else 8:=by unfold repF;rw[if_neg h,if_pos h2]
theorem q4p{ds:List TxnD}(h:lstF ds=0):∀t∈ds,t.F=0:=((q3z ds).1 h).2.1
theorem q2d{xs:List ItemD}{E:List TxnD}(hl:xs.length≤8)(g:Good xs)(hF:∀t∈E,t.F=0):∀u∈z6r xs E,u.length≤4:=by
 induction E generalizing xs with
 |nil=>intro u hu;simp[z6r,z0F]at hu
 |cons t r ih=>
  intro u hu;have ht:=hF t (by simp);simp only[z6r,z0F,List.map_cons,List.mem_cons]at hu;rcases hu with rfl|hu
  ·have hz:=z0S (show txnF t.id t.session t.seq t.acts=0 from ht);unfold z0G;split
   ·have:=(z4U hl g hz.2 (by assumption)).1;omega
   ·simp
  ·have g2:=z1b hl g ht;exact ih g2.1 g2.2 (fun t' h'=>hF t' (List.mem_cons_of_mem _ h')) u hu
theorem z8I{p:RepQ}{D E:List TxnD}(h:p.e=mkR D E)(hD:∀t∈D,t.F=0)(hE:∀t∈E,t.F=0)(lD:D.length≤40)(lE:E.length≤40):p.n≤1000:=by
 simp only[RepQ.e,mkR,RepE.mk.injEq]at h;obtain⟨h0,h1,h2,h3,h4⟩:=h;have g0:=z1E (xs:=[]) (by simp) z4c hD;have g1:=z1E g0.1 g0.2 hE;have n0:=q1g (qs:=p.done) (by rw[h0];exact hD);have n2:=q1g (qs:=p.tent) (by rw[h2];exact hE);have l0:p.done.length=D.length:=by simpa using congrArg List.length h0
 have l2:p.tent.length=E.length:=by simpa using congrArg List.length h2
 have l3:p.undos.length=E.length:=by
  have:=congrArg List.length h3;simpa[z6r,z7q]using this
 have n3:nmL USQ.n p.undos≤4*p.undos.length:=by
  have hu:∀u∈p.undos,u.us.length≤4:=fun u hu=>by
   have:u.us∈z6r (allI [] D) E:=by rw[←h3];exact List.mem_map.2 ⟨u,hu,rfl⟩
   exact q2d g0.1 g0.2 hE _ this
  clear h3 l3;revert hu;generalize p.undos=U;intro hu;induction U with
  |nil=>simp[nmL]
  |cons u r ih=>
   have:=ih (fun v hv=>hu v (List.mem_cons_of_mem _ hv));have h4:=hu u (by simp);simp only[nmL,List.map_cons,List.sum_cons,List.length_cons,USQ.n]at this⊢;omega
 unfold RepQ.n;rw[h1,h4,l0,l2,l3];rw[l0]at n0;rw[l2]at n2;rw[l3]at n3;have:=g0.1;have:=g1.1;omega
end Go.Proofs.YtljbililjlafcaaGreatDoor
