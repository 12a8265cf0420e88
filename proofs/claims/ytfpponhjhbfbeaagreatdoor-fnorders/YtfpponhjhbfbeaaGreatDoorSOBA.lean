/- Texts joined,with what the laws reach alone. -/
import Derived.Test.YtfpponhjhbfbeaaGreatDoorSOAZ
set_option linter.unusedVariables false
set_option linter.unusedSimpArgs false
set_option maxRecDepth 100000
set_option maxHeartbeats 16000000
namespace Go.Proofs.YtfpponhjhbfbeaaGreatDoor
open Go.RowKit Go.BigFrame
def TxnP.qk(p:TxnP):TxnQ:=⟨p.d.id,p.d.session,p.d.seq,p.sl,p.d.acts⟩
theorem q0r(ps:List TxnP):txnK.row (ps.map TxnP.qk)=z0w ps:=by
 induction ps with
 |nil=>rfl
 |cons p r ih=>
  show txnK.cells p.qk++txnK.row (r.map TxnP.qk)=p.cells++z0w r;rw[ih];rfl
theorem TxnRow.cap{base:Nat}{w:World}{v:Value}{ps:List TxnP}(h:TxnRow base w v ps):z6a v:=by
 rcases h.1.2 with⟨rfl,_⟩|⟨g,c,cur,rfl,_,_,h1,h2,_⟩
 ·exact⟨Nat.le_refl _,by decide⟩
 ·exact⟨h1,h2⟩
theorem TxnRow.ownK{base:Nat}{w:World}{v:Value}{ps:List TxnP}(h:TxnRow base w v ps):txnK.Own w v (ps.map TxnP.qk):=by
 refine⟨?_,fun q hq=>?_⟩
 ·rw[List.length_map,q0r];exact z0J h.1 (Nat.zero_le _)
 ·obtain⟨p,hp,rfl⟩:=List.mem_map.1 hq;exact⟨z0J (h.2.1 p hp).1 (Nat.zero_le _),fun _ _=>trivial⟩
theorem TxnRow.lowfp{base:Nat}{w:World}{v:Value}{ps:List TxnP}(h:TxnRow base w v ps):∀k∈txnK.fp v (ps.map TxnP.qk),base≤k:=by
 have key:∀ (e s n:Nat) (u:Value) (xs:List Value),w.ownsRow base e s u n xs→∀k∈blk u,base≤k:=by
  intro e s n u xs hu k hk;unfold blk at hk
  cases hb:u.ownBlock with
  |none=>rw[hb]at hk;simp at hk
  |some x=>
   rw[hb]at hk;simp at hk;rw[hk];exact(hu.lt x hb).1
 intro k hk;rcases List.mem_append.1 hk with hk|hk
 ·exact key _ _ _ _ _ h.1 k hk
 ·obtain⟨q,hq,hk⟩:=List.mem_flatMap.1 hk;obtain⟨p,hp,rfl⟩:=List.mem_map.1 hq;have hk2:k∈actK.fp p.sl p.d.acts:=hk;rw[z2h]at hk2;exact key _ _ _ _ _ (h.2.1 p hp).1 k hk2
theorem q03{qs:List TxnQ}(h:∀q∈qs,q.acts.length≤5):nmL TxnQ.n qs≤5*qs.length:=by
 induction qs with
 |nil=>simp[nmL]
 |cons q r ih=>
  have h1:=h q (by simp);have:=ih (fun t ht=>h t (List.mem_cons_of_mem _ ht));simp only[nmL,List.map_cons,List.sum_cons,List.length_cons,TxnQ.n]at this⊢;omega
theorem z6b(B b T:Nat)(w:World)(hS:Src B w b T)(hT:T≤800000):
  Calls Tryz.prog 40 #[.pointer (some ⟨b,0,none⟩),.int .i64 5] w fun e w'=>∃ (v:Value) (ps:List TxnP),e=.returned v∧ps.length≤5∧(∀p∈ps,1≤p.d.acts.length∧p.d.acts.length≤5)∧TxnRow w.heap.size w' v ps∧Src B w' b (T+100)∧w.grownBy w' (some b):=by
 obtain⟨i0,hi,hz0,hz1,hz2⟩:=info_parts z1q;have hlt:=hS.lt;have ho0:(w.alloc (.cells #[] 44)).ownsRow w.heap.size 44 4 (.slice (some ⟨w.heap.size,0,none⟩) 0 0) 0 []:=World.ownsRow_lit w #[] 0 (Nat.le_refl _) (by decide) rfl;have hg:w.grownBy (w.alloc (.cells #[] 44)) (some b):=World.grownBy_alloc w _ _;replace hS:Src B (w.alloc (.cells #[] 44)) b T:=hS.below (by go_grown);go_enter Tryz.func40,Tryz.ntmps40
 go_wp2_with fail
 generalize w.alloc (.cells #[] 44)=W1 at ho0 hg hS;refine(z0h B b T 5 W1 hS (by omega) (by omega)).mono ?_;rintro e w3 ⟨r,rfl,hr,hSn,hgn⟩;obtain⟨j0,rfl⟩:=Int.eq_ofNat_of_zero_le hr.1;have hj0:j0≤4:=by have:=hr.2.1 (by omega);omega
 have hR0:TxnRow w.heap.size W1 (.slice (some ⟨w.heap.size,0,none⟩) 0 0) []:=⟨ho0,by simp,by simp⟩
 replace hR0:=hR0.src hlt.2 hgn;replace hg:=hg.trans hgn;replace hS:=hSn;clear hgn hSn hr ho0
 go_wp2
 go_loopw[5,6] (fun v c wr=>∃ (j:Nat) (ps:List TxnP),c=.int .i64 j∧j+ps.length≤5∧Hid (∀p∈ps,1≤p.d.acts.length∧p.d.acts.length≤5)∧TxnRow w.heap.size wr v ps∧Src B wr b (T+1+13*ps.length)∧w.grownBy wr (some b)) (fun _ c _=>(intOf c).toNat)
 case atStart=>exact⟨j0,[],rfl,by simp;omega,by intro p hp;simp at hp,hR0,hS,hg⟩
 case round=>
  clear hR0 hS hg;obtain⟨j,ps,rfl,hj,HP,hR,hS,hg⟩:=hrel;have hsz:=hg.size;obtain⟨a1,c1,rfl⟩:=z0l hR.1;by_cases hpos:0<j
  ·go_wp2_with fail
   refine(z2Q B b (T+1+13*ps.length) wr hS (by omega)).mono ?_;rintro e w4 ⟨i,s,q,a,c,xs,rfl,hx1,hx3,ho,hSn,hgn⟩;have hpn:Value.ownBlock (.slice a xs.length c)=none∨Value.ownBlock (.slice a xs.length c)≠Value.ownBlock (.slice a1 ps.length c1):=z5I hR.1 ho (Nat.le_refl _);replace hR:=hR.src hlt.2 hgn;replace hg:=hg.trans hgn;replace hS:=hSn;replace ho:=z0J ho hsz;clear hgn hSn;have hbA:Below w4.heap.size w4 (w4.alloc (.cells #[.int .i64 i,.int .i64 s,.int .i64 q,.slice a xs.length c] 44)):=by go_grown
   have hsz4:=hg.size;have ho2:=z0j hR.1 hbA
   go_wp2_with (at_builtin;refine wpList_append_own_at _ rfl _ _ 27 rfl w.heap.size 44 i0 (.agg #[.int .i64 0,.int .i64 0,.int .i64 0,.slice none 0 0]) 4 48 Tryz.underlying27 hi hz0 hz1 hz2 rfl (by decide) _ ps.length (z0w ps) rfl ho2 ⟨w4.heap.size,0,none⟩ 1 1 [.int .i64 i,.int .i64 s,.int .i64 q,.slice a xs.length c] rfl rfl ?c1 ?c2 ?c3 ?c4 ?c5 ?_)
   all_goals try(case c1=>intro j u hj;match j,hj with|0,hj=>simp at hj;subst hj;simp[Addr.add]|1,hj=>simp at hj;subst hj;simp[Addr.add]|2,hj=>simp at hj;subst hj;simp[Addr.add]|3,hj=>simp at hj;subst hj;simp[Addr.add])
   all_goals try(case c2=>intro u hu;simp at hu;rcases hu with rfl|rfl|rfl|rfl<;>rfl)
   all_goals try(case c3=>unfold maxLen;omega)
   all_goals try(case c4=>omega)
   all_goals try(case c5=>first|omega|(simp;omega))
   intro v' w5 hown hgrow hnil hat;have hgo:∀j,(Value.slice a1 ps.length c1).ownBlock=some j→w.heap.size≤j:=fun j hj=>(ho2.lt j hj).1
   have hB5:Below w.heap.size w4 w5:=((Below.refl w.heap.size w4).alloc hsz4 (.cells #[.int .i64 i,.int .i64 s,.int .i64 q,.slice a xs.length c] 44)).grown hgrow (by simp;omega) hgo;have hR5:Hid (TxnRow w.heap.size w5 v' (ps++[⟨⟨i,s,q,xs⟩,a,c⟩])):=(hR.below hbA).append ⟨⟨i,s,q,xs⟩,a,c⟩ (z0j ho hbA) hpn (by simpa[TxnP.cells,TxnP.sl]using hown) hgrow (by rw[World.size_alloc];exact hat) hnil;replace hg:=z0c hg hB5;replace hS:=hS.low hB5 hlt.2;have HP5:Hid (∀p∈ps++[(⟨⟨i,s,q,xs⟩,a,c⟩:TxnP)],1≤p.d.acts.length∧p.d.acts.length≤5):=by
    intro p hp;simp only[List.mem_append,List.mem_singleton]at hp;rcases hp with hp|rfl
    ·exact HP.out p hp
    ·show 1≤xs.length∧xs.length≤5;omega
   clear hR ho ho2 hown hgrow hat hnil hgo hB5 hbA hpn
   go_wp2
   go_roundw
   case rel=>exact⟨j-1,ps++[⟨⟨i,s,q,xs⟩,a,c⟩],by go_num,by simp;omega,HP5,hR5.out,hS.mono (by simp;omega),hg⟩
   case measure=>simp[intOf];omega
  ·go_wp2
   go_ret;exact⟨_,ps,rfl,by omega,HP.out,hR,hS.mono (by omega),hg⟩
theorem z3l(a:Option Addr)(cap:Nat)(zs:List Int)(w:World)(h:Row .u8 w a zs)(hu:∀i,0≤zs.getD i 0∧zs.getD i 0≤255)(hl:zs.length≤1048576):
  Calls Tryz.prog 11 #[.slice a zs.length cap] w fun e w'=>∃ (v1 v2:Value) (q1 q2:List TxnQ),e=.returned (.tuple #[v1,v2])∧q1.length+nmL TxnQ.n q1≤100∧q2.length+nmL TxnQ.n q2≤100∧txnK.Own w' v1 q1∧txnK.Own w' v2 q2∧Below w.heap.size w w':=by
 have hby:∀i,i<zs.length→∃b' off,a=some ⟨b',off,none⟩∧b'<w.heap.size∧w.cell? ⟨b',off+i,none⟩=some (.int .u8 (zs.getD i 0)):=h;go_enter Tryz.func11,Tryz.ntmps11
 go_wp2_with fail
 refine(z13 w.heap.size a cap zs w (Nat.le_refl _) hl hu hby).mono ?_;rintro e x1 ⟨rfl,hS,hb1⟩;have hb0:Below w.heap.size w x1:=hb1;clear hby hb1 h hu hl
 go_wp2_with fail
 refine(z6b w.heap.size w.heap.size 0 x1 hS (by omega)).mono ?_;rintro e x2 ⟨va,pa,rfl,hpl,hpa,hRa,hSn,hgn⟩;have hx1:=hS.lt;have hU:Out [w.heap.size] x1 x2:=Out.of_grown hgn;have hs2:=hgn.size;replace hb0:=Out.keep hb0 hU hb0.size (fun k hk=>by simp only[List.mem_singleton]at hk;omega);replace hS:=hSn;have hOa:=hRa.ownK;have HLA:Hid (∀k∈txnK.fp va (pa.map TxnP.qk),w.heap.size<k):=fun k hk=>by have:=hRa.lowfp k hk;omega
 have hl2:(pa.map TxnP.qk).length=pa.length:=List.length_map ..;have HPA:Hid (∀q∈pa.map TxnP.qk,1≤q.acts.length∧q.acts.length≤5):=fun q hq=>by
  obtain⟨p,hp,rfl⟩:=List.mem_map.1 hq;exact hpa p hp
 clear hSn hgn hU hpa hRa;generalize pa.map TxnP.qk=qa at*;have hqa:qa.length≤5:=by omega
 clear hl2 hpl;obtain⟨aa1,ca1,rfl⟩:=hOa.shape;have hlq:(qa.length:Int)≤5:=by omega
 go_wp2_with fail
 refine(z0h w.heap.size w.heap.size (0+100) ((qa.length:Int)+1) x2 hS (by omega) (by omega)).mono ?_;rintro e x3 ⟨r,rfl,hr,hSn,hgn⟩;have hU:Out [w.heap.size] x2 x3:=Out.of_grown hgn;have hs3:=hgn.size;replace hb0:=Out.keep hb0 hU hb0.size (fun k hk=>by simp only[List.mem_singleton]at hk;omega);replace hOa:=hOa.out hU (fun k hk hk'=>by simp only[List.mem_singleton]at hk';have:=HLA.out k hk;omega);replace hS:=hSn;obtain⟨m,rfl⟩:=Int.eq_ofNat_of_zero_le hr.1;have hm:m≤qa.length:=by have:=hr.2.1 (by omega);omega
 clear hSn hgn hU hr;obtain⟨hca1,hca2⟩:qa.length≤ca1∧ca1≤maxLen:=hOa.capK;have hm0:(0:Int)≤(m:Int):=by omega
 have hmc:(m:Int)≤(ca1:Int):=by omega
 have hmc':m≤ca1:=by omega
 have hn5:nmL TxnQ.n (qa.take m)≤5*(qa.take m).length:=q03 (fun q hq=>(HPA.out q (List.mem_of_mem_take hq)).2);have hlm:(qa.take m).length≤5:=by rw[List.length_take];omega
 have hcp:=z1I (.slice aa1 m ca1) (qa.take m) x3 (hOa.at.takeK m hm) (fun q hq=>(HPA.out q (List.mem_of_mem_take hq)).1) (by omega);have HNA:Hid (qa.length+nmL TxnQ.n qa≤100):=by
  have:=q03 (qs:=qa) (fun q hq=>(HPA.out q hq).2);show qa.length+nmL TxnQ.n qa≤100;omega
 clear HPA
 go_wp2_with fail
 clear hm0 hmc hmc';refine hcp.mono ?_;rintro e x4 ⟨vb,qs,rfl,eqs,oq,nq,gq,hb4⟩;have hls:qs.length=(qa.take m).length:=by simpa using congrArg List.length eqs
 have HNQ:Hid (qs.length+nmL TxnQ.n qs≤100):=by
  show qs.length+nmL TxnQ.n qs≤100;rw[q0q eqs];omega
 have hs4:=hb4.size;have HLQ:Hid (∀k∈txnK.fp vb qs,x3.heap.size≤k):=gq;have HLT:Hid (∀k∈txnK.fp (.slice aa1 qa.length ca1) qa,k<x3.heap.size):=hOa.lt;replace hOa:=hOa.below hb4;replace hS:=hS.below hb4;replace hb0:=hb0.trans (hb4.mono hb0.size);have hqs:qs.length≤5:=by omega
 clear hcp eqs gq hb4 hls hn5 hlm hca1 hca2 hlq;obtain⟨ab,cb,rfl⟩:=oq.shape;obtain⟨n,HNL⟩:∃n,Hid (qs.length=n):=⟨_,rfl⟩
 rw[HNL.out]at oq nq HLQ⊢;have hn5:n≤5:=by have:=HNL.out;omega
 cases n with
 |zero=>
  clear HLA HLQ HLT nq
  go_wp2
  exact bodyPost_ret (v:=.tuple #[.slice ab 0 cb,.slice aa1 qa.length ca1]) (by simp[results,Tryz.results11,go_sem]) rfl ⟨_,_,qs,qa,rfl,HNQ.out,HNA.out,oq,hOa,hb0⟩
 |succ n=>
  have hmp:(0:Int)<((n+1:Nat):Int):=by omega
  go_wp2_with fail
  refine(z2o w.heap.size w.heap.size (0+100+1) 3 x4 hS (by omega) (by omega)).mono ?_;rintro e x5 ⟨tt,rfl,hS5,hg5⟩;have hU:Out [w.heap.size] x4 x5:=Out.of_grown hg5;replace hb0:=Out.keep hb0 hU hb0.size (fun k hk=>by simp only[List.mem_singleton]at hk;omega);replace hOa:=hOa.out hU (fun k hk hk'=>by simp only[List.mem_singleton]at hk';have:=HLA.out k hk;omega);replace oq:=oq.out hU (fun k hk hk'=>by simp only[List.mem_singleton]at hk';have:=HLQ.out k hk;omega);clear hS5 hg5 hU hS
  cases tt with
  |false=>
   clear HLA HLQ HLT nq
   go_wp2
   exact bodyPost_ret (v:=.tuple #[.slice ab (n+1) cb,.slice aa1 qa.length ca1]) (by simp[results,Tryz.results11,go_sem]) rfl ⟨_,_,qs,qa,rfl,HNQ.out,HNA.out,oq,hOa,hb0⟩
  |true=>
   have hlt:0<qs.length:=by have:=HNL.out;omega
   obtain⟨g,rfl⟩:=oq.blkOf hlt;have hgb:x3.heap.size≤g:=HLQ.out g (by simp[Kind.fp,blk,Value.ownBlock]);obtain⟨d0,f0⟩:=oq.cell 0 hlt 0 (.int .i64 qs[0].i) rfl;have hkk:0*txnK.size+0=0:=by omega
   rw[hkk]at d0 f0;have hst:=fun u:Int=>oq.store nq 0 hlt ⟨u,qs[0].s,qs[0].q,qs[0].va,qs[0].acts⟩ 0 (.int .i64 u) (by decide) rfl rfl (fun w' ho=>ho)
   rw[hkk]at hst;have HST:Hid (∀u:Int,∃q':List TxnQ,q'.length+nmL TxnQ.n q'≤100∧txnK.Own (x5.setCell ⟨g,0,none⟩ (.int .i64 u)) (.slice (some ⟨g,0,none⟩) (n+1) cb) q'∧txnK.Own (x5.setCell ⟨g,0,none⟩ (.int .i64 u)) (.slice aa1 qa.length ca1) qa∧Below w.heap.size w (x5.setCell ⟨g,0,none⟩ (.int .i64 u))):=fun u=>by
    refine⟨_,?_,(hst u).1,hOa.out (Out.setCell _ _ _ _) (fun k hk hk'=>by simp only[List.mem_singleton]at hk';have:=HLT.out k hk;omega),hb0.setCell (p:=⟨g,0,none⟩) (by show w.heap.size≤g;omega) _⟩;have h9:nmL TxnQ.n (qs.set 0 ⟨u,qs[0].s,qs[0].q,qs[0].va,qs[0].acts⟩)=nmL TxnQ.n qs:=by
     cases qs with
     |nil=>rfl
     |cons x r=>rfl
    rw[List.length_set,h9];exact HNQ.out
   generalize qs[0].i=ii at*;clear hst HLA HLQ HLT nq oq hOa hb0
   go_wp2
   obtain⟨q',h1,h2,h3,h4⟩:=HST.out _;exact bodyPost_ret (v:=.tuple #[.slice (some ⟨g,0,none⟩) (n+1) cb,.slice aa1 qa.length ca1]) (by simp[results,Tryz.results11,go_sem]) rfl ⟨_,_,q',qa,rfl,h1,HNA.out,h2,h3,h4⟩
theorem Kind.At.take'{P:Type}{K:Kind P}{w:World}{a:Option Addr}{n cap:Nat}{ps:List P}(h:K.At w (.slice a n cap) ps)(m:Nat)(hm:m≤ps.length):K.At w (.slice a m cap) (ps.take m):=by
 obtain⟨a',c,e,hl,hr⟩:=h;simp only[Value.slice.injEq]at e;obtain⟨rfl,_,rfl⟩:=e;refine⟨a,cap,by rw[List.length_take,Nat.min_eq_left hm],?_,fun p hp=>hr p (List.mem_of_mem_take hp)⟩;have er:K.row ps=K.row (ps.take m)++K.row (ps.drop m):=by
  unfold Kind.row;rw[←List.flatMap_append,List.take_append_drop]
 rcases hl with h0|⟨b,off,ha,hlt,hc⟩
 ·left;rw[er]at h0;exact(List.append_eq_nil_iff.1 h0).1
 ·right;refine⟨b,off,ha,hlt,fun j x hx=>hc j x ?_⟩;rw[er,List.getElem?_append_left (List.getElem?_eq_some_iff.1 hx).1];exact hx
theorem Kind.Own.cap'{P:Type}{K:Kind P}{w:World}{a:Option Addr}{n cap:Nat}{ps:List P}(h:K.Own w (.slice a n cap) ps):n≤cap∧cap≤maxLen:=by
 rcases h.1.2 with⟨e,_⟩|⟨g,c,cur,e,_,_,h1,h2,_⟩
 ·simp only[Value.slice.injEq]at e;obtain⟨_,rfl,rfl⟩:=e;exact⟨Nat.le_refl _,by decide⟩
 ·simp only[Value.slice.injEq]at e;obtain⟨_,rfl,rfl⟩:=e;exact⟨h1,h2⟩
def preT(xs ys:List TxnD):Bool:=decide (xs.length≤ys.length) && sameTs xs (ys.take xs.length)
theorem z1Q(v v':Value)(xs ys:List TxnQ)(w:World)(h:txnK.At w v xs)(h':txnK.Own w v' ys)(hl:xs.length+nmL TxnQ.n xs≤1048576)(hl':ys.length+nmL TxnQ.n ys≤1048576):
  Calls Tryz.prog 16 #[v,v'] w fun e w'=>e=.returned (.bool (preT (xs.map TxnQ.e) (ys.map TxnQ.e)))∧Below w.heap.size w w':=by
 obtain⟨a,cap,rfl⟩:=h.shape;obtain⟨a',cap',rfl⟩:=h'.shape;obtain⟨hc,hcm⟩:=h'.cap';unfold preT;rw[List.length_map,List.length_map];by_cases hlen:xs.length≤ys.length
 ·have hd:decide (xs.length≤ys.length)=true:=decide_eq_true hlen;rw[hd,Bool.true_and];have hT:=h'.at.take' xs.length hlen;have hn:nmL TxnQ.n (ys.take xs.length)≤nmL TxnQ.n ys:=z6i TxnQ.n ys xs.length;have hq:=z1P (.slice a xs.length cap) (.slice a' xs.length cap') (xs.map TxnQ.e) ((ys.take xs.length).map TxnQ.e) w (z1f h) (z1f hT) (by rw[List.length_map,z15];omega) (by rw[List.length_map,z15,List.length_take];omega);rw[List.map_take]at hq;generalize sameTs (xs.map TxnQ.e) ((ys.map TxnQ.e).take xs.length)=E at*;have hle:(xs.length:Int)≤(ys.length:Int):=by omega
  have hlc:xs.length≤cap':=by omega
  have hlc':(xs.length:Int)≤(cap':Int):=by omega
  have hl0:(0:Int)≤(xs.length:Int):=by omega
  clear hT hn hd;go_enter Tryz.func16,Tryz.ntmps16
  go_wp2_with fail
  refine hq.mono ?_;rintro e w2 ⟨rfl,hb2⟩
  go_wp2
  go_ret;exact⟨rfl,hb2⟩
 ·have hd:decide (xs.length≤ys.length)=false:=decide_eq_false hlen;rw[hd,Bool.false_and];have hle:¬(xs.length:Int)≤(ys.length:Int):=by omega
  clear hd;go_enter Tryz.func16,Tryz.ntmps16
  go_wp2
  go_ret;exact⟨rfl,Below.refl _ _⟩
theorem z5z(v v':Value)(xs ys:List TxnQ)(w:World)(h:txnK.At w v xs)(h':txnK.Own w v' ys)(hl:xs.length+nmL TxnQ.n xs≤1048576)(hl':ys.length+nmL TxnQ.n ys≤1048576):
  Calls Tryz.prog 47 #[v,v'] w fun e w'=>e=.returned (.bool (preT (xs.map TxnQ.e) (ys.map TxnQ.e)))∧Below w.heap.size w w':=by
 obtain⟨a,cap,rfl⟩:=h.shape;obtain⟨a',cap',rfl⟩:=h'.shape;obtain⟨hc,hcm⟩:=h'.cap';unfold preT;rw[List.length_map,List.length_map];by_cases hlen:xs.length≤ys.length
 ·have hd:decide (xs.length≤ys.length)=true:=decide_eq_true hlen;rw[hd,Bool.true_and];have hT:=h'.at.take' xs.length hlen;have hn:nmL TxnQ.n (ys.take xs.length)≤nmL TxnQ.n ys:=z6i TxnQ.n ys xs.length;have hq:=z3k (.slice a xs.length cap) (.slice a' xs.length cap') (xs.map TxnQ.e) ((ys.take xs.length).map TxnQ.e) w (z1f h) (z1f hT) (by rw[List.length_map,z15];omega) (by rw[List.length_map,z15,List.length_take];omega);rw[List.map_take]at hq;generalize sameTs (xs.map TxnQ.e) ((ys.map TxnQ.e).take xs.length)=E at*;have hle:(xs.length:Int)≤(ys.length:Int):=by omega
  have hlc:xs.length≤cap':=by omega
  have hlc':(xs.length:Int)≤(cap':Int):=by omega
  have hl0:(0:Int)≤(xs.length:Int):=by omega
  clear hT hn hd;go_enter Tryz.func47,Tryz.ntmps47
  go_wp2_with fail
  refine hq.mono ?_;rintro e w2 ⟨rfl,hb2⟩
  go_wp2
  go_ret;exact⟨rfl,hb2⟩
 ·have hd:decide (xs.length≤ys.length)=false:=decide_eq_false hlen;rw[hd,Bool.false_and];have hle:¬(xs.length:Int)≤(ys.length:Int):=by omega
  clear hd;go_enter Tryz.func47,Tryz.ntmps47
  go_wp2
  go_ret;exact⟨rfl,Below.refl _ _⟩
theorem z3m(v v':Value)(xs ys:List TxnQ)(w:World)(h:txnK.At w v xs)(h':txnK.Own w v' ys)(hl:xs.length+nmL TxnQ.n xs≤1048576)(hl':ys.length+nmL TxnQ.n ys≤1048576):
  Calls Tryz.prog 17 #[v,v'] w fun e w'=>e=.returned (.bool (preT (xs.map TxnQ.e) (ys.map TxnQ.e)))∧Below w.heap.size w w':=by
 have hq:=z5z v v' xs ys w h h' hl hl';obtain⟨a,cap,rfl⟩:=h.shape;obtain⟨a',cap',rfl⟩:=h'.shape;generalize preT (xs.map TxnQ.e) (ys.map TxnQ.e)=E at*;go_enter Tryz.func17,Tryz.ntmps17
 go_wp2_with fail
 refine hq.mono ?_;rintro e w2 ⟨rfl,hb2⟩
 go_wp2
 go_ret;exact⟨rfl,hb2⟩
structure InstP' (w:World) (b o:Nat) (p:InstQ):Prop where
 box:Box4 w b o (.bool p.has) p.vb p.vr p.vd
 rd:instK.rd w p
theorem InstP'.below{w w':World}{b o:Nat}{p:InstQ}(h:InstP' w b o p)(hb:Below w.heap.size w w'):InstP' w' b o p:=⟨h.box.below hb,instK.rd_below h.rd hb⟩
def z2d:TxnD:=⟨0,0,0,[]⟩
theorem z2W(xs:List TxnQ)(k:Nat)(hk:k<xs.length):(xs.map TxnQ.e).getD k z2d=TxnQ.e xs[k]:=by simp[List.getD,hk]
theorem z71{acc:List TxnD}{t:TxnD}(k:Nat)(hk:k<acc.length)(h:stF (acc.getD k z2d) t=true):knw acc t=true:=by
 unfold knw;rw[List.any_eq_true];exact⟨acc[k],List.getElem_mem hk,by simpa[List.getD,hk]using h⟩
theorem z81{acc:List TxnD}{t:TxnD}(h:∀j,j<acc.length→stF (acc.getD j z2d) t=false):knw acc t=false:=by
 cases hc:knw acc t with
 |false=>rfl
 |true=>
  unfold knw at hc;rw[List.any_eq_true]at hc;obtain⟨x,hx,hs⟩:=hc;obtain⟨j,hj,rfl⟩:=List.getElem_of_mem hx;have:=h j hj;have e:acc.getD j z2d=acc[j]:=by simp[List.getD,hj]
  rw[e,hs]at this;exact absurd this (by decide)
theorem z6c(v:Value)(acc:List TxnQ)(b o:Nat)(x:TxnD)(va:Value)(w:World)(h:txnK.At w v acc)(hB:Box4 w b o (.int .i64 x.id) (.int .i64 x.session) (.int .i64 x.seq) va)(hl:acc.length≤1048576):
  Calls Tryz.prog 82 #[v,.pointer (some ⟨b,o,none⟩)] w fun e w'=>e=.returned (.bool (knw (acc.map TxnQ.e) x))∧Below w.heap.size w w':=by
 obtain⟨a,cap,rfl⟩:=h.shape;obtain⟨d0,d1,d2,d3⟩:=hB;generalize hE:knw (acc.map TxnQ.e) x=E;have HE:Hid (knw (acc.map TxnQ.e) x=E):=hE;clear hE;obtain⟨xi,xs,xq,xa⟩:=x;dsimp only at d0 d1 d2 d3;go_enter Tryz.func82,Tryz.ntmps82
 go_wp2
 go_loopw[5] (fun j wr=>∃k m:Nat,k≤acc.length∧j=.int .i64 k∧wr=w.drewN m∧Hid (∀j,j<k→stF ((acc.map TxnQ.e).getD j z2d) ⟨xi,xs,xq,xa⟩=false)) (fun j _=>acc.length-(intOf j).toNat)
 case atStart=>exact⟨0,0,Nat.zero_le _,rfl,rfl,fun j hj=>absurd hj (Nat.not_lt_zero _)⟩
 case round=>
  obtain⟨k,m,hk,rfl,rfl,HA⟩:=hrel;by_cases hlt:k<acc.length
  ·obtain⟨b',off,rfl,hbs,hc,hrd⟩:=h.cell (by decide) k hlt;have hc':∀j x,(txnK.cells acc[k])[j]?=some x→w.cell? ⟨b',off+k*4+j,none⟩=some x:=hc;have c0:=hc' 0 (.int .i64 acc[k].i) rfl;have c1:=hc' 1 (.int .i64 acc[k].s) rfl;have c2:=hc' 2 (.int .i64 acc[k].q) rfl;rw[Nat.add_zero]at c0;have HY:Hid (stF (TxnQ.e acc[k]) ⟨xi,xs,xq,xa⟩=true→E=true):=fun hx=>by rw[←HE.out];exact z71 k (by simpa using hlt) (by rw[z2W acc k hlt];exact hx)
   have HN:Hid (stF (TxnQ.e acc[k]) ⟨xi,xs,xq,xa⟩=false→∀j,j<k+1→stF ((acc.map TxnQ.e).getD j z2d) ⟨xi,xs,xq,xa⟩=false):=fun hx j hj=>by
    by_cases hjm:j=k
    ·subst hjm;rw[z2W acc j hlt];exact hx
    ·exact HA.out j (by omega)
   clear HA hc hc' hrd;generalize acc[k]=p at*;obtain⟨i,s,q,va',acts⟩:=p;dsimp only[TxnQ.e,stF]at c0 c1 c2 HY HN;have hlti:(k:Int)<(acc.length:Int):=by omega
   cases h1:(i==xi)
   ·cases h2:(s==xs)
    ·have HR:=HN.out (by rw[h1,h2];rfl);have HR':Hid _:=HR;clear HY HN HR
     go_wp2
     go_quiet (fail)
     go_wp2
     go_roundw
     case rel=>exact⟨k+1,_,by omega,by go_num,rfl,HR'.out⟩
     case measure=>simp[intOf];omega
    ·cases h3:(q==xq)
     ·have HR:=HN.out (by rw[h1,h2,h3];rfl);have HR':Hid _:=HR;clear HY HN HR
      go_wp2
      go_quiet (fail)
      go_wp2
      go_roundw
      case rel=>exact⟨k+1,_,by omega,by go_num,rfl,HR'.out⟩
      case measure=>simp[intOf];omega
     ·have E1:Hid (E=true):=HY.out (by rw[h1,h2,h3];rfl);clear HY HN
      go_wp2
      go_quiet (fail)
      go_wp2
      go_ret;rw[E1.out];exact⟨rfl,⟨rfl,rfl,rfl,Nat.le_refl _,fun _ _=>rfl⟩⟩
   ·have E1:Hid (E=true):=HY.out (by rw[h1];rfl);clear HY HN
    go_wp2
    go_quiet (fail)
    go_wp2
    go_ret;rw[E1.out];exact⟨rfl,⟨rfl,rfl,rfl,Nat.le_refl _,fun _ _=>rfl⟩⟩
  ·have E1:Hid (E=false):=by rw[←HE.out];exact z81 (fun j hj=>HA.out j (by simp at hj;omega))
   have hlti:¬(k:Int)<(acc.length:Int):=by omega
   clear HA HE
   go_wp2
   go_ret;rw[E1.out];exact⟨rfl,⟨rfl,rfl,rfl,Nat.le_refl _,fun _ _=>rfl⟩⟩
theorem z31(ds:List InstE)(k:Nat)(hk:k<ds.length):z2D (ds.take (k+1))=z2D (ds.take k)++(if outV (ds.getD k z0F).dec=1 then(ds.getD k z0F).batch else []):=by
 rw[List.take_succ_eq_append_getElem hk];unfold z2D;rw[List.flatMap_append];have e:ds.getD k z0F=ds[k]:=by simp[List.getD,hk]
 simp only[List.flatMap_cons,List.flatMap_nil,List.append_nil,e]
theorem z6F(xs acc:List TxnD)(t:TxnD):onc acc (xs++[t])=if knw (onc acc xs) t then onc acc xs else onc acc xs++[t]:=by
 rw[z1e];simp only[onc]
theorem z4f(v:Value)(ps:List InstQ)(n:Nat)(w:World)(h:instK.At w v ps)(hlow:(∀p∈ps,(∀t∈p.batch,0<t.acts.length)∧(∀r∈p.rounds,0<r.rep.length∧0<r.pro.length)∧0<p.dec.length))(hbat:∀p∈ps,p.batch.length≤4)(hn:n≤ps.length)(h4:ps.length≤4)(hl:(ps.length+nmL InstQ.n ps)≤1048576):
  Calls Tryz.prog 49 #[v,.int .i64 n] w fun e w'=>∃v' qs,e=.returned v'∧qs.map TxnQ.e=defL (ps.map InstQ.e) n∧txnK.Own w' v' qs∧(txnK.fp v' qs).Nodup∧(∀k∈txnK.fp v' qs,w.heap.size≤k)∧Below w.heap.size w w':=by
 obtain⟨a,cap,rfl⟩:=h.shape;obtain⟨i0,hi,hz0,hz1,hz2⟩:=info_parts z1q;have ho:=World.ownsRow_lit (e:=44) (size:=4) w #[] 0 (Nat.le_refl _) (by decide) rfl;have hn1:txnK.Own (w.alloc (.cells #[] 44)) (.slice (some ⟨w.heap.size,0,none⟩) 0 0) ([]:List TxnQ):=⟨(z0U ho).1,fun p hp=>by simp at hp⟩
 have hb0:Below w.heap.size w (w.alloc (.cells #[] 44)):=by go_grown
 have HN0:Hid ((txnK.fp (.slice (some ⟨w.heap.size,0,none⟩) 0 0) ([]:List TxnQ)).Nodup∧∀k∈txnK.fp (.slice (some ⟨w.heap.size,0,none⟩) 0 0) ([]:List TxnQ),w.heap.size≤k):=by
  refine⟨?_,?_⟩
  ·simp[Kind.fp,blk,Value.ownBlock]
  ·simp[Kind.fp,blk,Value.ownBlock]
 clear ho;have HE0:Hid (([]:List TxnQ).map TxnQ.e=defL (ps.map InstQ.e) 0):=by show _=_;simp[defL,z2D,onc]
 have HL0:Hid (([]:List TxnQ).length≤4*0):=by show _≤_;simp
 go_enter Tryz.func49,Tryz.ntmps49
 go_wp2
 go_loopw[5,6] (fun v j wr=>∃ (k:Nat) (qs:List TxnQ),k≤n∧j=.int .i64 k∧Hid (qs.map TxnQ.e=defL (ps.map InstQ.e) k)∧Hid (qs.length≤4*k)∧txnK.Own wr v qs∧Hid ((txnK.fp v qs).Nodup∧∀k∈txnK.fp v qs,w.heap.size≤k)∧Below w.heap.size w wr) (fun _ j _=>n-(intOf j).toNat)
 case atStart=>exact⟨0,[],Nat.zero_le _,rfl,HE0,HL0,hn1,HN0,hb0⟩
 case round=>
  clear HN0 hn1 hb0 HE0 HL0;obtain⟨k,qs,hk,rfl,HE,HL,hO,HN,hb⟩:=hrel;obtain⟨sa,sc,rfl⟩:=hO.shape;by_cases hlt:k<n
  ·have hltp:k<ps.length:=by omega
   have HT:=z31 (ps.map InstQ.e) k (by simpa using hltp);rw[z3Y ps k hltp]at HT;have HT1:Hid (outV ps[k].dec≠1→defL (ps.map InstQ.e) (k+1)=defL (ps.map InstQ.e) k):=fun hx=>by
    unfold defL;rw[HT,if_neg (show¬outV (InstQ.e ps[k]).dec=1 from hx),List.append_nil]
   have HT2:Hid (outV ps[k].dec=1→∀m,onc (defL (ps.map InstQ.e) k) ((ps[k].batch.map TxnQ.e).take m)=onc [] (z2D ((ps.map InstQ.e).take k)++(ps[k].batch.map TxnQ.e).take m)):=fun _ m=>by
    rw[z1e];rfl
   have HT3:Hid (outV ps[k].dec=1→defL (ps.map InstQ.e) (k+1)=onc (defL (ps.map InstQ.e) k) (ps[k].batch.map TxnQ.e)):=fun hx=>by
    unfold defL;rw[HT,if_pos (show outV (InstQ.e ps[k]).dec=1 from hx),z1e];rfl
   clear HT;obtain⟨b,off,rfl,hbs,hP⟩:=z4R h k hltp;have hnk:InstQ.n ps[k]≤1048576:=by have:=z4w ps k hltp;omega
   have hho:=z0L b (off+k*4) ps[k] wr (hP.below hb) hnk;have hbs':b<wr.heap.size:=Nat.lt_of_lt_of_le hbs hb.size;have hlow1:=hlow _ (List.getElem_mem hltp);have hb4:=hbat _ (List.getElem_mem hltp);generalize outV ps[k].dec=OV at*;have hlti:(k:Int)<(n:Int):=by omega
   have hltpi:(k:Int)<(ps.length:Int):=by omega
   go_wp2_with fail
   refine hho.mono ?_;rintro e w' ⟨rfl,hw⟩;replace hw:=hw.symm;subst hw;clear hho;by_cases hO1:OV=1
   case neg=>
    have e1:(OV !=1)=true:=by simpa using hO1
    have HR:Hid (qs.map TxnQ.e=defL (ps.map InstQ.e) (k+1)):=show _=_ by rw[HT1.out hO1];exact HE.out
    have HR2:Hid (qs.length≤4*(k+1)):=show _≤_ by have:=HL.out;omega
    clear HT1 HT2 HT3 HE HL hO1
    go_wp2
    go_roundw
    case rel=>exact⟨k+1,qs,by omega,by go_num,HR,HR2,hO,HN,hb⟩
    case measure=>simp[intOf];omega
   case pos=>
    have e1:(OV !=1)=false:=by simp[hO1]
    have HI:Hid (qs.map TxnQ.e=onc (defL (ps.map InstQ.e) k) ((ps[k].batch.map TxnQ.e).take 0)):=show _=_ by rw[List.take_zero];exact HE.out
    have HI2:Hid (qs.length≤4*k+0):=HL.out;have HT4:Hid (defL (ps.map InstQ.e) (k+1)=onc (defL (ps.map InstQ.e) k) (ps[k].batch.map TxnQ.e)):=HT3.out hO1;clear HT1 HT2 HT3 HE HL hO1;generalize ps[k]=p at*;obtain⟨has,vb,batch,vr,rounds,vd,dec⟩:=p;have hT:txnK.At w vb batch:=hP.batch;have cc:=(hP.below hb).box.c1;dsimp only at cc;obtain⟨ba,bk,rfl⟩:=hT.shape;dsimp only at HI HT4 hlow1 hb4;have hne:=hlow1.1;have hbn:nmL TxnQ.n batch≤1048576:=by
     have h9:=hnk;dsimp only[InstQ.n]at h9;omega
    generalize defL (ps.map InstQ.e) k=acc at*
    go_wp2
    clear cc;go_loopw[5,7] (fun v j wx=>∃ (m:Nat) (qs:List TxnQ),m≤batch.length∧j=.int .i64 m∧Hid (qs.map TxnQ.e=onc acc ((batch.map TxnQ.e).take m))∧Hid (qs.length≤4*k+m)∧txnK.Own wx v qs∧Hid ((txnK.fp v qs).Nodup∧∀k∈txnK.fp v qs,w.heap.size≤k)∧Below w.heap.size w wx) (fun _ j _=>batch.length-(intOf j).toNat)
    case atStart=>exact⟨0,qs,Nat.zero_le _,rfl,HI,HI2,hO,HN,hb⟩
    case round=>
     clear HI HI2 hO HN hb;obtain⟨m,qs,hm,rfl,HI,HI2,hO,HN,hb⟩:=hrel;obtain⟨sa,sc,rfl⟩:=hO.shape;have hP2:=hP.below hb;have c0':=hP2.box.c1;dsimp only at c0';by_cases hltm:m<batch.length
     ·have hltmi:(m:Int)<(batch.length:Int):=by omega
      have hHS:batch.length≤4:=hb4;obtain⟨b2,o2,rfl,hbs2,hc,hrd⟩:=(hT.below hb).cell (by decide) m hltm;have hc':∀j x,(txnK.cells batch[m])[j]?=some x→wr.cell? ⟨b2,o2+m*4+j,none⟩=some x:=hc;have t0:=hc' 0 (.int .i64 batch[m].i) rfl;have t1:=hc' 1 (.int .i64 batch[m].s) rfl;have t2:=hc' 2 (.int .i64 batch[m].q) rfl;have t3:=hc' 3 (batch[m].va) rfl;rw[Nat.add_zero]at t0;have hzl:=z4b TxnQ.n batch m hltm;have hpos:=hne _ (List.getElem_mem hltm);have HS:(batch.map TxnQ.e).take (m+1)=(batch.map TxnQ.e).take m++[TxnQ.e batch[m]]:=by
       rw[List.take_succ_eq_append_getElem (by simpa using hltm),List.getElem_map]
      have HK1:Hid (knw (qs.map TxnQ.e) (TxnQ.e batch[m])=true→qs.map TxnQ.e=onc acc ((batch.map TxnQ.e).take (m+1))):=fun hx=>by
       rw[HS,z6F,←HI.out,if_pos hx]
      have HK2:Hid (knw (qs.map TxnQ.e) (TxnQ.e batch[m])=false→∀p':TxnQ,p'.e=TxnQ.e batch[m]→(qs++[p']).map TxnQ.e=onc acc ((batch.map TxnQ.e).take (m+1))):=fun hx p' hp'=>by
       rw[HS,z6F,←HI.out,if_neg (by rw[hx];decide),List.map_append,List.map_singleton,hp']
      clear hc hc' HS;generalize batch[m]=p at*;obtain⟨i,s,q,va,acts⟩:=p;replace hrd:actK.At wr va acts:=hrd;replace hzl:acts.length≤nmL TxnQ.n batch:=hzl;obtain⟨aa,ac,rfl⟩:=hrd.shape;dsimp only at t0 t1 t2 t3 hpos;obtain⟨ab,ao,haa⟩:∃ab ao,aa=some ⟨ab,ao,none⟩:=by
       rcases(z2g hrd).2 with h0|⟨ab,ao,e,_⟩
       ·have:=z0D acts;rw[h0]at this;simp at this;omega
       ·exact⟨ab,ao,e⟩
      subst haa;have hcl:=z4m i s q ab ao ac acts _ (z2g hrd).2 hpos (by omega)
      go_wp2_with fail
      clear t0 t1 t2 t3 c0';have HLT:Hid (∀x∈txnK.fp (.slice sa qs.length sc) qs,x<wr.heap.size):=hO.lt;have HYS:Hid (w.heap.size≤wr.heap.size):=hb.size;refine hcl.mono ?_;rintro e w2 ⟨a2,c2,rfl,ho2,hb2⟩;replace hO:=hO.below hb2;replace hb:=hb.trans (hb2.mono hb.size);have h2s:=hb2.size;obtain⟨o2',hk2⟩:=z0U ho2;have hP':txnK.own w2 (⟨i,s,q,.slice a2 acts.length c2,acts⟩:TxnQ):=⟨o2',fun _ _=>trivial⟩
      have hPlo:∀x∈txnK.foot (⟨i,s,q,.slice a2 acts.length c2,acts⟩:TxnQ),wr.heap.size≤x:=fun x hx=>hk2 x (by rw[←z2h (.slice a2 acts.length c2) acts];exact hx)
      have hPn:(txnK.foot (⟨i,s,q,.slice a2 acts.length c2,acts⟩:TxnQ)).Nodup:=by
       show(actK.fp _ _).Nodup;rw[z2h];exact z09 _
      have hPl:=txnK.own_lt hP';have hbA:Below w2.heap.size w2 (w2.alloc (.cells #[.int .i64 i,.int .i64 s,.int .i64 q,.slice a2 acts.length c2] 44)):=by go_grown
      have Tb:=Blk.new w2 44 #[.int .i64 i,.int .i64 s,.int .i64 q,.slice a2 acts.length c2];replace hO:=hO.below hbA;replace hP':=txnK.own_out (F:=[]) hP' (Out.of_below hbA) (fun _ _=>by simp);replace hb:=hb.trans (hbA.mono hb.size);have hkn:=fun w h hB=>z6c (.slice sa qs.length sc) qs w2.heap.size 0 (TxnQ.e (⟨i,s,q,.slice a2 acts.length c2,acts⟩:TxnQ)) (.slice a2 acts.length c2) w h hB (by have:=HI2.out;omega)
      have hBx:Box4 (w2.alloc (.cells #[.int .i64 i,.int .i64 s,.int .i64 q,.slice a2 acts.length c2] 44)) w2.heap.size 0 (.int .i64 i) (.int .i64 s) (.int .i64 q) (.slice a2 acts.length c2):=⟨Tb.cell 0 _ rfl,Tb.cell 1 _ rfl,Tb.cell 2 _ rfl,Tb.cell 3 _ rfl⟩
      have hkc:=hkn _ hO.at hBx;have hKe:TxnQ.e (⟨i,s,q,.slice a2 acts.length c2,acts⟩:TxnQ)=TxnQ.e ⟨i,s,q,.slice (some ⟨ab,ao,none⟩) acts.length ac,acts⟩:=rfl;rw[hKe]at hkc;clear hcl ho2 hk2 hkn hKe hBx;generalize knw (qs.map TxnQ.e) (TxnQ.e ⟨i,s,q,.slice (some ⟨ab,ao,none⟩) acts.length ac,acts⟩)=KN at*
      go_wp2_with fail
      generalize hwA:w2.alloc (.cells #[.int .i64 i,.int .i64 s,.int .i64 q,.slice a2 acts.length c2] 44)=WA at*;clear hwA;refine hkc.mono ?_;rintro e w3 ⟨rfl,hb3⟩;replace hO:=hO.below hb3;replace hP':=txnK.own_out (F:=[]) hP' (Out.of_below hb3) (fun _ _=>by simp);replace hb:=hb.trans (hb3.mono hb.size);replace Tb:=Tb.below hb3;have h3s:=hb3.size;have hAs:=hbA.size;clear hb3 hkc
      cases KN with
      |true=>
       have HR:=HK1.out rfl;have HR':Hid _:=HR;have HR2:Hid (qs.length≤4*k+(m+1)):=show _≤_ by have:=HI2.out;omega
       clear HK1 HK2 HR HI HI2 Tb hP'
       go_wp2
       go_roundw
       case rel=>exact⟨m+1,qs,by omega,by go_num,HR',HR2,hO,HN,hb⟩
       case measure=>simp[intOf];omega
      |false=>
       have HPE:=HK2.out rfl;have HPE':Hid _:=HPE;have HQL:Hid (qs.length≤20):=show _≤_ by have:=HI2.out;omega
       have HR2:Hid (qs.length+1≤4*k+(m+1)):=show _≤_ by have:=HI2.out;omega
       have u0:=Tb.cell 0 _ rfl;have u1:=Tb.cell 1 _ rfl;have u2:=Tb.cell 2 _ rfl;have u3:=Tb.cell 3 _ rfl;have hbA3:Below w3.heap.size w3 (w3.alloc (.cells #[.int .i64 i,.int .i64 s,.int .i64 q,.slice a2 acts.length c2] 44)):=by go_grown
       have hOA:=hO.below hbA3;have hPA:=txnK.own_out (F:=[]) hP' (Out.of_below hbA3) (fun _ _=>by simp);have hbB:=hb.trans (hbA3.mono hb.size);have hYA:wr.heap.size≤(w3.alloc (.cells #[.int .i64 i,.int .i64 s,.int .i64 q,.slice a2 acts.length c2] 44)).heap.size:=by have:=hbA3.size;omega
       clear hO hP' HK1 HK2 HPE;have hrow0:=hOA.1
       go_wp2_with (at_builtin;refine wpList_append_own_at _ rfl _ _ 27 rfl 0 44 i0 (.agg #[.int .i64 0,.int .i64 0,.int .i64 0,.slice none 0 0]) 4 48 Tryz.underlying27 hi hz0 hz1 hz2 rfl (by decide) _ qs.length (txnK.row qs) rfl hrow0 ⟨w3.heap.size,0,none⟩ 1 1 [.int .i64 i,.int .i64 s,.int .i64 q,.slice a2 acts.length c2] rfl rfl ?c1 ?c2 ?c3 ?c4 ?c5 ?_)
       all_goals try(case c1=>intro j u hj;match j,hj with|0,hj=>simp at hj;subst hj;simp[Addr.add]|1,hj=>simp at hj;subst hj;simp[Addr.add]|2,hj=>simp at hj;subst hj;simp[Addr.add]|3,hj=>simp at hj;subst hj;simp[Addr.add])
       all_goals try(case c2=>intro u hu;simp at hu;rcases hu with rfl|rfl|rfl|rfl<;>rfl)
       all_goals try(case c3=>have:=HQL.out;unfold maxLen;omega)
       all_goals try(case c4=>have:=HQL.out;omega)
       all_goals try(case c5=>first|omega|simp)
       intro v' w5 hown hgrow hnil hat;clear hnil hrow0 u0 u1 u2 u3 Tb;rw[show w3.heap.size+1=(w3.alloc (.cells #[.int .i64 i,.int .i64 s,.int .i64 q,.slice a2 acts.length c2] 44)).heap.size from(World.size_alloc _ _).symm]at hat;generalize hwB:w3.alloc (.cells #[.int .i64 i,.int .i64 s,.int .i64 q,.slice a2 acts.length c2] 44)=WB at*;clear hwB;obtain⟨hO5,hn5,hlo5,hou⟩:=hOA.snoc (p:=(⟨i,s,q,.slice a2 acts.length c2,acts⟩:TxnQ)) HN.out.1 HN.out.2 hPA hPn (fun x hx hx'=>by have:=HLT.out x hx';have:=hPlo x hx;omega) (fun x hx=>by have:=hPlo x hx;have:=HYS.out;omega) hbB.size hown hgrow hat;have hb5:Below w.heap.size w w5:=Out.keep hbB hou hbB.size (fun x hx=>HN.out.2 x (by simp only[Kind.fp,List.mem_append];exact Or.inl hx));have HE5:Hid ((qs++[(⟨i,s,q,.slice a2 acts.length c2,acts⟩:TxnQ)]).map TxnQ.e=onc acc ((batch.map TxnQ.e).take (m+1))):=HPE'.out _ rfl;have HN5:Hid ((txnK.fp v' (qs++[(⟨i,s,q,.slice a2 acts.length c2,acts⟩:TxnQ)])).Nodup∧∀k∈txnK.fp v' (qs++[(⟨i,s,q,.slice a2 acts.length c2,acts⟩:TxnQ)]),w.heap.size≤k):=⟨hn5,hlo5⟩
       have HL5:Hid ((qs++[(⟨i,s,q,.slice a2 acts.length c2,acts⟩:TxnQ)]).length≤4*k+(m+1)):=show _≤_ by rw[List.length_append];exact HR2.out
       clear HPE' HN HLT HYS hPA hOA hbB hown hgrow hat hou hn5 hlo5 hrd hb hbA hbA3 hzl hpos hYA hPlo hPn hPl HI HI2 HQL HR2 hb2
       go_wp2
       go_roundw
       case rel=>exact⟨m+1,_,by omega,by go_num,HE5,HL5,hO5,HN5,hb5⟩
       case measure=>simp[intOf];omega
     ·have hme:m=batch.length:=by omega
      subst hme;have HR:Hid (qs.map TxnQ.e=defL (ps.map InstQ.e) (k+1)):=show _=_ by
       have h8:=HI.out;rw[List.take_of_length_le (by simp)]at h8;rw[HT4.out];exact h8
      have HR2:Hid (qs.length≤4*(k+1)):=show _≤_ by have:=HI2.out;omega
      clear HI HI2 HT4
      go_wp2
      go_roundw
      case rel=>exact⟨k+1,qs,by omega,by go_num,HR,HR2,hO,HN,hb⟩
      case measure=>simp[intOf];omega
  ·have hkn:k=n:=by omega
   subst hkn;have hlti:¬(k:Int)<(k:Int):=by omega
   go_wp2
   go_ret;first|exact⟨_,qs,rfl,HE.out,hO,HN.out.1,HN.out.2,hb⟩|exact⟨_,rfl,qs,HE.out,hO,HN.out.1,HN.out.2,hb⟩
def dfC(ds:List InstE)(n:Int):Int:=if ordF ds=0 then(if 0≤n∧n≤(decN ds:Int)then 0 else 3)else ordF ds
def dfT(ds:List InstE)(n:Int):List TxnD:=if dfC ds n=0 then defL ds n.toNat else []
theorem z4V(ds:List InstE)(n:Int):(ordF ds≠0∧dfC ds n=ordF ds∧dfT ds n=[])∨(ordF ds=0∧¬(0≤n∧n≤(decN ds:Int))∧dfC ds n=3∧dfT ds n=[])∨(ordF ds=0∧(0≤n∧n≤(decN ds:Int))∧dfC ds n=0∧dfT ds n=defL ds n.toNat):=by
 unfold dfT dfC;by_cases h0:ordF ds=0
 ·by_cases h1:0≤n∧n≤(decN ds:Int)
  ·right;right;refine⟨h0,h1,?_,?_⟩
   ·rw[if_pos h0,if_pos h1]
   ·rw[if_pos h0,if_pos h1,if_pos rfl]
  ·right;left;refine⟨h0,h1,?_,?_⟩
   ·rw[if_pos h0,if_neg h1]
   ·rw[if_pos h0,if_neg h1,if_neg (by decide)]
 ·left;simp[h0]
theorem q04{p:InstQ}(h:insF (InstQ.e p)=0):p.batch.length≤4:=by
 obtain⟨h0,_⟩:=z1d h;obtain⟨_,_,_,hb0,hb1⟩:=z0V h0
 cases hh:(InstQ.e p).has with
 |false=>
  have:=hb0 hh;have h2:p.batch.map TxnQ.e=[]:=this;have:p.batch=[]:=by simpa using h2
  rw[this];simp
 |true=>
  have:=hb1 hh;unfold batF at this;by_cases hl:(InstQ.e p).batch.length<1∨4<(InstQ.e p).batch.length
  ·rw[if_pos hl]at this;exact absurd this (by decide)
  ·have h2:(InstQ.e p).batch.length=p.batch.length:=by show(p.batch.map TxnQ.e).length=_;simp
   omega
theorem z2B(v:Value)(ps:List InstQ)(n:Int)(w:World)(h:instK.At w v ps)(hl:(ps.length+nmL InstQ.n ps)≤1048576):
  Calls Tryz.prog 18 #[v,.int .i64 n] w fun e w'=>∃ (v':Value) (qs:List TxnQ),e=.returned (.agg #[.int .i64 (dfC (ps.map InstQ.e) n),v'])∧qs.map TxnQ.e=dfT (ps.map InstQ.e) n∧txnK.Own w' v' qs∧(txnK.fp v' qs).Nodup∧(∀k∈txnK.fp v' qs,w.heap.size≤k)∧Below w.heap.size w w':=by
 have hof:=fun w h=>z1M v ps w h hl
 have hld:=fun w h h1 h4=>z1N v ps w h hl h1 h4
 have HO:Hid (ordF (ps.map InstQ.e)=0→1≤ps.length∧ps.length≤4∧∀q∈ps,insF (InstQ.e q)=0):=fun h0=>by
  have:=((z06 _).1 h0).1;rw[List.length_map]at this;exact⟨this.1,this.2,fun q hq=>z1L h0 _ (List.mem_map.2 ⟨q,hq,rfl⟩)⟩
 have hdd:=fun(m:Nat) w h hlow hbat hn h4=>z4f v ps m w h hlow hbat hn h4 hl
 obtain⟨a,cap,rfl⟩:=h.shape;have hw:=z4V (ps.map InstQ.e) n;have hdl:=z3X (ps.map InstQ.e);rw[List.length_map]at hdl;generalize dfC (ps.map InstQ.e) n=D at*;generalize dfT (ps.map InstQ.e) n=O at*;generalize ordF (ps.map InstQ.e)=C at*;generalize decN (ps.map InstQ.e)=M at*;have hB:Below w.heap.size w (w.alloc (.cells #[.int .i64 0,.slice none 0 0] 29)):=by go_grown
 have Rb:=Blk.new w 29 #[.int .i64 0,.slice none 0 0];go_enter Tryz.func18,Tryz.ntmps18
 go_wp2_with fail
 generalize w.alloc (.cells #[.int .i64 0,.slice none 0 0] 29)=W at*;refine(hof W (h.below hB)).mono ?_;rintro e w1 ⟨rfl,hb⟩;replace hB:=hB.trans (hb.mono hB.size);replace Rb:=Rb.below hb;clear hb hof;by_cases hC:C=0
 case neg=>
  have hC':(C !=0)=true:=by simpa using hC
  have E1:Hid (D=C∧O=[]):=by
   rcases hw with⟨_,e1,e2⟩|⟨h1,_⟩|⟨h1,_⟩
   ·exact⟨e1,e2⟩
   ·exact absurd h1 hC
   ·exact absurd h1 hC
  clear hw HO hC;have q0:=Rb.cell 0 _ rfl;have q1:=Rb.cell 1 _ rfl;have f0:=Rb.frozen 0;have f1:=Rb.frozen 1;obtain⟨hn1,hn2⟩:=Kind.own_nil (K:=txnK) w;clear hn1
  go_wp2
  exact bodyPost_ret (v:=.agg #[.int .i64 C,.slice none 0 0]) (by simp[results,Tryz.results18,go_sem,q0,q1]) rfl ⟨.slice none 0 0,[],by rw[E1.out.1],by rw[E1.out.2];rfl,(Kind.own_nil _).1,by rw[hn2];simp,by rw[hn2];simp,(hB.setCell (p:=⟨w.heap.size,0,none⟩) (Nat.le_refl _) _).setCell (p:=⟨w.heap.size,1,none⟩) (Nat.le_refl _) _⟩
 case pos=>
 obtain⟨p1,p4,hin⟩:=HO.out hC;have hlow:(∀p∈ps,(∀t∈p.batch,0<t.acts.length)∧(∀r∈p.rounds,0<r.rep.length∧0<r.pro.length)∧0<p.dec.length):=fun q hq=>z2l (hin q hq)
 have hbat:∀p∈ps,p.batch.length≤4:=fun q hq=>q04 (hin q hq)
 subst hC;clear HO hin
 go_wp2_with fail
 refine(hld w1 (h.below hB) p1 p4).mono ?_;rintro e w2 ⟨rfl,hb⟩;replace hB:=hB.trans (hb.mono hB.size);replace Rb:=Rb.below hb;clear hb hld;have hin1:=fun w=>z0z n 0 (M:Int) w
 by_cases hr:0≤n∧n≤(M:Int)
 case neg=>
  have E1:Hid (D=3∧O=[]):=by
   rcases hw with⟨h1,_⟩|⟨_,_,e1,e2⟩|⟨_,h1,_⟩
   ·exact absurd rfl h1
   ·exact⟨e1,e2⟩
   ·exact absurd h1 hr
  have hrd:inB n 0 (M:Int)=false:=decide_eq_false hr;rw[hrd]at hin1
  go_wp2_with fail
  refine(hin1 w2).mono ?_;rintro e w' ⟨rfl,hw9⟩;replace hw9:=hw9.symm;subst hw9;clear hw hr hin1 hrd hdd;have q0:=Rb.cell 0 _ rfl;have q1:=Rb.cell 1 _ rfl;have f0:=Rb.frozen 0;have f1:=Rb.frozen 1;obtain⟨hn1,hn2⟩:=Kind.own_nil (K:=txnK) w;clear hn1
  go_wp2
  exact bodyPost_ret (v:=.agg #[.int .i64 3,.slice none 0 0]) (by simp[results,Tryz.results18,go_sem,q0,q1]) rfl ⟨.slice none 0 0,[],by rw[E1.out.1],by rw[E1.out.2];rfl,(Kind.own_nil _).1,by rw[hn2];simp,by rw[hn2];simp,(hB.setCell (p:=⟨w.heap.size,0,none⟩) (Nat.le_refl _) _).setCell (p:=⟨w.heap.size,1,none⟩) (Nat.le_refl _) _⟩
 case pos=>
  obtain⟨e1,e2⟩:D=0∧O=defL (ps.map InstQ.e) n.toNat:=by
   rcases hw with⟨h1,_⟩|⟨_,h1,_⟩|⟨_,_,e1,e2⟩
   ·exact absurd rfl h1
   ·exact absurd hr h1
   ·exact⟨e1,e2⟩
  have HC0:Hid (D=0):=e1;have hrd:inB n 0 (M:Int)=true:=decide_eq_true hr;rw[hrd]at hin1;obtain⟨m,rfl⟩:∃m:Nat,n=(m:Int):=⟨n.toNat,by omega⟩
  rw[Int.toNat_natCast]at e2;have hd1:=fun w h=>hdd m w h hlow hbat (by omega) p4
  rw[←e2]at hd1
  go_wp2_with fail
  refine(hin1 w2).mono ?_;rintro e w' ⟨rfl,hw9⟩;replace hw9:=hw9.symm;subst hw9;clear hw hin1 hrd hdd e1 e2 hlow hbat;have hlt:=Rb.lt
  go_wp2_with fail
  refine(hd1 w2 (h.below hB)).mono ?_;rintro e w5 ⟨v',Q5,rfl,HQ,hO5,hn5,hlo5,hb5⟩;obtain⟨xa,xc,rfl⟩:=hO5.shape;have R5:=Rb.below hb5;have q0:=R5.cell 0 _ rfl;have q1:=R5.cell 1 _ rfl;have f0:=R5.frozen 0;have f1:=R5.frozen 1;have HQ5:Hid (_=O):=HQ;have HFIN:Hid (∀u u',txnK.Own ((w5.setCell ⟨w.heap.size,0,none⟩ u).setCell ⟨w.heap.size,1,none⟩ u') (.slice xa Q5.length xc) Q5∧Below w.heap.size w ((w5.setCell ⟨w.heap.size,0,none⟩ u).setCell ⟨w.heap.size,1,none⟩ u')):=fun u u'=>by
   refine⟨hO5.out (((Out.refl [w.heap.size] w5).set (b:=w.heap.size) (j:=0) (u:=u) (by simp)).set (b:=w.heap.size) (j:=1) (u:=u') (by simp)) (fun k hk=>by have:=hlo5 k hk;simp only[List.mem_singleton];omega),?_⟩;have hbb:=hB.trans (hb5.mono hB.size);exact(hbb.setCell (p:=⟨w.heap.size,0,none⟩) (Nat.le_refl _) _).setCell (p:=⟨w.heap.size,1,none⟩) (Nat.le_refl _) _
  have HL5:Hid ((txnK.fp (.slice xa Q5.length xc) Q5).Nodup∧∀k∈txnK.fp (.slice xa Q5.length xc) Q5,w.heap.size≤k):=⟨hn5,fun k hk=>by have:=hlo5 k hk;omega⟩
  clear hO5 hn5 hlo5 hb5 hB Rb R5 HQ
  go_wp2
  exact bodyPost_ret (v:=.agg #[.int .i64 0,.slice xa Q5.length xc]) (by simp[results,Tryz.results18,go_sem,q0,q1]) rfl ⟨.slice xa Q5.length xc,Q5,by rw[HC0.out],HQ5.out,(HFIN.out _ _).1,HL5.out.1,HL5.out.2,(HFIN.out _ _).2⟩
theorem z2X{α:Type}{f:α→α→Bool}{g:List α→List α→Bool}(h0:g [] []=true)(h1:∀x r y s,g (x::r) (y::s)=(f x y && g r s))(hf:∀x,f x x=true):∀xs,g xs xs=true
 |[]=>h0
 |x::r=>by rw[h1,hf,z2X h0 h1 hf r];rfl
theorem z5A(xs:List ActD):sameAs xs xs=true:=z2X (f:=z1u) rfl (fun _ _ _ _=>rfl) (fun x=>by simp[z1u]) xs
theorem z3h(xs:List TxnD):sameTs xs xs=true:=z2X (f:=z07) rfl (fun _ _ _ _=>rfl) (fun x=>by simp[z07,z5A]) xs
theorem z9M(xs zs:List TxnD):preT xs (xs++zs)=true:=by
 unfold preT;rw[List.take_left']
 ·rw[z3h];simp
 ·rfl
end Go.Proofs.YtfpponhjhbfbeaaGreatDoor
