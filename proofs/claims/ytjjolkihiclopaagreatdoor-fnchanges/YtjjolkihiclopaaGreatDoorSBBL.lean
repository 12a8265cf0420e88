/- Texts joined, with what the law reaches alone. -/
import Derived.Test.YtjjolkihiclopaaGreatDoorSBBK
import Derived.Test.YtjjolkihiclopaaGreatDoorSBBE
import Derived.Test.YtjjolkihiclopaaGreatDoorSBBC
set_option linter.unusedVariables false
set_option linter.unusedSimpArgs false
namespace Go.Proofs.YtjjolkihiclopaaGreatDoor
open Go.RowKit
open Go.BigFrame
set_option maxRecDepth 100000
theorem foot_nd7 {P:Type} {K:Kind P} {v:Value} {ps:List P} (h:(K.fp v ps).Nodup) (i:Nat) (hi:i < ps.length):(K.foot ps[i]).Nodup:=by
 have e:ps=ps.take i ++ ps[i] :: ps.drop (i + 1):=by
  conv=>lhs;rw [← List.take_append_drop i ps,List.drop_eq_getElem_cons hi]
 have hA:K.fp v ps=blk v ++ ((ps.take i).flatMap K.foot ++ (K.foot ps[i] ++ (ps.drop (i + 1)).flatMap K.foot)):=by
  conv=>lhs;rw [e]
  simp only [Kind.fp,List.flatMap_append,List.flatMap_cons]
 rw [hA] at h
 simp only [List.nodup_append] at h
 exact h.2.1.2.1.1

/-- What is known between the draws: the list, the box g of the last one, the result's box, the source. -/
structure DcI (w wr:World) (b g T:Nat) (v:Value) (ps:List InstQ) (q:InstQ):Prop where
 s:Src w.heap.size wr b T
 wb:w.heap.size < b
 bg:b < g
 o:instK.Own wr v ps
 nd:(instK.fp v ps).Nodup
 lo:∀ k∈instK.fp v ps,b < k∧k≠g
 r:Blk wr w.heap.size 49 #[.bool false,.slice none 0 0,.slice none 0 0,.slice none 0 0]
 x:Blk wr g 49 #[.bool q.has,q.vb,q.vr,q.vd]
 oq:instK.own wr q
 nq:(instK.foot q).Nodup
 lq:∀ k∈instK.foot q,b < k∧k≠g
 bel:Below w.heap.size w wr

theorem DcI.below {w wr wr' : World} {b g T:Nat} {v:Value} {ps:List InstQ} {q:InstQ} (h:DcI w wr b g T v ps q) (hb:Below wr.heap.size wr wr'):DcI w wr' b g T v ps q:=
 ⟨h.s.below hb,h.wb,h.bg,h.o.below hb,h.nd,h.lo,h.r.below hb,h.x.below hb,instK.own_out (F:=[]) h.oq (Out.of_below hb) (fun _ _=>by simp),h.nq,h.lq,h.bel.trans (hb.mono h.bel.size)⟩

theorem DcI.grown {w wr wr' : World} {b g T T' : Nat} {v:Value} {ps:List InstQ} {q:InstQ} (h:DcI w wr b g T v ps q) (hg:wr.grownBy wr' (some b)) (hs:Src w.heap.size wr' b T'):DcI w wr' b g T' v ps q:=by
 have hU:Out [b] wr wr' := Out.of_grown hg
 have h1:=h.wb
 have h2:=h.bg
 exact ⟨hs,h.wb,h.bg,h.o.out hU (fun k hk hk' => by simp only [List.mem_singleton] at hk';have:=h.lo k hk;omega),h.nd,h.lo,h.r.outs hU (fun hk=>by simp only [List.mem_singleton] at hk;omega),h.x.outs hU (fun hk=>by simp only [List.mem_singleton] at hk;omega),instK.own_out h.oq hU (fun k hk hk' => by simp only [List.mem_singleton] at hk';have:=h.lq k hk;omega),h.nq,h.lq,Out.keep h.bel hU h.bel.size (fun k hk=>by simp only [List.mem_singleton] at hk;omega)⟩

theorem DcI.store {w wr:World} {b g T:Nat} {v:Value} {ps:List InstQ} {q:InstQ} (h:DcI w wr b g T v ps q) (q' : InstQ) (oq:instK.own wr q') (nq:(instK.foot q').Nodup) (lq:∀ k∈instK.foot q',b < k∧k≠g):DcI w (wr.setRow g #[.bool q'.has,q'.vb,q'.vr,q'.vd]) b g T v ps q' := by
 have hU:=out_row wr g #[.bool q'.has,q'.vb,q'.vr,q'.vd]
 have h1:=h.wb
 have h2:=h.bg
 exact ⟨h.s.out hU (fun hk=>by simp only [List.mem_singleton] at hk;omega) (fun k hk=>by simp only [List.mem_singleton] at hk;omega),h.wb,h.bg,h.o.out hU (fun k hk hk' => by simp only [List.mem_singleton] at hk';have:=h.lo k hk;omega),h.nd,h.lo,h.r.outs hU (fun hk=>by simp only [List.mem_singleton] at hk;omega),h.x.row _,instK.own_out oq hU (fun k hk hk' => by simp only [List.mem_singleton] at hk';have:=lq k hk;omega),nq,lq,Out.keep h.bel hU h.bel.size (fun k hk=>by simp only [List.mem_singleton] at hk;omega)⟩

theorem DcI.fin {w wr wr' : World} {b g T:Nat} {v:Value} {ps:List InstQ} {q:InstQ} (h:DcI w wr b g T v ps q) (hU:Out [w.heap.size] wr wr'):instK.Own wr' v ps∧instK.own wr' q∧Below w.heap.size w wr' := by
 have h1:=h.wb
 exact ⟨h.o.out hU (fun k hk hk' => by simp only [List.mem_singleton] at hk';have:=h.lo k hk;omega),instK.own_out h.oq hU (fun k hk hk' => by simp only [List.mem_singleton] at hk';have:=h.lq k hk;omega),Out.keep h.bel hU h.bel.size (fun k hk=>by simp only [List.mem_singleton] at hk;omega)⟩

set_option maxRecDepth 100000 in
set_option maxHeartbeats 8000000 in
theorem drawChangeLast_any (a:Option Addr) (cap:Nat) (zs:List Int) (w:World) (h:Row .u8 w a zs) (hu:∀ i,0≤zs.getD i 0∧zs.getD i 0≤255) (hl:zs.length≤1048576) :
  Calls Tryz.prog 22 #[.slice a zs.length cap] w fun e w' => ∃ (v:Value) (ps:List InstQ) (q:InstQ),e=.returned (.tuple #[v,.agg #[.bool q.has,q.vb,q.vr,q.vd]])∧ps.length≤5∧(∀ p∈ps,InstQ.n p≤1000)∧InstQ.n q≤1000∧instK.Own w' v ps∧instK.own w' q∧Below w.heap.size w w' := by
 have hb0:Below w.heap.size w (w.alloc (.cells #[.bool false,.slice none 0 0,.slice none 0 0,.slice none 0 0] 49)):=by go_grown
 have R0:=Blk.new w 49 #[.bool false,.slice none 0 0,.slice none 0 0,.slice none 0 0]
 have hW1:w.heap.size < (w.alloc (.cells #[.bool false,.slice none 0 0,.slice none 0 0,.slice none 0 0] 49)).heap.size:=by simp
 have hby:∀ i,i < zs.length→∃ b' off,a=some ⟨b',off,none⟩∧b' < w.heap.size∧(w.alloc (.cells #[.bool false,.slice none 0 0,.slice none 0 0,.slice none 0 0] 49)).cell? ⟨b',off + i,none⟩=some (.int .u8 (zs.getD i 0)):=fun i hi=>by
  obtain ⟨b',off,e1,e2,e3⟩:=h i hi
  exact ⟨b',off,e1,e2,cellB e3 hb0⟩
 go_enter Tryz.func22,Tryz.ntmps22
 go_wp2_with fail
 generalize w.alloc (.cells #[.bool false,.slice none 0 0,.slice none 0 0,.slice none 0 0] 49)=W at *
 refine (source_any w.heap.size a cap zs W hb0.size hl hu hby).mono ?_
 rintro e x1 ⟨rfl,hS,hb1⟩
 replace R0:=R0.below hb1
 replace hb0:=hb0.trans (hb1.mono hb0.size)
 generalize hbb:W.heap.size=b at *
 clear hb1 hby hbb h hu hl
 go_wp2_with fail
 refine (l7Bent_any w.heap.size b 0 x1 hS (by omega)).mono ?_
 rintro e x2 ⟨v,ps,rfl,h5,hpn,hO,hnd,hlo,hSn,hgn⟩
 have hx1:=hS.lt
 have hU:Out [b] x1 x2:=Out.of_grown hgn
 have hs2:=hgn.size
 replace R0:=R0.outs hU (fun hk=>by simp only [List.mem_singleton] at hk;omega)
 replace hb0:=Out.keep hb0 hU hb0.size (fun k hk=>by simp only [List.mem_singleton] at hk;omega)
 replace hS:=hSn
 have HPN:Hid (ps.length≤5∧∀ p∈ps,InstQ.n p≤1000):=⟨h5,hpn⟩
 have HLO:Hid ((instK.fp v ps).Nodup∧∀ k∈instK.fp v ps,b < k):=⟨hnd,fun k hk=>by have:=hlo k hk;omega⟩
 clear hSn hgn hU hpn hnd hlo
 obtain ⟨va,vc,rfl⟩:=hO.shape
 obtain ⟨n,HNL⟩:∃ n,Hid (ps.length=n):=⟨_,rfl⟩
 have hn5:n≤5:=by have:=HNL.out;omega
 rw [HNL.out] at hO HLO ⊢
 clear h5
 go_wp2_with fail
 refine (l6Bent_any w.heap.size b (0 + 15000) x2 hS (by omega)).mono ?_
 rintro e x3 ⟨q,rfl,hn,oq,nq,gq,hSn,hgn⟩
 have hU:Out [b] x2 x3:=Out.of_grown hgn
 have hs3:=hgn.size
 replace R0:=R0.outs hU (fun hk=>by simp only [List.mem_singleton] at hk;omega)
 replace hb0:=Out.keep hb0 hU hb0.size (fun k hk=>by simp only [List.mem_singleton] at hk;omega)
 replace hO:=hO.out hU (fun k hk hk' => by simp only [List.mem_singleton] at hk';have:=HLO.out.2 k hk;omega)
 replace hS:=hSn
 have hm:=instK.own_lt oq
 have hmO:=hO.lt
 clear hSn hgn hU
 obtain ⟨ch,cb,cbs,cr,crs,cd,cds⟩:=q
 obtain ⟨c1,c4,rfl⟩:∃ a c,cb=.slice a cbs.length c:=oq.1.shape
 obtain ⟨c2,c5,rfl⟩:∃ a c,cr=.slice a crs.length c:=oq.2.1.shape
 obtain ⟨c3,c6,rfl⟩:∃ a c,cd=.slice a cds.length c:=oq.2.2.shape
 have hbA:Below x3.heap.size x3 (x3.alloc (.cells #[.bool ch,.slice c1 cbs.length c4,.slice c2 crs.length c5,.slice c3 cds.length c6] 49)):=by go_grown
 have HI:Hid (DcI w (x3.alloc (.cells #[.bool ch,.slice c1 cbs.length c4,.slice c2 crs.length c5,.slice c3 cds.length c6] 49)) b x3.heap.size (0 + 15000 + 2600) (.slice va n vc) ps (⟨ch,.slice c1 cbs.length c4,cbs,.slice c2 crs.length c5,crs,.slice c3 cds.length c6,cds⟩:InstQ)):=
  ⟨hS.below hbA,hW1,by omega,hO.below hbA,HLO.out.1,fun k hk=>by have:=HLO.out.2 k hk;have:=hmO k hk;omega,R0.below hbA,Blk.new x3 49 #[.bool ch,.slice c1 cbs.length c4,.slice c2 crs.length c5,.slice c3 cds.length c6],instK.own_out (F:=[]) oq (Out.of_below hbA) (fun _ _=>by simp),nq,fun k hk=>by have:=gq k hk;have:=hm k hk;omega,hb0.trans (hbA.mono hb0.size)⟩
 have HQN:Hid (InstQ.n (⟨ch,.slice c1 cbs.length c4,cbs,.slice c2 crs.length c5,crs,.slice c3 cds.length c6,cds⟩:InstQ)≤1000):=hn
 have hbg:b < x3.heap.size:=by omega
 clear hS R0 hO HLO oq nq gq hm hmO hb0 hbA hn hx1 hs2 hs3
 cases n with
 | zero=>
  go_wp2_with fail
  generalize x3.heap.size=g at *
  generalize x3.alloc (.cells #[.bool ch,.slice c1 cbs.length c4,.slice c2 crs.length c5,.slice c3 cds.length c6] 49)=X at *
  have k0:=lato_cell (F:=[w.heap.size]) (HI.out.x.cell 0 _ rfl) (by simp only [List.mem_singleton];omega)
  have k1:=lato_cell (F:=[w.heap.size]) (HI.out.x.cell 1 _ rfl) (by simp only [List.mem_singleton];omega)
  have k2:=lato_cell (F:=[w.heap.size]) (HI.out.x.cell 2 _ rfl) (by simp only [List.mem_singleton];omega)
  have k3:=lato_cell (F:=[w.heap.size]) (HI.out.x.cell 3 _ rfl) (by simp only [List.mem_singleton];omega)
  dsimp only at k0 k1 k2 k3
  try go_wp2_with fail
  try simp only [Act.put]
  refine region_vals [some 34,some 35,some 2] (fun vs w' => (vs=[(.slice va 0 vc),.agg #[.bool ch,.slice c1 cbs.length c4,.slice c2 crs.length c5,.slice c3 cds.length c6],(.slice va 0 vc)])∧Blk w' w.heap.size 49 #[.bool ch,.slice c1 cbs.length c4,.slice c2 crs.length c5,.slice c3 cds.length c6]∧Out [w.heap.size] X w') ?_ ?_
  ·have hW:Below X.heap.size X X.drew:=(Below.refl _ _).drew
   have hnn:Nonempty (LatO [w.heap.size] X):=⟨⟨X,Out.refl _ _⟩⟩
   have hnw:∀ w',Below X.heap.size X w' → ∃ u:LatO [w.heap.size] X,w' = u.val:=fun w' hw' => ⟨⟨w',Out.of_below hw'⟩,rfl⟩
   refine text_begin (S:=fun w' => ∃ u:LatO [w.heap.size] X,w' = u.val) (by kernel_rfl) ?_
   refine seg_range [(0,3)] 1 (by kernel_rfl) (by kernel_rfl) (by kernel_rfl) (by kernel_rfl) (by kernel_rfl) (hnw _ hW) ?_
   simp only [pickR,List.toList_toArray,List.flatMap_cons,List.flatMap_nil,List.drop_succ_cons,List.drop_zero,List.take_succ_cons,List.take_zero,List.cons_append,List.nil_append,List.append_nil]
   repeat go_big_quiet_step (fail)
   refine wpQuiet_nil ?_
   refine one_at 3 _ 0 (by kernel_rfl) rfl (by kernel_rfl) ?_
   have Rx:=HI.out.r.below hW
   have Rr:=Rx.row #[.bool ch,.slice c1 cbs.length c4,.slice c2 crs.length c5,.slice c3 cds.length c6]
   have hsr:(Tryz.prog.info? 49).map (·.size)=some (#[.bool ch,.slice c1 cbs.length c4,.slice c2 crs.length c5,.slice c3 cds.length c6]:Array Value).size:=sz_inst
   have uz:Out [w.heap.size] X (X.drew.setRow w.heap.size #[.bool ch,.slice c1 cbs.length c4,.slice c2 crs.length c5,.slice c3 cds.length c6]):=(Out.of_below hW).trans (out_row _ w.heap.size #[.bool ch,.slice c1 cbs.length c4,.slice c2 crs.length c5,.slice c3 cds.length c6])
   refine st_row (by kernel_rfl) 49 _ _ rfl _ #[.bool ch,.slice c1 cbs.length c4,.slice c2 crs.length c5,.slice c3 cds.length c6] rfl rfl 49 _ Rx hsr rfl (by simp [Value.oneCell']) ?_
   refine ThenGo.to ⟨⟨⟨_,uz⟩,rfl⟩,?_⟩
   try simp only [Act.put,List.getElem_toArray,List.getElem_cons_succ,List.getElem_cons_zero,List.setIfInBounds_toArray,List.set_cons_zero,List.set_cons_succ]
   refine text_end (by kernel_rfl) ?_
   refine ⟨rfl,_,⟨rfl,Rr,uz⟩,?_⟩
   simp only [putAll,Act.put,List.getElem_toArray,List.getElem_cons_succ,List.getElem_cons_zero,List.setIfInBounds_toArray,List.set_cons_zero,List.set_cons_succ]
   try rfl
  rintro vs X6 ⟨rfl,Rr,uX⟩
  simp only [putAll,Act.put,List.setIfInBounds_toArray,List.set_cons_zero,List.set_cons_succ]
  have HB6:Hid (_∧_∧_):=HI.out.fin uX
  have q0:=Rr.cell 0 _ rfl
  have q1:=Rr.cell 1 _ rfl
  have q2:=Rr.cell 2 _ rfl
  have q3:=Rr.cell 3 _ rfl
  clear uX k0 k1 k2 k3 HI
  go_wp2
  exact bodyPost_ret (v:=.tuple #[(.slice va 0 vc),.agg #[.bool ch,.slice c1 cbs.length c4,.slice c2 crs.length c5,.slice c3 cds.length c6]]) (by simp [results,Tryz.results22,go_sem,q0,q1,q2,q3]) rfl ⟨(.slice va 0 vc),ps,(⟨ch,.slice c1 cbs.length c4,cbs,.slice c2 crs.length c5,crs,.slice c3 cds.length c6,cds⟩:InstQ),rfl,HPN.out.1,HPN.out.2,HQN.out,HB6.out.1,HB6.out.2.1,HB6.out.2.2⟩
 | succ m=>
  have hmi:(m:Int) < ((m + 1:Nat):Int):=by omega
  have hm4:(m:Int)≤4:=by omega
  have hm00:(0:Int)≤(m:Int):=by omega
  have hmp:(0:Int) < ((m + 1:Nat):Int):=by omega
  go_wp2_with fail
  generalize x3.heap.size=g at *
  generalize x3.alloc (.cells #[.bool ch,.slice c1 cbs.length c4,.slice c2 crs.length c5,.slice c3 cds.length c6] 49)=X at *
  refine (chance7_any w.heap.size b (0 + 15000 + 2600) 4 X HI.out.s (by omega) (by omega)).mono ?_
  rintro e x5 ⟨tt,rfl,hS5,hg5⟩
  replace HI:Hid (DcI w x5 b g _ (.slice va (m + 1) vc) ps (⟨ch,.slice c1 cbs.length c4,cbs,.slice c2 crs.length c5,crs,.slice c3 cds.length c6,cds⟩:InstQ)):=HI.out.grown hg5 hS5
  clear hS5 hg5
  cases tt with
  | true=>
   have k0:=lato_cell (F:=[w.heap.size]) (HI.out.x.cell 0 _ rfl) (by simp only [List.mem_singleton];omega)
   have k1:=lato_cell (F:=[w.heap.size]) (HI.out.x.cell 1 _ rfl) (by simp only [List.mem_singleton];omega)
   have k2:=lato_cell (F:=[w.heap.size]) (HI.out.x.cell 2 _ rfl) (by simp only [List.mem_singleton];omega)
   have k3:=lato_cell (F:=[w.heap.size]) (HI.out.x.cell 3 _ rfl) (by simp only [List.mem_singleton];omega)
   dsimp only at k0 k1 k2 k3
   try go_wp2_with fail
   try simp only [Act.put]
   refine region_vals [some 34,some 35,some 2] (fun vs w' => (vs=[(.slice va (m + 1) vc),.agg #[.bool ch,.slice c1 cbs.length c4,.slice c2 crs.length c5,.slice c3 cds.length c6],(.slice va (m + 1) vc)])∧Blk w' w.heap.size 49 #[.bool ch,.slice c1 cbs.length c4,.slice c2 crs.length c5,.slice c3 cds.length c6]∧Out [w.heap.size] x5 w') ?_ ?_
   ·have hW:Below x5.heap.size x5 x5.drew:=(Below.refl _ _).drew
    have hnn:Nonempty (LatO [w.heap.size] x5):=⟨⟨x5,Out.refl _ _⟩⟩
    have hnw:∀ w',Below x5.heap.size x5 w' → ∃ u:LatO [w.heap.size] x5,w' = u.val:=fun w' hw' => ⟨⟨w',Out.of_below hw'⟩,rfl⟩
    refine text_begin (S:=fun w' => ∃ u:LatO [w.heap.size] x5,w' = u.val) (by kernel_rfl) ?_
    refine seg_range [(0,3)] 1 (by kernel_rfl) (by kernel_rfl) (by kernel_rfl) (by kernel_rfl) (by kernel_rfl) (hnw _ hW) ?_
    simp only [pickR,List.toList_toArray,List.flatMap_cons,List.flatMap_nil,List.drop_succ_cons,List.drop_zero,List.take_succ_cons,List.take_zero,List.cons_append,List.nil_append,List.append_nil]
    repeat go_big_quiet_step (fail)
    refine wpQuiet_nil ?_
    refine one_at 3 _ 0 (by kernel_rfl) rfl (by kernel_rfl) ?_
    have Rx:=HI.out.r.below hW
    have Rr:=Rx.row #[.bool ch,.slice c1 cbs.length c4,.slice c2 crs.length c5,.slice c3 cds.length c6]
    have hsr:(Tryz.prog.info? 49).map (·.size)=some (#[.bool ch,.slice c1 cbs.length c4,.slice c2 crs.length c5,.slice c3 cds.length c6]:Array Value).size:=sz_inst
    have uz:Out [w.heap.size] x5 (x5.drew.setRow w.heap.size #[.bool ch,.slice c1 cbs.length c4,.slice c2 crs.length c5,.slice c3 cds.length c6]):=(Out.of_below hW).trans (out_row _ w.heap.size #[.bool ch,.slice c1 cbs.length c4,.slice c2 crs.length c5,.slice c3 cds.length c6])
    refine st_row (by kernel_rfl) 49 _ _ rfl _ #[.bool ch,.slice c1 cbs.length c4,.slice c2 crs.length c5,.slice c3 cds.length c6] rfl rfl 49 _ Rx hsr rfl (by simp [Value.oneCell']) ?_
    refine ThenGo.to ⟨⟨⟨_,uz⟩,rfl⟩,?_⟩
    try simp only [Act.put,List.getElem_toArray,List.getElem_cons_succ,List.getElem_cons_zero,List.setIfInBounds_toArray,List.set_cons_zero,List.set_cons_succ]
    refine text_end (by kernel_rfl) ?_
    refine ⟨rfl,_,⟨rfl,Rr,uz⟩,?_⟩
    simp only [putAll,Act.put,List.getElem_toArray,List.getElem_cons_succ,List.getElem_cons_zero,List.setIfInBounds_toArray,List.set_cons_zero,List.set_cons_succ]
    try rfl
   rintro vs X6 ⟨rfl,Rr,uX⟩
   simp only [putAll,Act.put,List.setIfInBounds_toArray,List.set_cons_zero,List.set_cons_succ]
   have HB6:Hid (_∧_∧_):=HI.out.fin uX
   have q0:=Rr.cell 0 _ rfl
   have q1:=Rr.cell 1 _ rfl
   have q2:=Rr.cell 2 _ rfl
   have q3:=Rr.cell 3 _ rfl
   clear uX k0 k1 k2 k3 HI
   go_wp2
   exact bodyPost_ret (v:=.tuple #[(.slice va (m + 1) vc),.agg #[.bool ch,.slice c1 cbs.length c4,.slice c2 crs.length c5,.slice c3 cds.length c6]]) (by simp [results,Tryz.results22,go_sem,q0,q1,q2,q3]) rfl ⟨(.slice va (m + 1) vc),ps,(⟨ch,.slice c1 cbs.length c4,cbs,.slice c2 crs.length c5,crs,.slice c3 cds.length c6,cds⟩:InstQ),rfl,HPN.out.1,HPN.out.2,HQN.out,HB6.out.1,HB6.out.2.1,HB6.out.2.2⟩
  | false=>
   have hlt:m < ps.length:=by have:=HNL.out;omega
   have hO:=HI.out.o
   obtain ⟨g0,rfl⟩:=hO.blkOf (by omega)
   have o5:=hO.2 ps[m] (List.getElem_mem hlt)
   have n5:=foot_nd7 HI.out.nd m hlt
   have l5:∀ k∈instK.foot ps[m],b < k∧k≠g:=fun k hk=>HI.out.lo k (by simp only [Kind.fp,List.mem_append];exact Or.inr (List.mem_flatMap.2 ⟨_,List.getElem_mem hlt,hk⟩))
   have hn5' : InstQ.n ps[m]≤1000:=HPN.out.2 _ (List.getElem_mem hlt)
   obtain ⟨d0,_⟩:=hO.cell m hlt 0 (.bool ps[m].has) rfl
   obtain ⟨d1,_⟩:=hO.cell m hlt 1 ps[m].vb rfl
   obtain ⟨d2,_⟩:=hO.cell m hlt 2 ps[m].vr rfl
   obtain ⟨d3,_⟩:=hO.cell m hlt 3 ps[m].vd rfl
   have hkk:∀ j,m * instK.size + j=m * 4 + j:=fun j=>rfl
   rw [hkk] at d0 d1 d2 d3
   rw [Nat.add_zero] at d0
   generalize ps[m]=q5 at *
   obtain ⟨fh,fb,fbs,fr,frs,fd,fds⟩:=q5
   obtain ⟨f1,f4,rfl⟩:∃ a c,fb=.slice a fbs.length c:=o5.1.shape
   obtain ⟨f2,f5,rfl⟩:∃ a c,fr=.slice a frs.length c:=o5.2.1.shape
   obtain ⟨f3,f6,rfl⟩:∃ a c,fd=.slice a fds.length c:=o5.2.2.shape
   dsimp only at d0 d1 d2 d3
   have Bx:=HI.out.x
   have hsr:(Tryz.prog.info? 49).map (·.size)=some (#[.bool fh,.slice f1 fbs.length f4,.slice f2 frs.length f5,.slice f3 fds.length f6]:Array Value).size:=sz_inst
   replace HI:Hid (DcI w (x5.setRow g #[.bool fh,.slice f1 fbs.length f4,.slice f2 frs.length f5,.slice f3 fds.length f6]) b g _ (.slice (some ⟨g0,0,none⟩) (m + 1) vc) ps (⟨fh,.slice f1 fbs.length f4,fbs,.slice f2 frs.length f5,frs,.slice f3 fds.length f6,fds⟩:InstQ)):=HI.out.store (⟨fh,.slice f1 fbs.length f4,fbs,.slice f2 frs.length f5,frs,.slice f3 fds.length f6,fds⟩:InstQ) o5 n5 l5
   replace HQN:Hid (InstQ.n (⟨fh,.slice f1 fbs.length f4,fbs,.slice f2 frs.length f5,frs,.slice f3 fds.length f6,fds⟩:InstQ)≤1000):=hn5'
   clear o5 n5 l5 hn5' hO hkk
   go_wp2_with (first | (refine st_row (by kernel_rfl) 49 _ _ rfl _ #[.bool fh,.slice f1 fbs.length f4,.slice f2 frs.length f5,.slice f3 fds.length f6] rfl rfl 49 _ Bx hsr rfl (by simp [Value.oneCell']) ?_))
   clear Bx hsr d0 d1 d2 d3
   generalize x5.setRow g #[.bool fh,.slice f1 fbs.length f4,.slice f2 frs.length f5,.slice f3 fds.length f6]=X5 at *
   have hf:=l6Fault_any g 0 (⟨fh,.slice f1 fbs.length f4,fbs,.slice f2 frs.length f5,frs,.slice f3 fds.length f6,fds⟩:InstQ) X5 (⟨⟨HI.out.x.cell 0 _ rfl,HI.out.x.cell 1 _ rfl,HI.out.x.cell 2 _ rfl,HI.out.x.cell 3 _ rfl⟩,instK.own_rd HI.out.oq⟩:InstP _ g 0 (⟨fh,.slice f1 fbs.length f4,fbs,.slice f2 frs.length f5,frs,.slice f3 fds.length f6,fds⟩:InstQ)) (by have:=HQN.out;omega)
   generalize hE:insF (InstQ.e (⟨fh,.slice f1 fbs.length f4,fbs,.slice f2 frs.length f5,frs,.slice f3 fds.length f6,fds⟩:InstQ))=E at hf
   have HE:Hid (insF (InstQ.e (⟨fh,.slice f1 fbs.length f4,fbs,.slice f2 frs.length f5,frs,.slice f3 fds.length f6,fds⟩:InstQ))=E):=hE
   clear hE
   go_wp2_with fail
   refine hf.mono ?_
   rintro e w7 ⟨rfl,hb7⟩
   replace HI:Hid (DcI w w7 b g _ (.slice (some ⟨g0,0,none⟩) (m + 1) vc) ps (⟨fh,.slice f1 fbs.length f4,fbs,.slice f2 frs.length f5,frs,.slice f3 fds.length f6,fds⟩:InstQ)):=HI.out.below hb7
   clear hb7 hf
   by_cases hz7:E=0
   ·have hi7:=HE.out.trans hz7
    subst hz7
    have k0:=HI.out.x.cell 0 _ rfl
    have k1:=HI.out.x.cell 1 _ rfl
    have k2:=HI.out.x.cell 2 _ rfl
    have k3:=HI.out.x.cell 3 _ rfl
    dsimp only at k0 k1 k2 k3
    clear HE
    go_wp2_with fail
    clear k0 k1 k2 k3
    refine (l6Turn_any w.heap.size b _ (⟨fh,.slice f1 fbs.length f4,fbs,.slice f2 frs.length f5,frs,.slice f3 fds.length f6,fds⟩:InstQ) w7 HI.out.s (by omega) HI.out.oq HI.out.nq hi7 (fun hk=>by have:=HI.out.lq b hk;omega)).mono ?_
    rintro e w8 ⟨q8,rfl,i8,o8,n8,g8,hS8,hgn8⟩
    have hgl:=HI.out.x.lt
    have hbl:=HI.out.s.lt
    have l8:∀ k∈instK.foot q8,b < k∧k≠g:=fun k hk=>by
     rcases g8 k hk with h9 | h9
     ·exact HI.out.lq k h9
     ·omega
    replace HI:Hid (DcI w w8 b g _ (.slice (some ⟨g0,0,none⟩) (m + 1) vc) ps (⟨fh,.slice f1 fbs.length f4,fbs,.slice f2 frs.length f5,frs,.slice f3 fds.length f6,fds⟩:InstQ)):=HI.out.grown hgn8 hS8
    clear g8 hgn8 hS8 hgl hbl
    go_wp2_with fail
    refine (l6Turn_any w.heap.size b _ q8 w8 HI.out.s (by omega) o8 n8 i8 (fun hk=>by have:=l8 b hk;omega)).mono ?_
    rintro e w9 ⟨q9,rfl,i9,o9,n9,g9,hS9,hgn9⟩
    have hgl:=HI.out.x.lt
    have hbl:=HI.out.s.lt
    have l9:∀ k∈instK.foot q9,b < k∧k≠g:=fun k hk=>by
     rcases g9 k hk with h9 | h9
     ·exact l8 k h9
     ·omega
    replace HI:Hid (DcI w w9 b g _ (.slice (some ⟨g0,0,none⟩) (m + 1) vc) ps (⟨fh,.slice f1 fbs.length f4,fbs,.slice f2 frs.length f5,frs,.slice f3 fds.length f6,fds⟩:InstQ)):=HI.out.grown hgn9 hS9
    have hn9:InstQ.n q9≤1000:=by rw [inst_ne];have:=ins_small i9;omega
    clear g9 hgn9 hS9 hgl hbl o8 n8 i8 l8 i9
    obtain ⟨th,tb,tbs,tr,trs,td,tds⟩:=q9
    obtain ⟨t1,t4,rfl⟩:∃ a c,tb=.slice a tbs.length c:=o9.1.shape
    obtain ⟨t2,t5,rfl⟩:∃ a c,tr=.slice a trs.length c:=o9.2.1.shape
    obtain ⟨t3,t6,rfl⟩:∃ a c,td=.slice a tds.length c:=o9.2.2.shape
    have Bx:=HI.out.x
    have hsr:(Tryz.prog.info? 49).map (·.size)=some (#[.bool th,.slice t1 tbs.length t4,.slice t2 trs.length t5,.slice t3 tds.length t6]:Array Value).size:=sz_inst
    replace HI:Hid (DcI w (w9.setRow g #[.bool th,.slice t1 tbs.length t4,.slice t2 trs.length t5,.slice t3 tds.length t6]) b g _ (.slice (some ⟨g0,0,none⟩) (m + 1) vc) ps (⟨th,.slice t1 tbs.length t4,tbs,.slice t2 trs.length t5,trs,.slice t3 tds.length t6,tds⟩:InstQ)):=HI.out.store (⟨th,.slice t1 tbs.length t4,tbs,.slice t2 trs.length t5,trs,.slice t3 tds.length t6,tds⟩:InstQ) o9 n9 l9
    replace HQN:Hid (InstQ.n (⟨th,.slice t1 tbs.length t4,tbs,.slice t2 trs.length t5,trs,.slice t3 tds.length t6,tds⟩:InstQ)≤1000):=hn9
    clear o9 n9 l9 hn9
    go_wp2_with (first | (refine st_row (by kernel_rfl) 49 _ _ rfl _ #[.bool th,.slice t1 tbs.length t4,.slice t2 trs.length t5,.slice t3 tds.length t6] rfl rfl 49 _ Bx hsr rfl (by simp [Value.oneCell']) ?_))
    clear Bx hsr
    generalize w9.setRow g #[.bool th,.slice t1 tbs.length t4,.slice t2 trs.length t5,.slice t3 tds.length t6]=W9 at *
    have k0:=lato_cell (F:=[w.heap.size]) (HI.out.x.cell 0 _ rfl) (by simp only [List.mem_singleton];omega)
    have k1:=lato_cell (F:=[w.heap.size]) (HI.out.x.cell 1 _ rfl) (by simp only [List.mem_singleton];omega)
    have k2:=lato_cell (F:=[w.heap.size]) (HI.out.x.cell 2 _ rfl) (by simp only [List.mem_singleton];omega)
    have k3:=lato_cell (F:=[w.heap.size]) (HI.out.x.cell 3 _ rfl) (by simp only [List.mem_singleton];omega)
    dsimp only at k0 k1 k2 k3
    try go_wp2_with fail
    try simp only [Act.put]
    refine region_vals [some 34,some 35,some 2] (fun vs w' => (vs=[(.slice (some ⟨g0,0,none⟩) (m + 1) vc),.agg #[.bool th,.slice t1 tbs.length t4,.slice t2 trs.length t5,.slice t3 tds.length t6],(.slice (some ⟨g0,0,none⟩) (m + 1) vc)])∧Blk w' w.heap.size 49 #[.bool th,.slice t1 tbs.length t4,.slice t2 trs.length t5,.slice t3 tds.length t6]∧Out [w.heap.size] W9 w') ?_ ?_
    ·have hW:Below W9.heap.size W9 W9.drew:=(Below.refl _ _).drew
     have hnn:Nonempty (LatO [w.heap.size] W9):=⟨⟨W9,Out.refl _ _⟩⟩
     have hnw:∀ w',Below W9.heap.size W9 w' → ∃ u:LatO [w.heap.size] W9,w' = u.val:=fun w' hw' => ⟨⟨w',Out.of_below hw'⟩,rfl⟩
     refine text_begin (S:=fun w' => ∃ u:LatO [w.heap.size] W9,w' = u.val) (by kernel_rfl) ?_
     refine seg_range [(0,3)] 1 (by kernel_rfl) (by kernel_rfl) (by kernel_rfl) (by kernel_rfl) (by kernel_rfl) (hnw _ hW) ?_
     simp only [pickR,List.toList_toArray,List.flatMap_cons,List.flatMap_nil,List.drop_succ_cons,List.drop_zero,List.take_succ_cons,List.take_zero,List.cons_append,List.nil_append,List.append_nil]
     repeat go_big_quiet_step (fail)
     refine wpQuiet_nil ?_
     refine one_at 3 _ 0 (by kernel_rfl) rfl (by kernel_rfl) ?_
     have Rx:=HI.out.r.below hW
     have Rr:=Rx.row #[.bool th,.slice t1 tbs.length t4,.slice t2 trs.length t5,.slice t3 tds.length t6]
     have hsr:(Tryz.prog.info? 49).map (·.size)=some (#[.bool th,.slice t1 tbs.length t4,.slice t2 trs.length t5,.slice t3 tds.length t6]:Array Value).size:=sz_inst
     have uz:Out [w.heap.size] W9 (W9.drew.setRow w.heap.size #[.bool th,.slice t1 tbs.length t4,.slice t2 trs.length t5,.slice t3 tds.length t6]):=(Out.of_below hW).trans (out_row _ w.heap.size #[.bool th,.slice t1 tbs.length t4,.slice t2 trs.length t5,.slice t3 tds.length t6])
     refine st_row (by kernel_rfl) 49 _ _ rfl _ #[.bool th,.slice t1 tbs.length t4,.slice t2 trs.length t5,.slice t3 tds.length t6] rfl rfl 49 _ Rx hsr rfl (by simp [Value.oneCell']) ?_
     refine ThenGo.to ⟨⟨⟨_,uz⟩,rfl⟩,?_⟩
     try simp only [Act.put,List.getElem_toArray,List.getElem_cons_succ,List.getElem_cons_zero,List.setIfInBounds_toArray,List.set_cons_zero,List.set_cons_succ]
     refine text_end (by kernel_rfl) ?_
     refine ⟨rfl,_,⟨rfl,Rr,uz⟩,?_⟩
     simp only [putAll,Act.put,List.getElem_toArray,List.getElem_cons_succ,List.getElem_cons_zero,List.setIfInBounds_toArray,List.set_cons_zero,List.set_cons_succ]
     try rfl
    rintro vs X6 ⟨rfl,Rr,uX⟩
    simp only [putAll,Act.put,List.setIfInBounds_toArray,List.set_cons_zero,List.set_cons_succ]
    have HB6:Hid (_∧_∧_):=HI.out.fin uX
    have q0:=Rr.cell 0 _ rfl
    have q1:=Rr.cell 1 _ rfl
    have q2:=Rr.cell 2 _ rfl
    have q3:=Rr.cell 3 _ rfl
    clear uX k0 k1 k2 k3 HI
    go_wp2
    exact bodyPost_ret (v:=.tuple #[(.slice (some ⟨g0,0,none⟩) (m + 1) vc),.agg #[.bool th,.slice t1 tbs.length t4,.slice t2 trs.length t5,.slice t3 tds.length t6]]) (by simp [results,Tryz.results22,go_sem,q0,q1,q2,q3]) rfl ⟨(.slice (some ⟨g0,0,none⟩) (m + 1) vc),ps,(⟨th,.slice t1 tbs.length t4,tbs,.slice t2 trs.length t5,trs,.slice t3 tds.length t6,tds⟩:InstQ),rfl,HPN.out.1,HPN.out.2,HQN.out,HB6.out.1,HB6.out.2.1,HB6.out.2.2⟩
   ·have hz7' : (E == 0)=false:=beq_eq_false_iff_ne.2 hz7
    clear hz7 HE
    have k0:=lato_cell (F:=[w.heap.size]) (HI.out.x.cell 0 _ rfl) (by simp only [List.mem_singleton];omega)
    have k1:=lato_cell (F:=[w.heap.size]) (HI.out.x.cell 1 _ rfl) (by simp only [List.mem_singleton];omega)
    have k2:=lato_cell (F:=[w.heap.size]) (HI.out.x.cell 2 _ rfl) (by simp only [List.mem_singleton];omega)
    have k3:=lato_cell (F:=[w.heap.size]) (HI.out.x.cell 3 _ rfl) (by simp only [List.mem_singleton];omega)
    dsimp only at k0 k1 k2 k3
    try go_wp2_with fail
    try simp only [Act.put]
    refine region_vals [some 34,some 35,some 2] (fun vs w' => (vs=[(.slice (some ⟨g0,0,none⟩) (m + 1) vc),.agg #[.bool fh,.slice f1 fbs.length f4,.slice f2 frs.length f5,.slice f3 fds.length f6],(.slice (some ⟨g0,0,none⟩) (m + 1) vc)])∧Blk w' w.heap.size 49 #[.bool fh,.slice f1 fbs.length f4,.slice f2 frs.length f5,.slice f3 fds.length f6]∧Out [w.heap.size] w7 w') ?_ ?_
    ·have hW:Below w7.heap.size w7 w7.drew:=(Below.refl _ _).drew
     have hnn:Nonempty (LatO [w.heap.size] w7):=⟨⟨w7,Out.refl _ _⟩⟩
     have hnw:∀ w',Below w7.heap.size w7 w' → ∃ u:LatO [w.heap.size] w7,w' = u.val:=fun w' hw' => ⟨⟨w',Out.of_below hw'⟩,rfl⟩
     refine text_begin (S:=fun w' => ∃ u:LatO [w.heap.size] w7,w' = u.val) (by kernel_rfl) ?_
     refine seg_range [(0,3)] 1 (by kernel_rfl) (by kernel_rfl) (by kernel_rfl) (by kernel_rfl) (by kernel_rfl) (hnw _ hW) ?_
     simp only [pickR,List.toList_toArray,List.flatMap_cons,List.flatMap_nil,List.drop_succ_cons,List.drop_zero,List.take_succ_cons,List.take_zero,List.cons_append,List.nil_append,List.append_nil]
     repeat go_big_quiet_step (fail)
     refine wpQuiet_nil ?_
     refine one_at 3 _ 0 (by kernel_rfl) rfl (by kernel_rfl) ?_
     have Rx:=HI.out.r.below hW
     have Rr:=Rx.row #[.bool fh,.slice f1 fbs.length f4,.slice f2 frs.length f5,.slice f3 fds.length f6]
     have hsr:(Tryz.prog.info? 49).map (·.size)=some (#[.bool fh,.slice f1 fbs.length f4,.slice f2 frs.length f5,.slice f3 fds.length f6]:Array Value).size:=sz_inst
     have uz:Out [w.heap.size] w7 (w7.drew.setRow w.heap.size #[.bool fh,.slice f1 fbs.length f4,.slice f2 frs.length f5,.slice f3 fds.length f6]):=(Out.of_below hW).trans (out_row _ w.heap.size #[.bool fh,.slice f1 fbs.length f4,.slice f2 frs.length f5,.slice f3 fds.length f6])
     refine st_row (by kernel_rfl) 49 _ _ rfl _ #[.bool fh,.slice f1 fbs.length f4,.slice f2 frs.length f5,.slice f3 fds.length f6] rfl rfl 49 _ Rx hsr rfl (by simp [Value.oneCell']) ?_
     refine ThenGo.to ⟨⟨⟨_,uz⟩,rfl⟩,?_⟩
     try simp only [Act.put,List.getElem_toArray,List.getElem_cons_succ,List.getElem_cons_zero,List.setIfInBounds_toArray,List.set_cons_zero,List.set_cons_succ]
     refine text_end (by kernel_rfl) ?_
     refine ⟨rfl,_,⟨rfl,Rr,uz⟩,?_⟩
     simp only [putAll,Act.put,List.getElem_toArray,List.getElem_cons_succ,List.getElem_cons_zero,List.setIfInBounds_toArray,List.set_cons_zero,List.set_cons_succ]
     try rfl
    rintro vs X6 ⟨rfl,Rr,uX⟩
    simp only [putAll,Act.put,List.setIfInBounds_toArray,List.set_cons_zero,List.set_cons_succ]
    have HB6:Hid (_∧_∧_):=HI.out.fin uX
    have q0:=Rr.cell 0 _ rfl
    have q1:=Rr.cell 1 _ rfl
    have q2:=Rr.cell 2 _ rfl
    have q3:=Rr.cell 3 _ rfl
    clear uX k0 k1 k2 k3 HI
    go_wp2
    exact bodyPost_ret (v:=.tuple #[(.slice (some ⟨g0,0,none⟩) (m + 1) vc),.agg #[.bool fh,.slice f1 fbs.length f4,.slice f2 frs.length f5,.slice f3 fds.length f6]]) (by simp [results,Tryz.results22,go_sem,q0,q1,q2,q3]) rfl ⟨(.slice (some ⟨g0,0,none⟩) (m + 1) vc),ps,(⟨fh,.slice f1 fbs.length f4,fbs,.slice f2 frs.length f5,frs,.slice f3 fds.length f6,fds⟩:InstQ),rfl,HPN.out.1,HPN.out.2,HQN.out,HB6.out.1,HB6.out.2.1,HB6.out.2.2⟩

end Go.Proofs.YtjjolkihiclopaaGreatDoor
namespace Go.Proofs.YtjjolkihiclopaaGreatDoor
open Go.RowKit
open Go.BigFrame
set_option maxRecDepth 100000
theorem Kind.At.take' {P:Type} {K:Kind P} {w:World} {a:Option Addr} {n cap:Nat} {ps:List P} (h:K.At w (.slice a n cap) ps) (m:Nat) (hm:m≤ps.length):K.At w (.slice a m cap) (ps.take m):=by
 obtain ⟨a',c,e,hl,hr⟩:=h
 simp only [Value.slice.injEq] at e
 obtain ⟨rfl,_,rfl⟩:=e
 refine ⟨a,cap,by rw [List.length_take,Nat.min_eq_left hm],?_,fun p hp=>hr p (List.mem_of_mem_take hp)⟩
 have er:K.row ps=K.row (ps.take m) ++ K.row (ps.drop m):=by
  unfold Kind.row
  rw [← List.flatMap_append,List.take_append_drop]
 rcases hl with h0 | ⟨b,off,ha,hlt,hc⟩
 ·left
  rw [er] at h0
  exact (List.append_eq_nil_iff.1 h0).1
 ·right
  refine ⟨b,off,ha,hlt,fun j x hx=>hc j x ?_⟩
  rw [er,List.getElem?_append_left (List.getElem?_eq_some_iff.1 hx).1]
  exact hx

theorem Kind.Own.cap' {P:Type} {K:Kind P} {w:World} {a:Option Addr} {n cap:Nat} {ps:List P} (h:K.Own w (.slice a n cap) ps):n≤cap∧cap≤maxLen:=by
 rcases h.1.2 with ⟨e,_⟩ | ⟨g,c,cur,e,_,_,h1,h2,_⟩
 ·simp only [Value.slice.injEq] at e
  obtain ⟨_,rfl,rfl⟩:=e
  exact ⟨Nat.le_refl _,by decide⟩
 ·simp only [Value.slice.injEq] at e
  obtain ⟨_,rfl,rfl⟩:=e
  exact ⟨h1,h2⟩

/-- The first ones. -/
def preT (xs ys:List TxnD):Bool:=decide (xs.length≤ys.length) && sameTs xs (ys.take xs.length)

set_option maxHeartbeats 2000000 in
theorem implIsPrefix_any (v v' : Value) (xs ys:List TxnQ) (w:World) (h:txnK.At w v xs) (h' : txnK.Own w v' ys) (hl:xs.length + nmL TxnQ.n xs≤1048576) (hl' : ys.length + nmL TxnQ.n ys≤1048576) :
  Calls Tryz.prog 16 #[v,v'] w fun e w' => e=.returned (.bool (preT (xs.map TxnQ.e) (ys.map TxnQ.e)))∧Below w.heap.size w w' := by
 obtain ⟨a,cap,rfl⟩:=h.shape
 obtain ⟨a',cap',rfl⟩:=h'.shape
 obtain ⟨hc,hcm⟩:=h'.cap'
 unfold preT
 rw [List.length_map,List.length_map]
 by_cases hlen:xs.length≤ys.length
 ·have hd:decide (xs.length≤ys.length)=true:=decide_eq_true hlen
  rw [hd,Bool.true_and]
  have hT:=h'.at.take' xs.length hlen
  have hn:nmL TxnQ.n (ys.take xs.length)≤nmL TxnQ.n ys:=nmL_le TxnQ.n ys xs.length
  have hq:=implSameTxns_any (.slice a xs.length cap) (.slice a' xs.length cap') (xs.map TxnQ.e) ((ys.take xs.length).map TxnQ.e) w (txnsAt_of' h) (txnsAt_of' hT) (by rw [List.length_map,sumA_of'];omega) (by rw [List.length_map,sumA_of',List.length_take];omega)
  rw [List.map_take] at hq
  generalize sameTs (xs.map TxnQ.e) ((ys.map TxnQ.e).take xs.length)=E at *
  have hle:(xs.length:Int)≤(ys.length:Int):=by omega
  have hlc:xs.length≤cap' := by omega
  have hlc' : (xs.length:Int)≤(cap' : Int):=by omega
  have hl0:(0:Int)≤(xs.length:Int):=by omega
  clear hT hn hd
  go_enter Tryz.func16,Tryz.ntmps16
  go_wp2_with fail
  refine hq.mono ?_
  rintro e w2 ⟨rfl,hb2⟩
  go_wp2
  go_ret
  exact ⟨rfl,hb2⟩
 ·have hd:decide (xs.length≤ys.length)=false:=decide_eq_false hlen
  rw [hd,Bool.false_and]
  have hle:¬ (xs.length:Int)≤(ys.length:Int):=by omega
  clear hd
  go_enter Tryz.func16,Tryz.ntmps16
  go_wp2
  go_ret
  exact ⟨rfl,Below.refl _ _⟩

end Go.Proofs.YtjjolkihiclopaaGreatDoor
namespace Go.Proofs.YtjjolkihiclopaaGreatDoor
open Go.RowKit
open Go.BigFrame
set_option maxRecDepth 100000
/-- A pointer to an instance. -/
structure InstP' (w:World) (b o:Nat) (p:InstQ):Prop where
 box:Box4 w b o (.bool p.has) p.vb p.vr p.vd
 rd:instK.rd w p

theorem InstP'.below {w w' : World} {b o:Nat} {p:InstQ} (h:InstP' w b o p) (hb:Below w.heap.size w w'):InstP' w' b o p:=⟨h.box.below hb,instK.rd_below h.rd hb⟩

end Go.Proofs.YtjjolkihiclopaaGreatDoor
namespace Go.Proofs.YtjjolkihiclopaaGreatDoor
open Go.RowKit
open Go.BigFrame
set_option maxRecDepth 100000
def insNo:InstE:=⟨false,[],[],[]⟩

def sameIs:List InstE→List InstE→Bool
 | [],[]=>true
 | x :: r,y :: s=>sameI x y && sameIs r s
 | _,_=>false

theorem ins_get (xs:List InstQ) (k:Nat) (hk:k < xs.length):(xs.map InstQ.e).getD k insNo=InstQ.e xs[k]:=by simp [List.getD,hk]

set_option maxHeartbeats 4000000 in
theorem equalI_any (v v' : Value) (xs ys:List InstQ) (w:World) (h:instK.At w v xs) (h' : instK.At w v' ys) (hl:xs.length + nmL InstQ.n xs≤1048576) (hl' : ys.length + nmL InstQ.n ys≤1048576) :
  Calls Tryz.prog 57 #[v,v',.func (.func 58) #[] #[]] w fun e w' => e=.returned (.bool (sameIs (xs.map InstQ.e) (ys.map InstQ.e)))∧Below w.heap.size w w' := by
 obtain ⟨a,cap,rfl⟩:=h.shape
 obtain ⟨a',cap',rfl⟩:=h'.shape
 by_cases hlen:xs.length=ys.length
 case neg=>
  have E:sameIs (xs.map InstQ.e) (ys.map InstQ.e)=false:=same_len (f:=sameI) rfl (fun _ _ _ _=>rfl) (fun _ _=>rfl) (fun _ _=>rfl) _ _ (by simpa using hlen)
  rw [E]
  have hd:((xs.length:Int) != (ys.length:Int))=true:=by simp;omega
  go_enter Tryz.func57,Tryz.ntmps57
  go_wp2
  go_ret
  exact ⟨rfl,Below.refl _ _⟩
 case pos=>
  have hd:((xs.length:Int) != (ys.length:Int))=false:=by simp [hlen]
  have HL:Hid (xs.length=ys.length):=hlen
  have HM:Hid ((xs.map InstQ.e).length=(ys.map InstQ.e).length):=show _=_ by simpa using hlen
  clear hlen
  generalize hE:sameIs (xs.map InstQ.e) (ys.map InstQ.e)=E
  have HE:Hid (sameIs (xs.map InstQ.e) (ys.map InstQ.e)=E):=hE
  clear hE
  go_enter Tryz.func57,Tryz.ntmps57
  go_wp2
  go_loopw [17] (fun i wr=>∃ k:Nat,k≤xs.length∧i=.int .i64 k∧Below w.heap.size w wr∧Hid (∀ j,j < k→sameI ((xs.map InstQ.e).getD j insNo) ((ys.map InstQ.e).getD j insNo)=true)) (fun i _=>xs.length - (intOf i).toNat)
  case atStart=>exact ⟨0,Nat.zero_le _,rfl,Below.refl _ _,fun j hj=>absurd hj (Nat.not_lt_zero _)⟩
  case round=>
   obtain ⟨k,hk,rfl,hb,HA⟩:=hrel
   by_cases hlt:k < xs.length
   ·have hlt' : k < ys.length:=by have:=HL.out;omega
    obtain ⟨b,off,rfl,hbs,hc,hrd⟩:=(h.below hb).cell (by decide) k hlt
    obtain ⟨b',off',rfl,hbs',hd2,hrd'⟩:=(h'.below hb).cell (by decide) k hlt'
    have hc' : ∀ j x,(instK.cells xs[k])[j]? = some x→wr.cell? ⟨b,off + k * 4 + j,none⟩=some x:=hc
    have hd' : ∀ j x,(instK.cells ys[k])[j]? = some x→wr.cell? ⟨b',off' + k * 4 + j,none⟩=some x:=hd2
    have c0:=hc' 0 (.bool xs[k].has) rfl
    have c1:=hc' 1 (xs[k].vb) rfl
    have c2:=hc' 2 (xs[k].vr) rfl
    have c3:=hc' 3 (xs[k].vd) rfl
    have d0:=hd' 0 (.bool ys[k].has) rfl
    have d1:=hd' 1 (ys[k].vb) rfl
    have d2:=hd' 2 (ys[k].vr) rfl
    have d3:=hd' 3 (ys[k].vd) rfl
    have n1:=nm_le InstQ.n xs k hlt
    have n2:=nm_le InstQ.n ys k hlt'
    have HY:Hid (sameI (InstQ.e xs[k]) (InstQ.e ys[k])=false→E=false):=fun hx=>by
     rw [← HE.out]
     exact same_bad (f:=sameI) insNo (fun _ _ _ _=>rfl) _ _ k HM.out (by simpa using hlt) (by rw [ins_get xs k hlt,ins_get ys k hlt'];exact hx)
    have HN:Hid (sameI (InstQ.e xs[k]) (InstQ.e ys[k])=true→∀ j,j < k + 1→sameI ((xs.map InstQ.e).getD j insNo) ((ys.map InstQ.e).getD j insNo)=true):=fun hx j hj=>by
     by_cases hjk:j=k
     ·subst hjk
      rw [ins_get xs j hlt,ins_get ys j hlt']
      exact hx
     ·exact HA.out j (by omega)
    have hq0:=implSameInst_any xs[k] ys[k]
    have hq:=fun w f1 f2=>hq0 w f1 f2 (by omega) (by omega)
    clear hq0
    have hal:∀ (o:Obj) (j:Nat),(wr.alloc o).cell? ⟨b',j,none⟩=wr.cell? ⟨b',j,none⟩:=fun o j=>(show Below wr.heap.size wr (wr.alloc o) by go_grown).cell (p:=⟨b',j,none⟩) hbs'
    clear HA hc hc' hd2 hd'
    generalize xs[k]=p at *
    generalize ys[k]=q at *
    generalize sameI (InstQ.e p) (InstQ.e q)=X at *
    obtain ⟨ph,pv,pb,pw,pr,pu,pd⟩:=p
    obtain ⟨qh,qv,qb,qw,qr,qu,qd⟩:=q
    obtain ⟨a1,k1,rfl⟩:∃ a c,pv=.slice a pb.length c:=hrd.1.shape
    obtain ⟨a2,k2,rfl⟩:∃ a c,pw=.slice a pr.length c:=hrd.2.1.shape
    obtain ⟨a3,k3,rfl⟩:∃ a c,pu=.slice a pd.length c:=hrd.2.2.shape
    obtain ⟨b1,m1,rfl⟩:∃ a c,qv=.slice a qb.length c:=hrd'.1.shape
    obtain ⟨b2,m2,rfl⟩:∃ a c,qw=.slice a qr.length c:=hrd'.2.1.shape
    obtain ⟨b3,m3,rfl⟩:∃ a c,qu=.slice a qd.length c:=hrd'.2.2.shape
    dsimp only at c0 c1 c2 c3 d0 d1 d2 d3 hq
    rw [Nat.add_zero] at c0 d0
    go_wp2_with fail
    refine (hq _ (instK.rd_below hrd (by go_grown)) (instK.rd_below hrd' (by go_grown))).mono ?_
    rintro e w2 ⟨rfl,hb2⟩
    have hb3:=below_from (below_from hb (by go_grown)) hb2
    clear hb2 hal c0 c1 c2 c3 d0 d1 d2 d3 hrd hrd' hq
    cases X with
    | false=>
     have E1:Hid (E=false):=HY.out rfl
     clear HY HN HE
     go_wp2
     go_ret
     exact ⟨by rw [E1.out];rfl,hb3⟩
    | true=>
     have R:=HN.out rfl
     have HR:Hid _:=R
     clear HY HN R
     go_wp2
     go_roundw
     case rel=>exact ⟨k + 1,by omega,by go_num,hb3,HR.out⟩
     case measure=>simp [intOf];omega
   ·have E1:Hid (E=true):=by rw [← HE.out];exact same_all (f:=sameI) insNo rfl (fun _ _ _ _=>rfl) _ _ HM.out (fun j hj=>HA.out j (by simpa using (by simpa using hj:j < xs.length) |> fun h=>Nat.lt_of_lt_of_le h (by omega)))
    clear HA HE
    go_wp2
    go_ret
    exact ⟨by rw [E1.out];rfl,hb⟩

theorem implSameOrders_any (v v' : Value) (xs ys:List InstQ) (w:World) (h:instK.At w v xs) (h' : instK.At w v' ys) (hl:xs.length + nmL InstQ.n xs≤1048576) (hl' : ys.length + nmL InstQ.n ys≤1048576) :
  Calls Tryz.prog 25 #[v,v'] w fun e w' => e=.returned (.bool (sameIs (xs.map InstQ.e) (ys.map InstQ.e)))∧Below w.heap.size w w' := by
 have hq:=equalI_any v v' xs ys w h h' hl hl'
 obtain ⟨a,cap,rfl⟩:=h.shape
 obtain ⟨a',cap',rfl⟩:=h'.shape
 generalize sameIs (xs.map InstQ.e) (ys.map InstQ.e)=E at *
 go_enter Tryz.func25,Tryz.ntmps25
 go_wp2_with fail
 refine hq.mono ?_
 rintro e w2 ⟨rfl,hb2⟩
 go_wp2
 go_ret
 exact ⟨rfl,hb2⟩

end Go.Proofs.YtjjolkihiclopaaGreatDoor
