/- Texts joined, with what the laws reach alone. -/
import Derived.Test.YtfdkcbafpiojkaaGreatDoorSGBG
import Derived.Test.YtfdkcbafpiojkaaGreatDoorSGBD
import Derived.Test.YtfdkcbafpiojkaaGreatDoorSGBQ
set_option linter.unusedVariables false
set_option linter.unusedSimpArgs false
namespace Go.Proofs.YtfdkcbafpiojkaaGreatDoor
open Go.RowKit Go.Maps
open Go.BigFrame
set_option maxRecDepth 100000
theorem ex_run {xs:List ItemD} {i s q:Int} {zs:List ActD} (h:itemsF xs=0) (h2:txnF i s q zs=0):exC xs i s q zs=(runA xs zs).1∧exR xs i s q zs=runR xs zs∧exV xs i s q zs=runV xs zs:=by
 have e:exC xs i s q zs=(runA xs zs).1:=by simp [exC,h,h2]
 exact ⟨e,by unfold exR runR;rw [e],by unfold exV runV;rw [e]⟩

end Go.Proofs.YtfdkcbafpiojkaaGreatDoor
namespace Go.Proofs.YtfdkcbafpiojkaaGreatDoor
open Go.RowKit Go.Maps
set_option maxRecDepth 100000
theorem ea_bad {xs:List ItemD} {ds:List TxnD} (h:itemsF xs≠0):eaC xs ds=itemsF xs∧eaCd xs ds=[]∧eaVl xs ds=[]∧eaI xs ds=[]:=by
 have e:eaC xs ds=itemsF xs:=if_pos h
 exact ⟨e,by simp [eaCd,e,h],by simp [eaVl,e,h],by simp [eaI,e,h]⟩

theorem ea_bad2 {xs:List ItemD} {ds:List TxnD} (h:itemsF xs=0) (h2:idsC ds≠0):eaC xs ds=idsC ds∧eaCd xs ds=[]∧eaVl xs ds=[]∧eaI xs ds=[]:=by
 have e:eaC xs ds=idsC ds:=by simp [eaC,h]
 exact ⟨e,by simp [eaCd,e,h2],by simp [eaVl,e,h2],by simp [eaI,e,h2]⟩

theorem ea_le (xs:List ItemD) (ds:List TxnD):(eaCd xs ds).length≤1048576∧(eaVl xs ds).length≤1048576∧(eaI xs ds).length≤1048576:=by
 by_cases h:itemsF xs=0
 ·by_cases h2:idsC ds=0
  ·obtain ⟨_,e2,e3,e4⟩:=ea_ok h h2
   obtain ⟨h8,g⟩:=good_of_F h
   obtain ⟨h60,hz⟩:=ids_zero h2
   rw [e2,e3,e4,allCd_length,allVl_length]
   have:=(allI_good h8 g hz).1
   omega
  ·obtain ⟨_,e2,e3,e4⟩:=ea_bad2 (ds:=ds) h h2
   rw [e2,e3,e4];simp
 ·obtain ⟨_,e2,e3,e4⟩:=ea_bad (ds:=ds) h
  rw [e2,e3,e4];simp

end Go.Proofs.YtfdkcbafpiojkaaGreatDoor
namespace Go.Proofs.YtfdkcbafpiojkaaGreatDoor
open Go.RowKit Go.Maps
open Go.BigFrame
set_option maxRecDepth 100000
section
variable {ops:Array Oper} {rest:List Oper} {o:Oper} {a:Act} {Q:Exit→Act→World→Prop}
/-- All of a list of items behind nil. -/
theorem wpList_copy_nil (w:World) (hgd:o.guard=none) (s x:Operand) (ho:o.op=.call { callee:=.builtin .append,args:=#[s,x],argTypes:=#[29,29] })
  (hs:a.eval s=.slice none 0 0) (sa:Option Addr) (zs:List ItemD) (sc:Nat) (hx:a.eval x=.slice sa zs.length sc) (hr:ItemRow w sa zs) (hN:Nice sa zs.length sc) (hl:zs.length≤1048576)
  (h:∀ a' c' w',w'.ownsRow w.heap.size 134 2 (.slice a' zs.length c') zs.length (itemCells zs)→Below w.heap.size w w' → wpList Tryz.prog ops Q rest (a.put o.dst (.slice a' zs.length c')) w'):wpList Tryz.prog ops Q (o :: rest) a w:=by
 obtain ⟨i0,hi,hz0,hz1,hz2⟩:=info_parts infoItem
 have hown:=World.ownsRow_nil w w.heap.size 134 2
 rcases hN with ⟨ad,rfl⟩ | ⟨rfl,hn,rfl⟩
 ·refine wpList_append_own w hgd s x 29 ho w.heap.size 134 i0 (.agg #[.int .i64 0,.int .i64 0]) 2 16 Tryz.underlying29 hi hz0 hz1 hz2 rfl (by decide) _ 0 [] hs hown ad zs.length sc (itemCells zs) hx (itemCells_length zs) (lies_srcI hr) (items_oneCell zs) (by unfold maxLen;omega) (by omega) (Nat.le_refl _) ?_
  intro v' w' hown' hgrow _
  simp only [Nat.zero_add,List.nil_append] at hown'
  obtain ⟨a',c',rfl⟩:=own_shape hown'
  exact h a' c' w' hown' ((Below.refl _ _).grown hgrow (Nat.le_refl _) (fun k hk=>(hown.lt k hk).1))
 ·have hz:zs=[]:=List.eq_nil_of_length_eq_zero hn
  subst hz
  refine wpList_append_own_none hgd s x 29 ho w.heap.size 134 i0 2 Tryz.underlying29 hi _ 0 [] hs hown hx ?_
  exact h _ _ w hown (Below.refl _ _)

end
set_option maxRecDepth 100000 in
set_option maxHeartbeats 8000000 in
theorem implExecAll_any (a:Option Addr) (cap:Nat) (xs:List ItemD) (v:Value) (ds:List TxnD) (w:World) (h:ItemRow w a xs) (hN:Nice a xs.length cap) (ht:TxnsAt w v ds) (hl:xs.length≤1048576) (hl2:ds.length + sumA ds≤1048576) :
  Calls Tryz.prog 40 #[.slice a xs.length cap,v] w fun e w' => ∃ a1 c1 a2 c2 a3 c3,e=.returned (.agg #[.int .i64 (eaC xs ds),.slice a1 (eaCd xs ds).length c1,.slice a2 (eaVl xs ds).length c2,.slice a3 (eaI xs ds).length c3]) ∧
   OwnA w.heap.size w'.heap.size w' (.slice a1 (eaCd xs ds).length c1) (.slice a2 (eaVl xs ds).length c2) (.slice a3 (eaI xs ds).length c3) (eaCd xs ds) (eaVl xs ds) (eaI xs ds)∧Below w.heap.size w w' := by
 have hF:=fun w h=>implItemsFault_any a cap xs w h hl
 have hI:=fun w h=>implIdsOf_any v ds w h hl2
 have hfd:∀ (r:Int) (lb:Option Addr) (n lc:Nat) (w:World),Sem.run Tryz.prog (Instr.field 157 (.agg #[.int .i64 r,.slice lb n lc]) 0) w=.ok (.int .i64 r) w:=fun _ _ _ _ _=>by kernel_rfl
 have hb0:Below w.heap.size w (w.alloc (.cells #[.int .i64 0,.slice none 0 0,.slice none 0 0,.slice none 0 0] 75)):=by go_grown
 have B0:=Blk.new w 75 #[.int .i64 0,.slice none 0 0,.slice none 0 0,.slice none 0 0]
 by_cases h0:itemsF xs=0
 case neg=>
  obtain ⟨e1,e2,e3,e4⟩:=ea_bad (ds:=ds) h0
  rw [e1,e2,e3,e4]
  have hne:(itemsF xs != 0)=true:=by simpa using h0
  clear h0 e1 e2 e3 e4
  generalize itemsF xs=r at hF hne
  go_enter Tryz.func40,Tryz.ntmps40
  go_wp2_with fail
  generalize w.alloc (.cells #[.int .i64 0,.slice none 0 0,.slice none 0 0,.slice none 0 0] 75)=W0 at hb0 B0
  refine (hF _ (h.below hb0)).mono ?_
  rintro e w1 ⟨rfl,hb⟩
  replace B0:=B0.below hb
  replace hb0:=hb0.trans (hb.mono hb0.size)
  clear hb
  have p0:=B0.cell 0 _ rfl
  have p1:=B0.cell 1 _ rfl
  have p2:=B0.cell 2 _ rfl
  have p3:=B0.cell 3 _ rfl
  have f0:=B0.frozen 0
  have f1:=B0.frozen 1
  have f2:=B0.frozen 2
  have f3:=B0.frozen 3
  have hlt:=B0.lt
  clear B0
  go_wp2
  refine bodyPost_ret (v:=.agg #[.int .i64 r,.slice none 0 0,.slice none 0 0,.slice none 0 0]) (by simp [results,Tryz.results40,go_sem,p0,p1,p2,p3]) rfl ?_
  refine ⟨none,0,none,0,none,0,rfl,⟨OwnS.of (World.ownsRow_nil _ _ _ _),OwnS.of (World.ownsRow_nil _ _ _ _),OwnS.of (World.ownsRow_nil _ _ _ _),Apart3.nil⟩,?_⟩
  repeat' (refine Below.setCell ?_ (by dsimp only;omega) _)
  exact hb0
 by_cases h2:idsC ds=0
 case neg=>
  obtain ⟨e1,e2,e3,e4⟩:=ea_bad2 (ds:=ds) h0 h2
  rw [e1,e2,e3,e4]
  have hne:(idsC ds != 0)=true:=by simpa using h2
  rw [h0] at hF
  clear h0 h2 e1 e2 e3 e4
  generalize idsC ds=r at hI hne
  generalize idsR ds=L at hI
  go_enter Tryz.func40,Tryz.ntmps40
  go_wp2_with fail
  generalize w.alloc (.cells #[.int .i64 0,.slice none 0 0,.slice none 0 0,.slice none 0 0] 75)=W0 at hb0 B0
  refine (hF _ (h.below hb0)).mono ?_
  rintro e w1 ⟨rfl,hb⟩
  replace B0:=B0.below hb
  replace hb0:=hb0.trans (hb.mono hb0.size)
  clear hb
  go_wp2_with fail
  refine (hI _ (ht.below hb0)).mono ?_
  rintro e w2 ⟨lb,lc,rfl,_,hb⟩
  replace B0:=B0.below hb
  replace hb0:=hb0.trans (hb.mono hb0.size)
  clear hb
  have p0:=B0.cell 0 _ rfl
  have p1:=B0.cell 1 _ rfl
  have p2:=B0.cell 2 _ rfl
  have p3:=B0.cell 3 _ rfl
  have f0:=B0.frozen 0
  have f1:=B0.frozen 1
  have f2:=B0.frozen 2
  have f3:=B0.frozen 3
  have hlt:=B0.lt
  clear B0
  go_wp2
  refine bodyPost_ret (v:=.agg #[.int .i64 r,.slice none 0 0,.slice none 0 0,.slice none 0 0]) (by simp [results,Tryz.results40,go_sem,p0,p1,p2,p3]) rfl ?_
  refine ⟨none,0,none,0,none,0,rfl,⟨OwnS.of (World.ownsRow_nil _ _ _ _),OwnS.of (World.ownsRow_nil _ _ _ _),OwnS.of (World.ownsRow_nil _ _ _ _),Apart3.nil⟩,?_⟩
  repeat' (refine Below.setCell ?_ (by dsimp only;omega) _)
  exact hb0
 obtain ⟨h8,g⟩:=good_of_F h0
 obtain ⟨h60,hz⟩:=ids_zero h2
 have HZ:Hid (∀ t∈ds,t.F=0):=hz
 have HOK:Hid (eaC xs ds=0∧eaCd xs ds=allCd xs ds∧eaVl xs ds=allVl xs ds∧eaI xs ds=allI xs ds):=ea_ok h0 h2
 rw [h0] at hF
 rw [h2] at hI
 clear h0 h2 hz
 generalize idsR ds=L at hI
 obtain ⟨i0,hi,hz0,hz1,hz2⟩:=info_parts infoI64
 go_enter Tryz.func40,Tryz.ntmps40
 go_wp2_with fail
 generalize w.alloc (.cells #[.int .i64 0,.slice none 0 0,.slice none 0 0,.slice none 0 0] 75)=W0 at hb0 B0
 refine (hF _ (h.below hb0)).mono ?_
 rintro e w1 ⟨rfl,hb⟩
 replace B0:=B0.below hb
 replace hb0:=hb0.trans (hb.mono hb0.size)
 clear hb
 go_wp2_with fail
 refine (hI _ (ht.below hb0)).mono ?_
 rintro e w2 ⟨lb,lc,rfl,_,hb⟩
 replace B0:=B0.below hb
 replace hb0:=hb0.trans (hb.mono hb0.size)
 clear hb
 have hr2:=h.below hb0
 have hcp:∀ (ops:Array Oper) (rest:List Oper) (o:Oper) (act:Act) (Q:Exit→Act→World→Prop) (hgd:o.guard=none) (sx x:Operand) (ho:o.op=.call { callee:=.builtin .append,args:=#[sx,x],argTypes:=#[29,29] }) (hs:act.eval sx=.slice none 0 0) (hx:act.eval x=.slice a xs.length cap)
   (hh:∀ a' c' w',w'.ownsRow w2.heap.size 134 2 (.slice a' xs.length c') xs.length (itemCells xs)→Below w2.heap.size w2 w' → wpList Tryz.prog ops Q rest (act.put o.dst (.slice a' xs.length c')) w'),wpList Tryz.prog ops Q (o :: rest) act w2:=
  fun ops rest o act Q hgd sx x ho hs hx hh=>wpList_copy_nil w2 hgd sx x ho hs a xs cap hx hr2 hN (by omega) hh
 go_wp2_with (at_builtin;refine hcp _ _ _ _ _ rfl _ _ rfl rfl rfl ?_)
 intro ia0 ic0 W3 o30 hb
 have hs0:=B0.lt
 replace B0:=B0.below hb
 have hsz0:=hb0.size
 replace hb0:=hb0.trans (hb.mono hb0.size)
 have hbs3:=hb.size
 have ht3:=ht.below hb0
 clear hb hcp hF hI hr2 h hN ht
 have hbN:Below W3.heap.size W3 (W3.alloc (.cells #[.int .i64 0,.slice none 0 0,.slice none 0 0,.slice ia0 xs.length ic0] 75)):=by go_grown
 have Bab0:=Blk.new W3 75 #[.int .i64 0,.slice none 0 0,.slice none 0 0,.slice ia0 xs.length ic0]
 have hne0:∀ k,(Value.slice ia0 xs.length ic0).ownBlock=some k→k≠W3.heap.size:=fun k hk=>by have:=(o30.lt k hk).2;omega
 replace o30:=own_below o30 hbN
 have hsz30:W3.heap.size + 1≤(W3.alloc (.cells #[.int .i64 0,.slice none 0 0,.slice none 0 0,.slice ia0 xs.length ic0] 75)).heap.size:=by simp
 have hs0:w.heap.size < W3.heap.size:=by omega
 have ht4:=ht3.shape
 obtain ⟨va0,vc0,rfl⟩:=ht4
 go_wp2
 generalize W3.alloc (.cells #[.int .i64 0,.slice none 0 0,.slice none 0 0,.slice ia0 xs.length ic0] 75)=W4 at hbN Bab0 o30 hsz30
 have hb30:Below W3.heap.size W3 W4:=hbN
 generalize hbb:w2.heap.size=base0 at *
 have htl:∀ k,k < ds.length→True:=fun _ _=>trivial
 generalize habE:W3.heap.size=ab at *
 go_loopw [29] (fun j wr=>∃ (k:Nat) (cur:List ItemD) (C V:List Int) (ca:Option Addr) (cc:Nat) (va:Option Addr) (vc:Nat) (ia:Option Addr) (ic:Nat),k≤ds.length∧j=.int .i64 k∧Blk wr ab 75 #[.int .i64 0,.slice ca C.length cc,.slice va V.length vc,.slice ia cur.length ic]∧wr.ownsRow (ab + 1) 2 1 (.slice ca C.length cc) C.length (C.map (Value.int .i64))∧wr.ownsRow (ab + 1) 2 1 (.slice va V.length vc) V.length (V.map (Value.int .i64))∧wr.ownsRow base0 134 2 (.slice ia cur.length ic) cur.length (itemCells cur)∧Apart3 (.slice ca C.length cc) (.slice va V.length vc) (.slice ia cur.length ic)∧(∀ k,(Value.slice ia cur.length ic).ownBlock=some k→k≠ab)∧Below ab W3 wr∧ab + 1≤wr.heap.size∧Hid (cur.length≤8∧Good cur∧allI cur (ds.drop k)=allI xs ds∧C ++ allCd cur (ds.drop k)=allCd xs ds∧V ++ allVl cur (ds.drop k)=allVl xs ds∧C.length=k∧V.length=k)) (fun j _=>ds.length - (intOf j).toNat)
 case atStart=>exact ⟨0,xs,[],[],none,0,none,0,ia0,ic0,Nat.zero_le _,rfl,Bab0,World.ownsRow_nil _ _ _ _,World.ownsRow_nil _ _ _ _,o30,⟨Or.inl rfl,Or.inl rfl,Or.inl rfl⟩,hne0,hb30,hsz30,⟨h8,g,by simp,by simp,by simp,rfl,rfl⟩⟩
 case round=>
  clear Bab0 o30 hb30 hsz30 hne0 hbN
  obtain ⟨k,cur,C,V,ca,cc,va,vc,ia,ic,hk,rfl,Bab,o1,o2,o3,ap,hne3,hb,hsz,HG⟩:=hrel
  have hR1:∀ g,(Value.slice ca C.length cc).ownBlock=some g→g < wr.heap.size:=fun g hg=>(o1.lt g hg).2
  have hR2:∀ g,(Value.slice va V.length vc).ownBlock=some g→g < wr.heap.size:=fun g hg=>(o2.lt g hg).2
  have hCl:C.length≤60:=by have:=HG.out.2.2.2.2.2.1;omega
  have hVl:V.length≤60:=by have:=HG.out.2.2.2.2.2.2;omega
  have hc8:=HG.out.1
  by_cases hlt:k < ds.length
  ·obtain ⟨b,off,aa,tc,rfl,hbs,t0,t1,t2,t3,hA⟩:=ht3.at k hlt
   rw [habE] at hbs
   have hF0:=HZ.out (ds.getD k txnNo) (by simp [List.getD,hlt])
   have hzl:(ds.getD k txnNo).acts.length≤sumA ds:=mem_le_sumA (by simp [List.getD,hlt])
   replace t0:wr.cell? ⟨b,off + k * 4,none⟩=_:=(hb.cell (p:=⟨b,off + k * 4,none⟩) hbs).trans t0
   replace t1:wr.cell? ⟨b,off + k * 4 + 1,none⟩=_:=(hb.cell (p:=⟨b,off + k * 4 + 1,none⟩) hbs).trans t1
   replace t2:wr.cell? ⟨b,off + k * 4 + 2,none⟩=_:=(hb.cell (p:=⟨b,off + k * 4 + 2,none⟩) hbs).trans t2
   replace t3:wr.cell? ⟨b,off + k * 4 + 3,none⟩=_:=(hb.cell (p:=⟨b,off + k * 4 + 3,none⟩) hbs).trans t3
   have hAr:ActRow wr aa (ds.getD k txnNo).acts:=hA.below (by rw [habE];exact hb)
   obtain ⟨x1,x2,x3⟩:=ex_run (F_of_good HG.out.1 HG.out.2.1) hF0
   have hcall:=fun w h hA=>implExecTxn_any ia ic cur (ds.getD k txnNo).id (ds.getD k txnNo).session (ds.getD k txnNo).seq aa tc (ds.getD k txnNo).acts w h hA (by omega) (by omega)
   rw [x1,x2,x3] at hcall
   have HG2:Hid ((nextI cur (ds.getD k txnNo)).length≤8∧Good (nextI cur (ds.getD k txnNo))∧allI (nextI cur (ds.getD k txnNo)) (ds.drop (k + 1))=allI xs ds∧(C ++ [(runA cur (ds.getD k txnNo).acts).1]) ++ allCd (nextI cur (ds.getD k txnNo)) (ds.drop (k + 1))=allCd xs ds∧(V ++ [runV cur (ds.getD k txnNo).acts]) ++ allVl (nextI cur (ds.getD k txnNo)) (ds.drop (k + 1))=allVl xs ds∧(C ++ [(runA cur (ds.getD k txnNo).acts).1]).length=k + 1∧(V ++ [runV cur (ds.getD k txnNo).acts]).length=k + 1):=by
    obtain ⟨g1,g2,g3,g4,g5,g6,g7⟩:=HG.out
    rw [drop_txn hlt] at g3 g4 g5
    obtain ⟨n1,n2⟩:=nextI_good g1 g2 hF0
    exact ⟨n1,n2,g3,by simpa [allCd] using g4,by simpa [allVl] using g5,by simp [g6],by simp [g7]⟩
   have HNX:Hid ((runA cur (ds.getD k txnNo).acts).1=0→runR cur (ds.getD k txnNo).acts=nextI cur (ds.getD k txnNo)):=fun h=>by unfold runR nextI;rw [if_pos h,if_pos h]
   have HNY:Hid ((runA cur (ds.getD k txnNo).acts).1≠0→nextI cur (ds.getD k txnNo)=cur):=fun h=>if_neg h
   generalize (runA cur (ds.getD k txnNo).acts).1=code at hcall HG2 HNX HNY
   generalize runR cur (ds.getD k txnNo).acts=RL at hcall HNX
   generalize runV cur (ds.getD k txnNo).acts=val at hcall HG2
   generalize nextI cur (ds.getD k txnNo)=nx at HG2 HNX HNY
   clear x1 x2 x3 hF0 hA HG
   generalize ds.getD k txnNo=z at t0 t1 t2 t3 hAr hcall hzl
   obtain ⟨z0,z1,z2,zs⟩:=z
   dsimp only at t0 t1 t2 t3 hAr hcall hzl
   have hbT:Below wr.heap.size wr (wr.alloc (.cells #[.int .i64 z0,.int .i64 z1,.int .i64 z2,.slice aa zs.length tc] 49)):=by go_grown
   have a3:=(Bab.below hbT).cell 3 _ rfl
   have hmb:wr.heap.size≤(wr.alloc (.cells #[.int .i64 z0,.int .i64 z1,.int .i64 z2,.slice aa zs.length tc] 49)).heap.size:=hbT.size
   have hrI:ItemRow wr ia cur:=Lies.own o3
   go_wp2_with fail
   clear a3 t0 t1 t2 t3
   generalize wr.alloc (.cells #[.int .i64 z0,.int .i64 z1,.int .i64 z2,.slice aa zs.length tc] 49)=wT at hbT hmb
   refine (hcall _ (hrI.below hbT) (hAr.below hbT)).mono ?_
   rintro e w4 ⟨ra,rc,rfl,oR,hb4⟩
   replace hbT:=hbT.trans (hb4.mono hbT.size)
   have hRR0:=oR.lt
   have hs4:=hb4.size
   clear hcall hAr hrI hb4
   have hbD:Below w4.heap.size w4 (w4.alloc (.cells #[.int .i64 code,.int .i64 val,.slice ra RL.length rc] 68)):=by go_grown
   have Bd:=Blk.new w4 68 #[.int .i64 code,.int .i64 val,.slice ra RL.length rc]
   replace oR:=own_below oR hbD
   have hsD:w4.heap.size + 1≤(w4.alloc (.cells #[.int .i64 code,.int .i64 val,.slice ra RL.length rc] 68)).heap.size:=by simp
   replace hbT:=hbT.trans (hbD.mono hbT.size)
   replace o1:=own_below o1 hbT
   replace o2:=own_below o2 hbT
   replace o3:=own_below o3 hbT
   replace Bab:=Bab.below hbT
   replace hb:=hb.trans (hbT.mono (by omega))
   replace hR1:∀ g,(Value.slice ca C.length cc).ownBlock=some g→g < wT.heap.size:=fun g hg=>Nat.lt_of_lt_of_le (hR1 g hg) hmb
   replace hR2:∀ g,(Value.slice va V.length vc).ownBlock=some g→g < wT.heap.size:=fun g hg=>Nat.lt_of_lt_of_le (hR2 g hg) hmb
   have hRR:∀ g,(Value.slice ra RL.length rc).ownBlock=some g→wT.heap.size≤g∧g < (w4.alloc (.cells #[.int .i64 code,.int .i64 val,.slice ra RL.length rc] 68)).heap.size:=fun g hg=>⟨(hRR0 g hg).1,by have:=(hRR0 g hg).2;omega⟩
   have hbase:ab + 1≤wT.heap.size:=by omega
   generalize wT.heap.size=mb at *
   clear hbD hbT hRR0
   have hszc:(w4.alloc (.cells #[.int .i64 code,.int .i64 val,.slice ra RL.length rc] 68)).heap.size=w4.heap.size + 1:=by first | rfl | simp
   have a1:=Bab.cell 1 _ rfl
   have b0:=Bd.cell 0 _ rfl
   have hbA:Below (w4.alloc (.cells #[.int .i64 code,.int .i64 val,.slice ra RL.length rc] 68)).heap.size (w4.alloc (.cells #[.int .i64 code,.int .i64 val,.slice ra RL.length rc] 68)) ((w4.alloc (.cells #[.int .i64 code,.int .i64 val,.slice ra RL.length rc] 68)).alloc (.cells #[.int .i64 code] 2)):=by go_grown
   have q1:=own_below o1 hbA
   have l2:=fun g hg=>(o2.lt g hg).2
   have l3:=fun g hg=>(o3.lt g hg).2
   go_wp2_with (at_builtin;refine wpList_append_own_at _ rfl _ _ 73 rfl (ab + 1) 2 i0 (.int .i64 0) 1 8 Tryz.underlying73 hi hz0 hz1 hz2 rfl (by decide) _ C.length (C.map (Value.int .i64)) rfl q1 ⟨w4.heap.size + 1,0,none⟩ 1 1 [.int .i64 code] rfl rfl ?c1 ?c2 ?c3 ?c4 ?c5 ?_)
   all_goals try (case c1=>intro j u hj;match j,hj with | 0,hj=>simp at hj;subst hj;simp [Addr.add])
   all_goals try (case c2=>first | rfl | (intro u hu;simp at hu;subst hu;rfl))
   all_goals try (case c3=>unfold maxLen;omega)
   all_goals try (case c4=>omega)
   all_goals try (case c5=>first | omega | (simp;omega))
   intro v' w1 hown hgrow _ hloc
   obtain ⟨ca2,cc2,rfl⟩:=own_shape hown
   clear a1 b0
   have hB1:Below (ab + 1) (w4.alloc (.cells #[.int .i64 code,.int .i64 val,.slice ra RL.length rc] 68)) w1:=((Below.refl _ _).alloc (by omega) _).grown hgrow (by simp;omega) (fun k hk=>(o1.lt k hk).1)
   have hs1:(w4.alloc (.cells #[.int .i64 code,.int .i64 val,.slice ra RL.length rc] 68)).heap.size≤w1.heap.size:=hB1.size
   have hC2:∀ g,(Value.slice ca2 (C.length + 1) cc2).ownBlock=some g→g < mb∨(w4.alloc (.cells #[.int .i64 code,.int .i64 val,.slice ra RL.length rc] 68)).heap.size≤g:=fun g hg=>by
    rcases hloc with e | e
    ·exact Or.inl (hR1 g (by rw [← e];exact hg))
    ·rw [hg] at e;simp at e;right;omega
   have ap1:Apart3 (.slice ca2 (C.length + 1) cc2) (.slice va V.length vc) (.slice ia cur.length ic):=ap.grow1 (w:=(w4.alloc (.cells #[.int .i64 code,.int .i64 val,.slice ra RL.length rc] 68)).alloc (.cells #[.int .i64 code] 2)) (by simpa using hloc) (fun g hg=>by have:=l2 g hg;simp;omega) (fun g hg=>by have:=l3 g hg;simp;omega)
   replace o2:=(own_below o2 hbA).kept hgrow (ne_swap ap.a12)
   replace o3:=(own_below o3 hbA).kept hgrow (ne_swap ap.a13)
   replace oR:=(own_below oR hbA).kept hgrow (apartG (fun g h1 h2=>by have:=hRR g h1;have:=hR1 g h2;omega))
   replace Bd:=(Bd.below hbA).grown hgrow (by intro e;have:=hR1 w4.heap.size e.symm;omega)
   replace Bab:Blk w1 ab 75 #[.int .i64 0,.slice ca C.length cc,.slice va V.length vc,.slice ia cur.length ic]:=(hB1.block _ (by omega)).trans Bab
   replace o1:w1.ownsRow (ab + 1) 2 1 (.slice ca2 (C.length + 1) cc2) (C.length + 1) ((C ++ [code]).map (Value.int .i64)):=by simpa using hown
   replace hb:=hb.trans (hB1.mono (by omega))
   clear hown hgrow hloc q1 l2 l3 hbA hB1 ap
   have d1:=Bab.cell 1 _ rfl
   have d2:=Bab.frozen 1
   replace o1:=ownsRow_setCell_below (a:=⟨ab,1,none⟩) o1 (by dsimp only;omega) (.slice ca2 (C.length + 1) cc2)
   replace o2:=ownsRow_setCell_below (a:=⟨ab,1,none⟩) o2 (by dsimp only;omega) (.slice ca2 (C.length + 1) cc2)
   replace o3:=own_set_other (j:=1) (u:=.slice ca2 (C.length + 1) cc2) o3 hne3
   replace oR:=ownsRow_setCell_below (a:=⟨ab,1,none⟩) oR (by dsimp only;omega) (.slice ca2 (C.length + 1) cc2)
   replace Bab:Blk (w1.setCell ⟨ab,1,none⟩ (.slice ca2 (C.length + 1) cc2)) ab 75 #[.int .i64 0,.slice ca2 (C.length + 1) cc2,.slice va V.length vc,.slice ia cur.length ic]:=by simpa using Bab.set 1 (.slice ca2 (C.length + 1) cc2)
   replace Bd:Blk (w1.setCell ⟨ab,1,none⟩ (.slice ca2 (C.length + 1) cc2)) (w4.heap.size) 68 #[.int .i64 code,.int .i64 val,.slice ra RL.length rc]:=Bd.otherG (by omega)
   replace hb:=hb.setCell (p:=⟨ab,1,none⟩) (Nat.le_refl _) (.slice ca2 (C.length + 1) cc2)
   replace hs1:(w4.alloc (.cells #[.int .i64 code,.int .i64 val,.slice ra RL.length rc] 68)).heap.size≤(w1.setCell ⟨ab,1,none⟩ (.slice ca2 (C.length + 1) cc2)).heap.size:=by simpa [World.setCell] using hs1
   have a2:=Bab.cell 2 _ rfl
   have b1:=Bd.cell 1 _ rfl
   have hbA:Below (w1.setCell ⟨ab,1,none⟩ (.slice ca2 (C.length + 1) cc2)).heap.size (w1.setCell ⟨ab,1,none⟩ (.slice ca2 (C.length + 1) cc2)) ((w1.setCell ⟨ab,1,none⟩ (.slice ca2 (C.length + 1) cc2)).alloc (.cells #[.int .i64 val] 2)):=by go_grown
   have q2:=own_below o2 hbA
   have l1:=fun g hg=>(o1.lt g hg).2
   have l3:=fun g hg=>(o3.lt g hg).2
   have hsX:(w1.setCell ⟨ab,1,none⟩ (.slice ca2 (C.length + 1) cc2)).heap.size=w1.heap.size:=by simp [World.setCell]
   have hsrc2:∀ j u,[Value.int .i64 val][j]? = some u→((w1.setCell ⟨ab,1,none⟩ (.slice ca2 (C.length + 1) cc2)).alloc (.cells #[.int .i64 val] 2)).cell? ((⟨w1.heap.size,0,none⟩:Addr).add j)=some u:=by
    intro j u hj
    match j,hj with
    | 0,hj=>
     simp at hj
     subst hj
     rw [← hsX,Addr.add_lit]
     exact (Blk.new (w1.setCell ⟨ab,1,none⟩ (.slice ca2 (C.length + 1) cc2)) 2 #[.int .i64 val]).cell 0 _ rfl
   go_wp2_with (at_builtin;refine wpList_append_own_at _ rfl _ _ 73 rfl (ab + 1) 2 i0 (.int .i64 0) 1 8 Tryz.underlying73 hi hz0 hz1 hz2 rfl (by decide) _ V.length (V.map (Value.int .i64)) rfl q2 ⟨w1.heap.size,0,none⟩ 1 1 [.int .i64 val] rfl rfl hsrc2 ?c2 ?c3 ?c4 ?c5 ?_)
   all_goals try (case c1=>intro j u hj;match j,hj with | 0,hj=>simp at hj;subst hj;simp [Addr.add])
   all_goals try (case c2=>first | rfl | (intro u hu;simp at hu;subst hu;rfl))
   all_goals try (case c3=>unfold maxLen;omega)
   all_goals try (case c4=>omega)
   all_goals try (case c5=>first | omega | (simp;omega))
   intro v' w2 hown hgrow _ hloc
   obtain ⟨va2,vc2,rfl⟩:=own_shape hown
   clear a2 b1 d1 d2
   have hB2:Below (ab + 1) (w1.setCell ⟨ab,1,none⟩ (.slice ca2 (C.length + 1) cc2)) w2:=((Below.refl _ _).alloc (by omega) _).grown hgrow (by simp;omega) (fun k hk=>(o2.lt k hk).1)
   have hs2:(w4.alloc (.cells #[.int .i64 code,.int .i64 val,.slice ra RL.length rc] 68)).heap.size≤w2.heap.size:=Nat.le_trans hs1 hB2.size
   have hV2:∀ g,(Value.slice va2 (V.length + 1) vc2).ownBlock=some g→g < mb∨(w4.alloc (.cells #[.int .i64 code,.int .i64 val,.slice ra RL.length rc] 68)).heap.size≤g:=fun g hg=>by
    rcases hloc with e | e
    ·exact Or.inl (hR2 g (by rw [← e];exact hg))
    ·rw [hg] at e;simp at e;right;omega
   have ap2:Apart3 (.slice ca2 (C.length + 1) cc2) (.slice va2 (V.length + 1) vc2) (.slice ia cur.length ic):=ap1.grow2 (w:=(w1.setCell ⟨ab,1,none⟩ (.slice ca2 (C.length + 1) cc2)).alloc (.cells #[.int .i64 val] 2)) (by simpa using hloc) (fun g hg=>by have:=l1 g hg;simp;omega) (fun g hg=>by have:=l3 g hg;simp;omega)
   replace o1:=(own_below o1 hbA).kept hgrow ap1.a12
   replace o3:=(own_below o3 hbA).kept hgrow (ne_swap ap1.a23)
   replace oR:=(own_below oR hbA).kept hgrow (apartG (fun g h1 h2=>by have:=hRR g h1;have:=hR2 g h2;omega))
   replace Bd:=(Bd.below hbA).grown hgrow (by intro e;have:=hR2 w4.heap.size e.symm;omega)
   replace Bab:Blk w2 ab 75 #[.int .i64 0,.slice ca2 (C.length + 1) cc2,.slice va V.length vc,.slice ia cur.length ic]:=(hB2.block _ (by omega)).trans Bab
   replace o2:w2.ownsRow (ab + 1) 2 1 (.slice va2 (V.length + 1) vc2) (V.length + 1) ((V ++ [val]).map (Value.int .i64)):=by simpa using hown
   replace hb:=hb.trans (hB2.mono (by omega))
   clear hown hgrow hloc q2 l1 l3 hbA hB2 ap1 hsX hs1 hsrc2
   have d1:=Bab.cell 2 _ rfl
   have d2:=Bab.frozen 2
   replace o1:=ownsRow_setCell_below (a:=⟨ab,2,none⟩) o1 (by dsimp only;omega) (.slice va2 (V.length + 1) vc2)
   replace o2:=ownsRow_setCell_below (a:=⟨ab,2,none⟩) o2 (by dsimp only;omega) (.slice va2 (V.length + 1) vc2)
   replace o3:=own_set_other (j:=2) (u:=.slice va2 (V.length + 1) vc2) o3 hne3
   replace oR:=ownsRow_setCell_below (a:=⟨ab,2,none⟩) oR (by dsimp only;omega) (.slice va2 (V.length + 1) vc2)
   replace Bab:Blk (w2.setCell ⟨ab,2,none⟩ (.slice va2 (V.length + 1) vc2)) ab 75 #[.int .i64 0,.slice ca2 (C.length + 1) cc2,.slice va2 (V.length + 1) vc2,.slice ia cur.length ic]:=by simpa using Bab.set 2 (.slice va2 (V.length + 1) vc2)
   replace Bd:Blk (w2.setCell ⟨ab,2,none⟩ (.slice va2 (V.length + 1) vc2)) (w4.heap.size) 68 #[.int .i64 code,.int .i64 val,.slice ra RL.length rc]:=Bd.otherG (by omega)
   replace hb:=hb.setCell (p:=⟨ab,2,none⟩) (Nat.le_refl _) (.slice va2 (V.length + 1) vc2)
   replace hs2:(w4.alloc (.cells #[.int .i64 code,.int .i64 val,.slice ra RL.length rc] 68)).heap.size≤(w2.setCell ⟨ab,2,none⟩ (.slice va2 (V.length + 1) vc2)).heap.size:=by simpa [World.setCell] using hs2
   have b0:=Bd.cell 0 _ rfl
   have b2:=Bd.cell 2 _ rfl
   have a3:=Bab.cell 3 _ rfl
   have a4:=Bab.frozen 3
   by_cases hc:code=0
   ·obtain rfl:RL=nx:=HNX.out hc
    have apR:Apart3 (.slice ca2 (C.length + 1) cc2) (.slice va2 (V.length + 1) vc2) (.slice ra RL.length rc):=⟨ap2.a12,apartG (fun g h1 h2=>by have:=hRR g h2;have:=hC2 g h1;omega),apartG (fun g h1 h2=>by have:=hRR g h2;have:=hV2 g h1;omega)⟩
    have hsX3:((w2.setCell ⟨ab,2,none⟩ (.slice va2 (V.length + 1) vc2)).setCell ⟨ab,3,none⟩ (.slice ra RL.length rc)).heap.size=(w2.setCell ⟨ab,2,none⟩ (.slice va2 (V.length + 1) vc2)).heap.size:=by simp [World.setCell]
    have R:Hid (Blk ((w2.setCell ⟨ab,2,none⟩ (.slice va2 (V.length + 1) vc2)).setCell ⟨ab,3,none⟩ (.slice ra RL.length rc)) ab 75 #[.int .i64 0,.slice ca2 (C.length + 1) cc2,.slice va2 (V.length + 1) vc2,.slice ra RL.length rc]∧((w2.setCell ⟨ab,2,none⟩ (.slice va2 (V.length + 1) vc2)).setCell ⟨ab,3,none⟩ (.slice ra RL.length rc)).ownsRow (ab + 1) 2 1 (.slice ca2 (C.length + 1) cc2) (C.length + 1) ((C ++ [code]).map (Value.int .i64))∧((w2.setCell ⟨ab,2,none⟩ (.slice va2 (V.length + 1) vc2)).setCell ⟨ab,3,none⟩ (.slice ra RL.length rc)).ownsRow (ab + 1) 2 1 (.slice va2 (V.length + 1) vc2) (V.length + 1) ((V ++ [val]).map (Value.int .i64))∧((w2.setCell ⟨ab,2,none⟩ (.slice va2 (V.length + 1) vc2)).setCell ⟨ab,3,none⟩ (.slice ra RL.length rc)).ownsRow mb 134 2 (.slice ra RL.length rc) RL.length (itemCells RL)∧Below ab W3 ((w2.setCell ⟨ab,2,none⟩ (.slice va2 (V.length + 1) vc2)).setCell ⟨ab,3,none⟩ (.slice ra RL.length rc))∧ab + 1≤((w2.setCell ⟨ab,2,none⟩ (.slice va2 (V.length + 1) vc2)).setCell ⟨ab,3,none⟩ (.slice ra RL.length rc)).heap.size):=
     ⟨by simpa using Bab.set 3 (.slice ra RL.length rc),ownsRow_setCell_below o1 (by dsimp only;omega) _,ownsRow_setCell_below o2 (by dsimp only;omega) _,ownsRow_setCell_below oR (by dsimp only;omega) _,hb.setCell (p:=⟨ab,3,none⟩) (Nat.le_refl _) _,by omega⟩
    clear o1 o2 o3 oR Bab Bd hb
    subst hc
    go_wp2
    go_roundw
    case rel=>
     refine ⟨k + 1,RL,C ++ [0],V ++ [val],ca2,cc2,va2,vc2,ra,rc,by omega,by go_num,?_,?_,?_,?_,?_,?_,R.out.2.2.2.2.1,R.out.2.2.2.2.2,HG2⟩
     ·simpa using R.out.1
     ·simpa using R.out.2.1
     ·simpa using R.out.2.2.1
     ·exact own_base R.out.2.2.2.1 (by omega)
     ·simpa using apR
     ·intro k hk;have:=hRR k hk;omega
    case measure=>simp [intOf];omega
   ·have hce:(code == 0)=false:=by simp [hc]
    have hnx:nx=cur:=HNY.out hc
    have R:Hid (Blk (w2.setCell ⟨ab,2,none⟩ (.slice va2 (V.length + 1) vc2)) ab 75 #[.int .i64 0,.slice ca2 (C.length + 1) cc2,.slice va2 (V.length + 1) vc2,.slice ia cur.length ic]∧(w2.setCell ⟨ab,2,none⟩ (.slice va2 (V.length + 1) vc2)).ownsRow (ab + 1) 2 1 (.slice ca2 (C.length + 1) cc2) (C.length + 1) ((C ++ [code]).map (Value.int .i64))∧(w2.setCell ⟨ab,2,none⟩ (.slice va2 (V.length + 1) vc2)).ownsRow (ab + 1) 2 1 (.slice va2 (V.length + 1) vc2) (V.length + 1) ((V ++ [val]).map (Value.int .i64))∧(w2.setCell ⟨ab,2,none⟩ (.slice va2 (V.length + 1) vc2)).ownsRow base0 134 2 (.slice ia cur.length ic) cur.length (itemCells cur)∧Apart3 (.slice ca2 (C.length + 1) cc2) (.slice va2 (V.length + 1) vc2) (.slice ia cur.length ic)∧Below ab W3 (w2.setCell ⟨ab,2,none⟩ (.slice va2 (V.length + 1) vc2))∧ab + 1≤(w2.setCell ⟨ab,2,none⟩ (.slice va2 (V.length + 1) vc2)).heap.size):=⟨Bab,o1,o2,o3,ap2,hb,by omega⟩
    clear o1 o2 o3 oR Bab Bd hb
    subst hnx
    go_wp2
    go_roundw
    case rel=>
     refine ⟨k + 1,nx,C ++ [code],V ++ [val],ca2,cc2,va2,vc2,ia,ic,by omega,by go_num,?_,?_,?_,R.out.2.2.2.1,?_,hne3,R.out.2.2.2.2.2.1,R.out.2.2.2.2.2.2,HG2⟩
     ·simpa using R.out.1
     ·simpa using R.out.2.1
     ·simpa using R.out.2.2.1
     ·simpa using R.out.2.2.2.2.1
    case measure=>simp [intOf];omega
  ·have hkl:k=ds.length:=by omega
   subst hkl
   have HE:Hid (eaC xs ds=0∧eaCd xs ds=C∧eaVl xs ds=V∧eaI xs ds=cur):=by
    obtain ⟨_,_,g3,g4,g5,_,_⟩:=HG.out
    rw [List.drop_length] at g3 g4 g5
    obtain ⟨e1,e2,e3,e4⟩:=HOK.out
    exact ⟨e1,by rw [e2,← g4];simp [allCd],by rw [e3,← g5];simp [allVl],by rw [e4,← g3];rfl⟩
   replace B0:Blk wr _ _ _:=(hb.block _ hs0).trans B0
   have p0:=B0.cell 0 _ rfl
   have p1:=B0.cell 1 _ rfl
   have p2:=B0.cell 2 _ rfl
   have p3:=B0.cell 3 _ rfl
   have f0:=B0.frozen 0
   have f1:=B0.frozen 1
   have f2:=B0.frozen 2
   have f3:=B0.frozen 3
   have q0:=Bab.cell 0 _ rfl
   have q1:=Bab.cell 1 _ rfl
   have q2:=Bab.cell 2 _ rfl
   have q3:=Bab.cell 3 _ rfl
   have hlw:=B0.lt
   have hbw:Below w.heap.size w wr:=hb0.trans (hb.mono (by omega))
   clear B0 Bab HG
   go_wp2
   refine bodyPost_ret (v:=.agg #[.int .i64 0,.slice ca C.length cc,.slice va V.length vc,.slice ia cur.length ic]) (by simp [results,Tryz.results40,go_sem,p0,p1,p2,p3]) rfl ?_
   rw [HE.out.1,HE.out.2.1,HE.out.2.2.1,HE.out.2.2.2]
   refine ⟨_,_,_,_,_,_,rfl,⟨OwnS.of ?_,OwnS.of ?_,OwnS.of ?_,ap⟩,?_⟩
   ·refine own_base (base:=ab + 1) ?_ (by omega)
    repeat' (refine ownsRow_setCell_below ?_ (by dsimp only;omega) _)
    exact o1
   ·refine own_base (base:=ab + 1) ?_ (by omega)
    repeat' (refine ownsRow_setCell_below ?_ (by dsimp only;omega) _)
    exact o2
   ·refine own_base (base:=base0) ?_ (by omega)
    repeat' (refine ownsRow_setCell_below ?_ (by dsimp only;omega) _)
    exact o3
   ·repeat' (refine Below.setCell ?_ (by dsimp only;omega) _)
    exact hbw

end Go.Proofs.YtfdkcbafpiojkaaGreatDoor
namespace Go.Proofs.YtfdkcbafpiojkaaGreatDoor
open Go.RowKit
open Go.BigFrame
set_option maxRecDepth 100000
theorem frK_of {d fs:List TxnD} (h:frK d fs=false):∀ t∈fs,knw d t=false:=fun t ht=>by
 have:=List.any_eq_false.1 h t ht
 simpa using this

end Go.Proofs.YtfdkcbafpiojkaaGreatDoor
namespace Go.Proofs.YtfdkcbafpiojkaaGreatDoor
open Go.RowKit
set_option maxRecDepth 100000
theorem sameA_eq {x y:ActD} (h:sameA x y=true):x=y:=by
 obtain ⟨a,b,c⟩:=x
 obtain ⟨a',b',c'⟩:=y
 simp only [sameA,Bool.and_eq_true,beq_iff_eq] at h
 obtain ⟨rfl,rfl,rfl⟩:=h
 rfl

theorem sameAs_eq:∀ {x y:List ActD},sameAs x y=true→x=y
 | [],[],_=>rfl
 | [],_ :: _,h=>by simp [sameAs] at h
 | _ :: _,[],h=>by simp [sameAs] at h
 | a :: r,b :: s,h=>by
  simp only [sameAs,Bool.and_eq_true] at h
  rw [sameA_eq h.1,sameAs_eq h.2]

theorem sameT_eq {x y:TxnD} (h:sameT x y=true):x=y:=by
 obtain ⟨a,b,c,d⟩:=x
 obtain ⟨a',b',c',d'⟩:=y
 simp only [sameT,Bool.and_eq_true,beq_iff_eq] at h
 obtain ⟨⟨⟨rfl,rfl⟩,rfl⟩,h4⟩:=h
 rw [sameAs_eq h4]

theorem com_take:∀ (xs ys:List TxnD),xs.take (comN xs ys)=ys.take (comN xs ys)
 | [],ys=>by simp [comN]
 | x :: r,[]=>by simp [comN]
 | x :: r,y :: s=>by
  rw [comN]
  split
  ·rename_i h
   rw [List.take_succ_cons,List.take_succ_cons,com_take r s,sameT_eq h]
  ·simp

section
variable {ds ds' : List TxnD} (hB:bthF ds ds' = 0)
include hB
theorem plK_sub:(plK ds ds').Sublist ds:=by
 unfold plK
 rw [if_pos hB]
 split
 ·exact List.drop_sublist _ _
 ·exact List.filter_sublist.trans (List.drop_sublist _ _)

theorem plK_lst:lstF (plK ds ds')=0:=lst_sub (bth_zero hB).1 (plK_sub hB)

theorem plK_out:∀ t∈plK ds ds',knw ds' t=false:=by
 unfold plK
 rw [if_pos hB]
 split
 ·rename_i h0
  intro t ht
  have e:ds' = ds.take (comN ds ds'):=by
   rw [com_take]
   have:=List.take_append_drop (comN ds ds') ds'
   rw [h0,List.append_nil] at this
   exact this.symm
  rw [knw_false]
  intro a ha
  rw [e] at ha
  have h3:=((lst_iff ds).1 (bth_zero hB).1).2.2
  rw [← List.take_append_drop (comN ds ds') ds,List.pairwise_append] at h3
  exact h3.2.2 a ha t ht
 ·intro t ht
  have:=(List.mem_filter.1 ht).2
  simpa using this

theorem pl_n:plN ds ds' = (comN ds ds' : Int)∧plA ds ds' = ds'.drop (comN ds ds'):=⟨if_pos hB,if_pos hB⟩

end
end Go.Proofs.YtfdkcbafpiojkaaGreatDoor
namespace Go.Proofs.YtfdkcbafpiojkaaGreatDoor
set_option maxRecDepth 100000
/-- A delivery leaves a right replica. -/
theorem del_right {r:RepE} {fs:List TxnD} (h:dlC r fs=0):repF (mkR (r.done ++ fs) (plK r.tent fs))=0:=by
 obtain ⟨h0,hf,hk,hn,hB,hF1,hF2,hl8⟩:=dlC_zero h
 obtain ⟨⟨l1,l2⟩,l3,_⟩:=rep_zero h0
 obtain ⟨_,hA,hP⟩:=(lst_iff _).1 l3
 obtain ⟨_,_,hPf⟩:=(lst_iff _).1 hf
 obtain ⟨_,_,hPk⟩:=(lst_iff _).1 (plK_lst hB)
 obtain ⟨p1,p2,p3⟩:=List.pairwise_append.1 hP
 have hkf:=frK_of hk
 have hko:=plK_out hB
 refine mk_right (by rw [List.length_append];exact hn) hl8 ?_
 refine (lst_iff _).2 ⟨by rw [List.length_append,List.length_append];omega,fun x hx=>?_,?_⟩
 ·rcases List.mem_append.1 hx with hx | hx
  ·exact hF1 x hx
  ·exact hF2 x hx
 ·rw [List.pairwise_append,List.pairwise_append]
  refine ⟨⟨p1,hPf,fun a ha b hb=>knw_false.1 (hkf b hb) a ha⟩,hPk,fun a ha b hb=>?_⟩
  rcases List.mem_append.1 ha with ha | ha
  ·exact p3 a ha b (plK_sub9 hb)
  ·exact knw_false.1 (hko b hb) a ha

theorem del_base {r:RepE} {fs:List TxnD} (h:dlC r fs=0):eaI r.base fs=allI [] (r.done ++ fs):=by
 obtain ⟨h0,hf,hk,hn,hB,hF1,hF2,hl8⟩:=dlC_zero h
 obtain ⟨e1,e2,e3,hD,hE,b8,bg,n8,ng,_,t8⟩:=rep_parts h0
 have f1:itemsF r.base=0:=F_of_good b8 bg
 have f2:idsC fs=0:=ids_of (fun t ht=>hF1 t (List.mem_append_right _ ht)) (by omega)
 rw [(ea_ok f1 f2).2.2.2,allI_app,← e1]

theorem del_now {r:RepE} {fs:List TxnD} (h:dlC r fs=0) (hb:plA r.tent fs=[]):(mkR (r.done ++ fs) (plK r.tent fs)).now=r.now:=by
 obtain ⟨h0,hf,hk,hn,hB,hF1,hF2,hl8⟩:=dlC_zero h
 obtain ⟨e1,e2,e3,hD,hE,b8,bg,n8,ng,_,t8⟩:=rep_parts h0
 have hd:fs.drop (comN r.tent fs)=[]:=by
  have:=(pl_n hB).2
  rw [hb] at this
  exact this.symm
 have hK:=(pl_all hB hd).2.2.2
 have hc:=com_take r.tent fs
 have hfs:fs.take (comN r.tent fs)=fs:=by
  have:=List.take_append_drop (comN r.tent fs) fs
  rw [hd,List.append_nil] at this
  exact this
 show allI (allI [] (r.done ++ fs)) (plK r.tent fs)=r.now
 rw [hK,e2,e1,allI_app,← allI_app]
 congr 1
 rw [hfs] at hc
 conv=>lhs;arg 1;rw [← hc]
 exact List.take_append_drop _ _

end Go.Proofs.YtfdkcbafpiojkaaGreatDoor
