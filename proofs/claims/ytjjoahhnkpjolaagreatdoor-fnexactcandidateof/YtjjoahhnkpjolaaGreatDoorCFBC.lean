/- Texts joined, with what the laws reach alone. -/
import Derived.Test.YtjjoahhnkpjolaaGreatDoorCFBB
set_option linter.unusedVariables false
set_option linter.unusedSimpArgs false
namespace Go.Proofs.YtjjoahhnkpjolaaGreatDoor
open Go.RowKit Go.Maps
open Go.BigFrame
set_option maxRecDepth 100000
set_option maxRecDepth 100000 in
set_option maxHeartbeats 8000000 in
theorem l3All_any (a:Option Addr) (cap:Nat) (xs:List ItemD) (v:Value) (ds:List TxnD) (w:World) (h:ItemRow w a xs) (hN:Nice a xs.length cap) (ht:TxnsAt w v ds) (h0:itemsF xs=0) (h2:idsC ds=0) :
  Calls Tryz.prog 160 #[.slice a xs.length cap,v] w fun e w' => ∃ a1 c1 a2 c2 a3 c3,e=.returned (.agg #[.int .i64 (eaC xs ds),.slice a1 (eaCd xs ds).length c1,.slice a2 (eaVl xs ds).length c2,.slice a3 (eaI xs ds).length c3]) ∧
   OwnA w.heap.size w'.heap.size w' (.slice a1 (eaCd xs ds).length c1) (.slice a2 (eaVl xs ds).length c2) (.slice a3 (eaI xs ds).length c3) (eaCd xs ds) (eaVl xs ds) (eaI xs ds)∧Below w.heap.size w w' := by
 obtain ⟨h8,g⟩:=good_of_F h0
 obtain ⟨h60,hz⟩:=ids_zero h2
 have HZ:Hid (∀ t∈ds,t.F=0):=hz
 have HOK:Hid (eaC xs ds=0∧eaCd xs ds=allCd xs ds∧eaVl xs ds=allVl xs ds∧eaI xs ds=allI xs ds):=ea_ok h0 h2
 clear h0 h2 hz
 obtain ⟨i0,hi,hz0,hz1,hz2⟩:=info_parts infoI64
 have hbE:Below w.heap.size w ((w.alloc (.cells #[.int .i64 0,.slice none 0 0,.slice none 0 0,.slice none 0 0] 235)).alloc (.cells #[] 173)):=by go_grown
 have B0:=(Blk.new w 235 #[.int .i64 0,.slice none 0 0,.slice none 0 0,.slice none 0 0]).below (w' := (w.alloc (.cells #[.int .i64 0,.slice none 0 0,.slice none 0 0,.slice none 0 0] 235)).alloc (.cells #[] 173)) (by go_grown)
 have hoE:=World.ownsRow_lit (size:=2) (e:=173) (w.alloc (.cells #[.int .i64 0,.slice none 0 0,.slice none 0 0,.slice none 0 0] 235)) #[] 0 (Nat.le_refl _) (by decide) rfl
 rw [World.size_alloc] at hoE
 have hcp:∀ (ops:Array Oper) (rest:List Oper) (o:Oper) (act:Act) (Q:Exit→Act→World→Prop) (hgd:o.guard=none) (sx x:Operand) (ho:o.op=.call { callee:=.builtin .append,args:=#[sx,x],argTypes:=#[53,53] }) (hs:act.eval sx=.slice (some ⟨w.heap.size + 1,0,none⟩) 0 0) (hx:act.eval x=.slice a xs.length cap)
   (hh:∀ a' c' w',w'.ownsRow (w.heap.size + 1) 173 2 (.slice a' xs.length c') xs.length (itemCells xs)→Below (w.heap.size + 1) ((w.alloc (.cells #[.int .i64 0,.slice none 0 0,.slice none 0 0,.slice none 0 0] 235)).alloc (.cells #[] 173)) w' → wpList Tryz.prog ops Q rest (act.put o.dst (.slice a' xs.length c')) w'),wpList Tryz.prog ops Q (o :: rest) act ((w.alloc (.cells #[.int .i64 0,.slice none 0 0,.slice none 0 0,.slice none 0 0] 235)).alloc (.cells #[] 173)):=
  fun ops rest o act Q hgd sx x ho hs hx hh=>wpList_copy_items _ hgd sx x ho (w.heap.size + 1) (w.heap.size + 1) hs hoE a xs cap hx (h.below hbE) hN (by omega) (by simp) hh
 go_enter Tryz.func160,Tryz.ntmps160
 go_wp2_with (at_builtin;refine hcp _ _ _ _ _ rfl _ _ rfl rfl rfl ?_)
 intro ia0 ic0 W3 o30 hbc
 have hb0:Below w.heap.size w W3:=hbE.trans (hbc.mono (by omega))
 replace B0:Blk W3 _ _ _:=(hbc.block _ (by omega)).trans B0
 have hs0:w.heap.size < W3.heap.size:=B0.lt
 have ht3:=ht.below hb0
 clear hcp hoE hbE hbc h hN ht
 have hbN:Below W3.heap.size W3 (W3.alloc (.cells #[.int .i64 0,.slice none 0 0,.slice none 0 0,.slice ia0 xs.length ic0] 235)):=by go_grown
 have Bab0:=Blk.new W3 235 #[.int .i64 0,.slice none 0 0,.slice none 0 0,.slice ia0 xs.length ic0]
 have hne0:∀ k,(Value.slice ia0 xs.length ic0).ownBlock=some k→k≠W3.heap.size:=fun k hk=>by have:=(o30.lt k hk).2;omega
 replace o30:=own_below o30 hbN
 have hsz30:W3.heap.size + 1≤(W3.alloc (.cells #[.int .i64 0,.slice none 0 0,.slice none 0 0,.slice ia0 xs.length ic0] 235)).heap.size:=by simp
 have ht4:=ht3.shape
 obtain ⟨va0,vc0,rfl⟩:=ht4
 go_wp2
 generalize W3.alloc (.cells #[.int .i64 0,.slice none 0 0,.slice none 0 0,.slice ia0 xs.length ic0] 235)=W4 at hbN Bab0 o30 hsz30
 have hb30:Below W3.heap.size W3 W4:=hbN
 obtain ⟨base0,hbb⟩:∃ base0,base0=w.heap.size + 1:=⟨_,rfl⟩
 rw [← hbb] at o30
 generalize habE:W3.heap.size=ab at *
 go_loopw [6] (fun j wr=>∃ (k:Nat) (cur:List ItemD) (C V:List Int) (ca:Option Addr) (cc:Nat) (va:Option Addr) (vc:Nat) (ia:Option Addr) (ic:Nat),k≤ds.length∧j=.int .i64 k∧Blk wr ab 235 #[.int .i64 0,.slice ca C.length cc,.slice va V.length vc,.slice ia cur.length ic]∧wr.ownsRow (ab + 1) 2 1 (.slice ca C.length cc) C.length (C.map (Value.int .i64))∧wr.ownsRow (ab + 1) 2 1 (.slice va V.length vc) V.length (V.map (Value.int .i64))∧wr.ownsRow base0 173 2 (.slice ia cur.length ic) cur.length (itemCells cur)∧Apart3 (.slice ca C.length cc) (.slice va V.length vc) (.slice ia cur.length ic)∧(∀ k,(Value.slice ia cur.length ic).ownBlock=some k→k≠ab)∧Below ab W3 wr∧ab + 1≤wr.heap.size∧Hid (cur.length≤8∧Good cur∧allI cur (ds.drop k)=allI xs ds∧C ++ allCd cur (ds.drop k)=allCd xs ds∧V ++ allVl cur (ds.drop k)=allVl xs ds∧C.length=k∧V.length=k)) (fun j _=>ds.length - (intOf j).toNat)
 case atStart=>exact ⟨0,xs,[],[],none,0,none,0,ia0,ic0,Nat.zero_le _,rfl,Bab0,World.ownsRow_nil _ _ _ _,World.ownsRow_nil _ _ _ _,o30,⟨Or.inl rfl,Or.inl rfl,Or.inl rfl⟩,hne0,hb30,hsz30,⟨h8,g,by simp,by simp,by simp,rfl,rfl⟩⟩
 case round=>
  clear Bab0 o30 hb30 hsz30 hne0 hbN
  obtain ⟨k,cur,C,V,ca,cc,va,vc,ia,ic,hk,rfl,Bab,o1,o2,o3,ap,hne3,hb,hsz,HG⟩:=hrel
  have hR1:∀ g,(Value.slice ca C.length cc).ownBlock=some g→g < wr.heap.size:=fun g hg=>(o1.lt g hg).2
  have hR2:∀ g,(Value.slice va V.length vc).ownBlock=some g→g < wr.heap.size:=fun g hg=>(o2.lt g hg).2
  have hCl:C.length≤60:=by have:=HG.out.2.2.2.2.2.1;omega
  have hVl:V.length≤60:=by have:=HG.out.2.2.2.2.2.2;omega
  have hc8:=HG.out.1
  by_cases hlt:k < ds.length
  ·obtain ⟨b,off,aa,tc,rfl,hbs,t0,t1,t2,t3,hA⟩:=ht3.at k hlt
   rw [habE] at hbs
   have hF0:=HZ.out (ds.getD k txnNo) (by simp [List.getD,hlt])
   replace t0:wr.cell? ⟨b,off + k * 4,none⟩=_:=(hb.cell (p:=⟨b,off + k * 4,none⟩) hbs).trans t0
   replace t1:wr.cell? ⟨b,off + k * 4 + 1,none⟩=_:=(hb.cell (p:=⟨b,off + k * 4 + 1,none⟩) hbs).trans t1
   replace t2:wr.cell? ⟨b,off + k * 4 + 2,none⟩=_:=(hb.cell (p:=⟨b,off + k * 4 + 2,none⟩) hbs).trans t2
   replace t3:wr.cell? ⟨b,off + k * 4 + 3,none⟩=_:=(hb.cell (p:=⟨b,off + k * 4 + 3,none⟩) hbs).trans t3
   have hAr:ActRow wr aa (ds.getD k txnNo).acts:=hA.below (by rw [habE];exact hb)
   have hBx:Box4 wr b (off + k * 4) _ _ _ _:=⟨t0,t1,t2,t3⟩
   have hrI:ItemRow wr ia cur:=Lies.own o3
   have hcall:=fun u (hu:Below wr.heap.size wr u)=>l3Exec_any ia ic cur b (off + k * 4) (ds.getD k txnNo).id (ds.getD k txnNo).session (ds.getD k txnNo).seq aa tc (ds.getD k txnNo).acts u (hrI.below hu) (nice_own o3) (hBx.below hu) (hAr.below hu) HG.out.1 HG.out.2.1 hF0
   have HG2:Hid ((nextI cur (ds.getD k txnNo)).length≤8∧Good (nextI cur (ds.getD k txnNo))∧allI (nextI cur (ds.getD k txnNo)) (ds.drop (k + 1))=allI xs ds∧(C ++ [(runA cur (ds.getD k txnNo).acts).1]) ++ allCd (nextI cur (ds.getD k txnNo)) (ds.drop (k + 1))=allCd xs ds∧(V ++ [runV cur (ds.getD k txnNo).acts]) ++ allVl (nextI cur (ds.getD k txnNo)) (ds.drop (k + 1))=allVl xs ds∧(C ++ [(runA cur (ds.getD k txnNo).acts).1]).length=k + 1∧(V ++ [runV cur (ds.getD k txnNo).acts]).length=k + 1):=by
    obtain ⟨g1,g2,g3,g4,g5,g6,g7⟩:=HG.out
    rw [drop_txn hlt] at g3 g4 g5
    obtain ⟨n1,n2⟩:=nextI_good g1 g2 hF0
    exact ⟨n1,n2,g3,by simpa [allCd] using g4,by simpa [allVl] using g5,by simp [g6],by simp [g7]⟩
   have HNX:Hid ((runA cur (ds.getD k txnNo).acts).1=0→runR cur (ds.getD k txnNo).acts=nextI cur (ds.getD k txnNo)):=fun h=>by unfold runR nextI;rw [if_pos h,if_pos h]
   have HNY:Hid ((runA cur (ds.getD k txnNo).acts).1≠0→nextI cur (ds.getD k txnNo)=cur):=fun h=>if_neg h
   generalize (runA cur (ds.getD k txnNo).acts).1=code at hcall HG2 HNX HNY
   generalize runR cur (ds.getD k txnNo).acts=RL at hcall HNX
   generalize runV cur (ds.getD k txnNo).acts=val at hcall HG2
   generalize nextI cur (ds.getD k txnNo)=nx at HG2 HNX HNY
   clear hF0 hA HG t0 t1 t2 t3
   have k3:=Bab.lat 3 _ rfl
   go_wp2_with fail
   refine region_vals [some 18,some 19,some 20,some 21,some 22,some 23,some 7] (fun vs w' => ∃ (ra:Option Addr) (rc db:Nat),vs=[.pointer (some ⟨ab,3,none⟩),.slice ia cur.length ic,.slice (some ⟨b,off,none⟩) ds.length vc0,.int .i64 k,.pointer (some ⟨b,off + k * 4,none⟩),.agg #[.int .i64 code,.int .i64 val,.slice ra RL.length rc],.pointer (some ⟨db,0,none⟩)]∧wr.heap.size≤db∧Blk w' db 282 #[.int .i64 code,.int .i64 val,.slice ra RL.length rc]∧w'.ownsRow wr.heap.size 173 2 (.slice ra RL.length rc) RL.length (itemCells RL)∧Below wr.heap.size wr w') ?_ ?_
   ·have hW:Below wr.heap.size wr wr.drew:=(Below.refl _ _).drew
    have hne:Nonempty (Lat wr):=⟨⟨wr,Below.refl _ _⟩⟩
    refine text_begin (S:=fun w' => ∃ u:Lat wr,w' = u.val) (by kernel_rfl) ?_
    refine sgr [(0,5)] 3 (by kernel_rfl) ⟨⟨_,hW⟩,rfl⟩ ?_
    simp only [pkE]
    repeat go_big_quiet_step (fail)
    refine wpQuiet_nil ?_
    clear k3
    generalize wr.drew=yd at hW ⊢
    refine twa 5 6 2 (by kernel_rfl) ?_ ?_
    ·refine opc 5 (some 23) 196 #[.slice ia cur.length ic,.pointer (some ⟨b,off + k * 4,none⟩)] (by kernel_rfl) ?_
     refine (hcall _ hW).mono ?_
     rintro e w4 ⟨ra,rc,rfl,oR,hb4⟩
     have hs4:=hW.size
     replace oR:=own_base oR hs4
     replace hW:=hW.trans (hb4.mono hs4)
     refine ⟨_,rfl,⟨⟨_,hW⟩,rfl⟩,?_⟩
     simp only [Act.put,pgE,pjE]
     refine ona 6 1 rfl (by kernel_rfl) ?_
     have hbz:Below w4.heap.size w4 (w4.alloc (.cells #[.int .i64 0,.int .i64 0,.slice none 0 0] 282)):=by go_grown
     have Bz:=Blk.new w4 282 #[.int .i64 0,.int .i64 0,.slice none 0 0]
     have hnb:∀ k,(Value.slice ra RL.length rc).ownBlock=some k→k≠w4.heap.size:=fun k hk=>by have:=oR.lt k hk;omega
     have hzz:wr.heap.size≤w4.heap.size:=hW.size
     replace oR:=own_below oR hbz
     replace hW:=hW.trans (hbz.mono hzz)
     go_wp2
     refine ThenGo.to ⟨⟨⟨_,hW⟩,rfl⟩,?_⟩
     generalize w4.alloc (.cells #[.int .i64 0,.int .i64 0,.slice none 0 0] 282)=Z at hbz Bz oR hW ⊢
     clear hbz
     refine ona 7 0 rfl (by kernel_rfl) ?_
     have p0:=Bz.cell 0 _ rfl
     have f0:=Bz.frozen 0
     have p1:=Bz.cell 1 _ rfl
     have f1:=Bz.frozen 1
     have p2:=Bz.cell 2 _ rfl
     have f2:=Bz.frozen 2
     go_wp2
     refine ThenGo.to ⟨⟨⟨_,(((hW.setCell (p:=⟨w4.heap.size,0,none⟩) hzz (.int .i64 code)).setCell (p:=⟨w4.heap.size,1,none⟩) hzz (.int .i64 val)).setCell (p:=⟨w4.heap.size,2,none⟩) hzz (.slice ra RL.length rc))⟩,rfl⟩,?_⟩
     refine text_end (by kernel_rfl) ?_
     exact ⟨rfl,_,⟨ra,rc,w4.heap.size,rfl,hzz,(((Bz.set 0 (.int .i64 code)).set 1 (.int .i64 val)).set 2 (.slice ra RL.length rc)),(own_set_other (j:=2) (u:=.slice ra RL.length rc) (own_set_other (j:=1) (u:=.int .i64 val) (own_set_other (j:=0) (u:=.int .i64 code) oR hnb) hnb) hnb),(((hW.setCell (p:=⟨w4.heap.size,0,none⟩) hzz (.int .i64 code)).setCell (p:=⟨w4.heap.size,1,none⟩) hzz (.int .i64 val)).setCell (p:=⟨w4.heap.size,2,none⟩) hzz (.slice ra RL.length rc))⟩,by kernel_rfl⟩
    ·refine op_one 6 _ rfl ?_
     have hbz:Below yd.heap.size yd (yd.alloc (.cells #[.int .i64 0,.int .i64 0,.slice none 0 0] 282)):=by go_grown
     have Bz:=Blk.new yd 282 #[.int .i64 0,.int .i64 0,.slice none 0 0]
     have hzz:wr.heap.size≤yd.heap.size:=hW.size
     replace hW:=hW.trans (hbz.mono hzz)
     go_wp2
     refine ThenGo.to ⟨⟨⟨_,hW⟩,rfl⟩,?_⟩
     generalize yd.alloc (.cells #[.int .i64 0,.int .i64 0,.slice none 0 0] 282)=Y at hbz Bz hW ⊢
     clear hbz
     refine cla 5 (some 23) 196 #[.slice ia cur.length ic,.pointer (some ⟨b,off + k * 4,none⟩)] 1 (by kernel_rfl) ?_
     refine (hcall _ hW).mono ?_
     rintro e Z ⟨ra,rc,rfl,oR,hb4⟩
     have hnb:∀ k,(Value.slice ra RL.length rc).ownBlock=some k→k≠yd.heap.size:=fun k hk=>by have:=(oR.lt k hk).1;have:=Bz.lt;omega
     replace oR:=own_base oR hW.size
     replace Bz:=Bz.below hb4
     replace hW:=hW.trans (hb4.mono hW.size)
     refine ⟨_,rfl,⟨⟨_,hW⟩,rfl⟩,?_⟩
     simp only [Act.put,pgE,pjE]
     refine ona 7 0 rfl (by kernel_rfl) ?_
     have p0:=Bz.cell 0 _ rfl
     have f0:=Bz.frozen 0
     have p1:=Bz.cell 1 _ rfl
     have f1:=Bz.frozen 1
     have p2:=Bz.cell 2 _ rfl
     have f2:=Bz.frozen 2
     go_wp2
     refine ThenGo.to ⟨⟨⟨_,(((hW.setCell (p:=⟨yd.heap.size,0,none⟩) hzz (.int .i64 code)).setCell (p:=⟨yd.heap.size,1,none⟩) hzz (.int .i64 val)).setCell (p:=⟨yd.heap.size,2,none⟩) hzz (.slice ra RL.length rc))⟩,rfl⟩,?_⟩
     refine text_end (by kernel_rfl) ?_
     exact ⟨rfl,_,⟨ra,rc,yd.heap.size,rfl,hzz,(((Bz.set 0 (.int .i64 code)).set 1 (.int .i64 val)).set 2 (.slice ra RL.length rc)),(own_set_other (j:=2) (u:=.slice ra RL.length rc) (own_set_other (j:=1) (u:=.int .i64 val) (own_set_other (j:=0) (u:=.int .i64 code) oR hnb) hnb) hnb),(((hW.setCell (p:=⟨yd.heap.size,0,none⟩) hzz (.int .i64 code)).setCell (p:=⟨yd.heap.size,1,none⟩) hzz (.int .i64 val)).setCell (p:=⟨yd.heap.size,2,none⟩) hzz (.slice ra RL.length rc))⟩,by kernel_rfl⟩
   rintro vs w5 ⟨ra,rc,db,rfl,hdb,Bd,oR,hbT⟩
   simp only [putAll,Act.put,pjE]
   have hRR:∀ g,(Value.slice ra RL.length rc).ownBlock=some g→wr.heap.size≤g∧g < w5.heap.size:=fun g hg=>oR.lt g hg
   replace o1:=own_below o1 hbT
   replace o2:=own_below o2 hbT
   replace o3:=own_below o3 hbT
   replace Bab:=Bab.below hbT
   replace hb:=hb.trans (hbT.mono (by omega))
   have hs5:=hbT.size
   clear hcall hAr hrI hBx hbT k3
   generalize wr.heap.size=mb at *
   have hszc:w5.heap.size=w5.heap.size:=by first | rfl | simp
   have a1:=Bab.cell 1 _ rfl
   have b0:=Bd.cell 0 _ rfl
   have hbA:Below w5.heap.size w5 (w5.alloc (.cells #[.int .i64 code] 2)):=by go_grown
   have q1:=own_below o1 hbA
   have l2:=fun g hg=>(o2.lt g hg).2
   have l3:=fun g hg=>(o3.lt g hg).2
   go_wp2_with (at_builtin;refine wpList_append_own_at _ rfl _ _ 75 rfl (ab + 1) 2 i0 (.int .i64 0) 1 8 Tryz.underlying75 hi hz0 hz1 hz2 rfl (by decide) _ C.length (C.map (Value.int .i64)) rfl q1 ⟨w5.heap.size,0,none⟩ 1 1 [.int .i64 code] rfl rfl ?c1 ?c2 ?c3 ?c4 ?c5 ?_)
   all_goals try (case c1=>intro j u hj;match j,hj with | 0,hj=>simp at hj;subst hj;simp [Addr.add])
   all_goals try (case c2=>first | rfl | (intro u hu;simp at hu;subst hu;rfl))
   all_goals try (case c3=>unfold maxLen;omega)
   all_goals try (case c4=>omega)
   all_goals try (case c5=>first | omega | (simp;omega))
   intro v' w1 hown hgrow _ hloc
   obtain ⟨ca2,cc2,rfl⟩:=own_shape hown
   clear a1 b0
   have hB1:Below (ab + 1) w5 w1:=((Below.refl _ _).alloc (by omega) _).grown hgrow (by simp;omega) (fun k hk=>(o1.lt k hk).1)
   have hs1:w5.heap.size≤w1.heap.size:=hB1.size
   have hC2:∀ g,(Value.slice ca2 (C.length + 1) cc2).ownBlock=some g→g < mb∨w5.heap.size≤g:=fun g hg=>by
    rcases hloc with e | e
    ·exact Or.inl (hR1 g (by rw [← e];exact hg))
    ·rw [hg] at e;simp at e;right;omega
   have ap1:Apart3 (.slice ca2 (C.length + 1) cc2) (.slice va V.length vc) (.slice ia cur.length ic):=ap.grow1 (w:=w5.alloc (.cells #[.int .i64 code] 2)) (by simpa using hloc) (fun g hg=>by have:=l2 g hg;simp;omega) (fun g hg=>by have:=l3 g hg;simp;omega)
   replace o2:=(own_below o2 hbA).kept hgrow (ne_swap ap.a12)
   replace o3:=(own_below o3 hbA).kept hgrow (ne_swap ap.a13)
   replace oR:=(own_below oR hbA).kept hgrow (apartG (fun g h1 h2=>by have:=hRR g h1;have:=hR1 g h2;omega))
   replace Bd:=(Bd.below hbA).grown hgrow (by intro e;have:=hR1 db e.symm;omega)
   replace Bab:Blk w1 ab 235 #[.int .i64 0,.slice ca C.length cc,.slice va V.length vc,.slice ia cur.length ic]:=(hB1.block _ (by omega)).trans Bab
   replace o1:w1.ownsRow (ab + 1) 2 1 (.slice ca2 (C.length + 1) cc2) (C.length + 1) ((C ++ [code]).map (Value.int .i64)):=by simpa using hown
   replace hb:=hb.trans (hB1.mono (by omega))
   clear hown hgrow hloc q1 l2 l3 hbA hB1 ap
   have d1:=Bab.cell 1 _ rfl
   have d2:=Bab.frozen 1
   replace o1:=ownsRow_setCell_below (a:=⟨ab,1,none⟩) o1 (by dsimp only;omega) (.slice ca2 (C.length + 1) cc2)
   replace o2:=ownsRow_setCell_below (a:=⟨ab,1,none⟩) o2 (by dsimp only;omega) (.slice ca2 (C.length + 1) cc2)
   replace o3:=own_set_other (j:=1) (u:=.slice ca2 (C.length + 1) cc2) o3 hne3
   replace oR:=ownsRow_setCell_below (a:=⟨ab,1,none⟩) oR (by dsimp only;omega) (.slice ca2 (C.length + 1) cc2)
   replace Bab:Blk (w1.setCell ⟨ab,1,none⟩ (.slice ca2 (C.length + 1) cc2)) ab 235 #[.int .i64 0,.slice ca2 (C.length + 1) cc2,.slice va V.length vc,.slice ia cur.length ic]:=by simpa using Bab.set 1 (.slice ca2 (C.length + 1) cc2)
   replace Bd:Blk (w1.setCell ⟨ab,1,none⟩ (.slice ca2 (C.length + 1) cc2)) (db) 282 #[.int .i64 code,.int .i64 val,.slice ra RL.length rc]:=Bd.otherG (by omega)
   replace hb:=hb.setCell (p:=⟨ab,1,none⟩) (Nat.le_refl _) (.slice ca2 (C.length + 1) cc2)
   replace hs1:w5.heap.size≤(w1.setCell ⟨ab,1,none⟩ (.slice ca2 (C.length + 1) cc2)).heap.size:=by simpa [World.setCell] using hs1
   have a2:=Bab.cell 2 _ rfl
   have b1:=Bd.cell 1 _ rfl
   have hbA:Below (w1.setCell ⟨ab,1,none⟩ (.slice ca2 (C.length + 1) cc2)).heap.size (w1.setCell ⟨ab,1,none⟩ (.slice ca2 (C.length + 1) cc2)) ((w1.setCell ⟨ab,1,none⟩ (.slice ca2 (C.length + 1) cc2)).alloc (.cells #[.int .i64 val] 2)):=by go_grown
   have q2:=own_below o2 hbA
   have l1:=fun g hg=>(o1.lt g hg).2
   have l3:=fun g hg=>(o3.lt g hg).2
   have hsX:(w1.setCell ⟨ab,1,none⟩ (.slice ca2 (C.length + 1) cc2)).heap.size=w1.heap.size:=by simp [World.setCell]
   have hsrc2:∀ j u,[Value.int .i64 val][j]? = some u→((w1.setCell ⟨ab,1,none⟩ (.slice ca2 (C.length + 1) cc2)).alloc (.cells #[.int .i64 val] 2)).cell? ((⟨w1.heap.size,0,none⟩:Addr).add j)=some u:=by
    intro j u hj
    match j,hj with
    | 0,hj=>
     simp at hj
     subst hj
     rw [← hsX,Addr.add_lit]
     exact (Blk.new (w1.setCell ⟨ab,1,none⟩ (.slice ca2 (C.length + 1) cc2)) 2 #[.int .i64 val]).cell 0 _ rfl
   go_wp2_with (at_builtin;refine wpList_append_own_at _ rfl _ _ 75 rfl (ab + 1) 2 i0 (.int .i64 0) 1 8 Tryz.underlying75 hi hz0 hz1 hz2 rfl (by decide) _ V.length (V.map (Value.int .i64)) rfl q2 ⟨w1.heap.size,0,none⟩ 1 1 [.int .i64 val] rfl rfl hsrc2 ?c2 ?c3 ?c4 ?c5 ?_)
   all_goals try (case c1=>intro j u hj;match j,hj with | 0,hj=>simp at hj;subst hj;simp [Addr.add])
   all_goals try (case c2=>first | rfl | (intro u hu;simp at hu;subst hu;rfl))
   all_goals try (case c3=>unfold maxLen;omega)
   all_goals try (case c4=>omega)
   all_goals try (case c5=>first | omega | (simp;omega))
   intro v' w2 hown hgrow _ hloc
   obtain ⟨va2,vc2,rfl⟩:=own_shape hown
   clear a2 b1 d1 d2
   have hB2:Below (ab + 1) (w1.setCell ⟨ab,1,none⟩ (.slice ca2 (C.length + 1) cc2)) w2:=((Below.refl _ _).alloc (by omega) _).grown hgrow (by simp;omega) (fun k hk=>(o2.lt k hk).1)
   have hs2:w5.heap.size≤w2.heap.size:=Nat.le_trans hs1 hB2.size
   have hV2:∀ g,(Value.slice va2 (V.length + 1) vc2).ownBlock=some g→g < mb∨w5.heap.size≤g:=fun g hg=>by
    rcases hloc with e | e
    ·exact Or.inl (hR2 g (by rw [← e];exact hg))
    ·rw [hg] at e;simp at e;right;omega
   have ap2:Apart3 (.slice ca2 (C.length + 1) cc2) (.slice va2 (V.length + 1) vc2) (.slice ia cur.length ic):=ap1.grow2 (w:=(w1.setCell ⟨ab,1,none⟩ (.slice ca2 (C.length + 1) cc2)).alloc (.cells #[.int .i64 val] 2)) (by simpa using hloc) (fun g hg=>by have:=l1 g hg;simp;omega) (fun g hg=>by have:=l3 g hg;simp;omega)
   replace o1:=(own_below o1 hbA).kept hgrow ap1.a12
   replace o3:=(own_below o3 hbA).kept hgrow (ne_swap ap1.a23)
   replace oR:=(own_below oR hbA).kept hgrow (apartG (fun g h1 h2=>by have:=hRR g h1;have:=hR2 g h2;omega))
   replace Bd:=(Bd.below hbA).grown hgrow (by intro e;have:=hR2 db e.symm;omega)
   replace Bab:Blk w2 ab 235 #[.int .i64 0,.slice ca2 (C.length + 1) cc2,.slice va V.length vc,.slice ia cur.length ic]:=(hB2.block _ (by omega)).trans Bab
   replace o2:w2.ownsRow (ab + 1) 2 1 (.slice va2 (V.length + 1) vc2) (V.length + 1) ((V ++ [val]).map (Value.int .i64)):=by simpa using hown
   replace hb:=hb.trans (hB2.mono (by omega))
   clear hown hgrow hloc q2 l1 l3 hbA hB2 ap1 hsX hs1 hsrc2
   have d1:=Bab.cell 2 _ rfl
   have d2:=Bab.frozen 2
   replace o1:=ownsRow_setCell_below (a:=⟨ab,2,none⟩) o1 (by dsimp only;omega) (.slice va2 (V.length + 1) vc2)
   replace o2:=ownsRow_setCell_below (a:=⟨ab,2,none⟩) o2 (by dsimp only;omega) (.slice va2 (V.length + 1) vc2)
   replace o3:=own_set_other (j:=2) (u:=.slice va2 (V.length + 1) vc2) o3 hne3
   replace oR:=ownsRow_setCell_below (a:=⟨ab,2,none⟩) oR (by dsimp only;omega) (.slice va2 (V.length + 1) vc2)
   replace Bab:Blk (w2.setCell ⟨ab,2,none⟩ (.slice va2 (V.length + 1) vc2)) ab 235 #[.int .i64 0,.slice ca2 (C.length + 1) cc2,.slice va2 (V.length + 1) vc2,.slice ia cur.length ic]:=by simpa using Bab.set 2 (.slice va2 (V.length + 1) vc2)
   replace Bd:Blk (w2.setCell ⟨ab,2,none⟩ (.slice va2 (V.length + 1) vc2)) (db) 282 #[.int .i64 code,.int .i64 val,.slice ra RL.length rc]:=Bd.otherG (by omega)
   replace hb:=hb.setCell (p:=⟨ab,2,none⟩) (Nat.le_refl _) (.slice va2 (V.length + 1) vc2)
   replace hs2:w5.heap.size≤(w2.setCell ⟨ab,2,none⟩ (.slice va2 (V.length + 1) vc2)).heap.size:=by simpa [World.setCell] using hs2
   have b0:=Bd.cell 0 _ rfl
   have b2:=Bd.cell 2 _ rfl
   have a3:=Bab.cell 3 _ rfl
   have a4:=Bab.frozen 3
   by_cases hc:code=0
   ·obtain rfl:RL=nx:=HNX.out hc
    have apR:Apart3 (.slice ca2 (C.length + 1) cc2) (.slice va2 (V.length + 1) vc2) (.slice ra RL.length rc):=⟨ap2.a12,apartG (fun g h1 h2=>by have:=hRR g h2;have:=hC2 g h1;omega),apartG (fun g h1 h2=>by have:=hRR g h2;have:=hV2 g h1;omega)⟩
    have hsX3:((w2.setCell ⟨ab,2,none⟩ (.slice va2 (V.length + 1) vc2)).setCell ⟨ab,3,none⟩ (.slice ra RL.length rc)).heap.size=(w2.setCell ⟨ab,2,none⟩ (.slice va2 (V.length + 1) vc2)).heap.size:=by simp [World.setCell]
    have R:Hid (Blk ((w2.setCell ⟨ab,2,none⟩ (.slice va2 (V.length + 1) vc2)).setCell ⟨ab,3,none⟩ (.slice ra RL.length rc)) ab 235 #[.int .i64 0,.slice ca2 (C.length + 1) cc2,.slice va2 (V.length + 1) vc2,.slice ra RL.length rc]∧((w2.setCell ⟨ab,2,none⟩ (.slice va2 (V.length + 1) vc2)).setCell ⟨ab,3,none⟩ (.slice ra RL.length rc)).ownsRow (ab + 1) 2 1 (.slice ca2 (C.length + 1) cc2) (C.length + 1) ((C ++ [code]).map (Value.int .i64))∧((w2.setCell ⟨ab,2,none⟩ (.slice va2 (V.length + 1) vc2)).setCell ⟨ab,3,none⟩ (.slice ra RL.length rc)).ownsRow (ab + 1) 2 1 (.slice va2 (V.length + 1) vc2) (V.length + 1) ((V ++ [val]).map (Value.int .i64))∧((w2.setCell ⟨ab,2,none⟩ (.slice va2 (V.length + 1) vc2)).setCell ⟨ab,3,none⟩ (.slice ra RL.length rc)).ownsRow mb 173 2 (.slice ra RL.length rc) RL.length (itemCells RL)∧Below ab W3 ((w2.setCell ⟨ab,2,none⟩ (.slice va2 (V.length + 1) vc2)).setCell ⟨ab,3,none⟩ (.slice ra RL.length rc))∧ab + 1≤((w2.setCell ⟨ab,2,none⟩ (.slice va2 (V.length + 1) vc2)).setCell ⟨ab,3,none⟩ (.slice ra RL.length rc)).heap.size):=
     ⟨by simpa using Bab.set 3 (.slice ra RL.length rc),ownsRow_setCell_below o1 (by dsimp only;omega) _,ownsRow_setCell_below o2 (by dsimp only;omega) _,ownsRow_setCell_below oR (by dsimp only;omega) _,hb.setCell (p:=⟨ab,3,none⟩) (Nat.le_refl _) _,by omega⟩
    clear o1 o2 o3 oR Bab Bd hb
    subst hc
    go_wp2
    go_roundw
    case rel=>
     refine ⟨k + 1,RL,C ++ [0],V ++ [val],ca2,cc2,va2,vc2,ra,rc,by omega,by go_num,?_,?_,?_,?_,?_,?_,R.out.2.2.2.2.1,R.out.2.2.2.2.2,HG2⟩
     ·simpa using R.out.1
     ·simpa using R.out.2.1
     ·simpa using R.out.2.2.1
     ·exact own_base R.out.2.2.2.1 (by omega)
     ·simpa using apR
     ·intro k hk;have:=hRR k hk;omega
    case measure=>simp [intOf];omega
   ·have hce:(code == 0)=false:=by simp [hc]
    have hnx:nx=cur:=HNY.out hc
    have R:Hid (Blk (w2.setCell ⟨ab,2,none⟩ (.slice va2 (V.length + 1) vc2)) ab 235 #[.int .i64 0,.slice ca2 (C.length + 1) cc2,.slice va2 (V.length + 1) vc2,.slice ia cur.length ic]∧(w2.setCell ⟨ab,2,none⟩ (.slice va2 (V.length + 1) vc2)).ownsRow (ab + 1) 2 1 (.slice ca2 (C.length + 1) cc2) (C.length + 1) ((C ++ [code]).map (Value.int .i64))∧(w2.setCell ⟨ab,2,none⟩ (.slice va2 (V.length + 1) vc2)).ownsRow (ab + 1) 2 1 (.slice va2 (V.length + 1) vc2) (V.length + 1) ((V ++ [val]).map (Value.int .i64))∧(w2.setCell ⟨ab,2,none⟩ (.slice va2 (V.length + 1) vc2)).ownsRow base0 173 2 (.slice ia cur.length ic) cur.length (itemCells cur)∧Apart3 (.slice ca2 (C.length + 1) cc2) (.slice va2 (V.length + 1) vc2) (.slice ia cur.length ic)∧Below ab W3 (w2.setCell ⟨ab,2,none⟩ (.slice va2 (V.length + 1) vc2))∧ab + 1≤(w2.setCell ⟨ab,2,none⟩ (.slice va2 (V.length + 1) vc2)).heap.size):=⟨Bab,o1,o2,o3,ap2,hb,by omega⟩
    clear o1 o2 o3 oR Bab Bd hb
    subst hnx
    go_wp2
    go_roundw
    case rel=>
     refine ⟨k + 1,nx,C ++ [code],V ++ [val],ca2,cc2,va2,vc2,ia,ic,by omega,by go_num,?_,?_,?_,R.out.2.2.2.1,?_,hne3,R.out.2.2.2.2.2.1,R.out.2.2.2.2.2.2,HG2⟩
     ·simpa using R.out.1
     ·simpa using R.out.2.1
     ·simpa using R.out.2.2.1
     ·simpa using R.out.2.2.2.2.1
    case measure=>simp [intOf];omega
  ·have hkl:k=ds.length:=by omega
   subst hkl
   have HE:Hid (eaC xs ds=0∧eaCd xs ds=C∧eaVl xs ds=V∧eaI xs ds=cur):=by
    obtain ⟨_,_,g3,g4,g5,_,_⟩:=HG.out
    rw [List.drop_length] at g3 g4 g5
    obtain ⟨e1,e2,e3,e4⟩:=HOK.out
    exact ⟨e1,by rw [e2,← g4];simp [allCd],by rw [e3,← g5];simp [allVl],by rw [e4,← g3];rfl⟩
   replace B0:Blk wr _ _ _:=(hb.block _ hs0).trans B0
   obtain ⟨p0,p1,p2,p3⟩:=B0.cel4
   obtain ⟨f0,f1,f2,f3⟩:=B0.frz4
   obtain ⟨q0,q1,q2,q3⟩:=Bab.cel4
   have hlw:=B0.lt
   have hbw:Below w.heap.size w wr:=hb0.trans (hb.mono (by omega))
   clear B0 Bab HG
   go_wp2
   refine bodyPost_ret (v:=.agg #[.int .i64 0,.slice ca C.length cc,.slice va V.length vc,.slice ia cur.length ic]) (by simp [results,Tryz.results160,go_sem,p0,p1,p2,p3]) rfl ?_
   rw [HE.out.1,HE.out.2.1,HE.out.2.2.1,HE.out.2.2.2]
   refine ⟨_,_,_,_,_,_,rfl,⟨OwnS.of ?_,OwnS.of ?_,OwnS.of ?_,ap⟩,?_⟩
   ·refine own_base (base:=ab + 1) ?_ (by omega)
    repeat' (refine ownsRow_setCell_below ?_ (by dsimp only;omega) _)
    exact o1
   ·refine own_base (base:=ab + 1) ?_ (by omega)
    repeat' (refine ownsRow_setCell_below ?_ (by dsimp only;omega) _)
    exact o2
   ·refine own_base (base:=base0) ?_ (by omega)
    repeat' (refine ownsRow_setCell_below ?_ (by dsimp only;omega) _)
    exact o3
   ·repeat' (refine Below.setCell ?_ (by dsimp only;omega) _)
    exact hbw

end Go.Proofs.YtjjoahhnkpjolaaGreatDoor
namespace Go.Proofs.YtjjoahhnkpjolaaGreatDoor
open Go.RowKit
open Go.BigFrame
set_option maxRecDepth 100000
theorem allF_of:∀ {ds:List TxnD},(∀ t∈ds,t.F=0)→allF ds=0
 | [],_=>rfl
 | d :: r,h=>by
  rw [allF,if_pos (h d (by simp))]
  exact allF_of (fun t ht=>h t (List.mem_cons_of_mem _ ht))

theorem ids_of {ds:List TxnD} (h:∀ t∈ds,t.F=0) (hl:ds.length≤60):idsC ds=0:=by
 unfold idsC
 rw [if_neg (by omega)]
 exact allF_of h

theorem fieldA3 (c:Int) (a1 a2 a3:Option Addr) (n1 k1 n2 k2 n3 k3:Nat) (w:World):(Instr.field 235 (.agg #[.int .i64 c,.slice a1 n1 k1,.slice a2 n2 k2,.slice a3 n3 k3]) 3).run Tryz.prog w=.ok (.slice a3 n3 k3) w:=by kernel_rfl

set_option maxRecDepth 100000 in
set_option maxHeartbeats 16000000 in
theorem l9Make_any (v1 v2:Value) (ps qs:List TxnQ) (w:World) (h1:txnK.At w v1 ps) (h2:txnK.At w v2 qs) (hF1:∀ p∈ps,(TxnQ.e p).F=0) (hF2:∀ p∈qs,(TxnQ.e p).F=0) (hl1:ps.length≤40) (hl2:qs.length≤40) :
  Calls Tryz.prog 117 #[v1,v2] w fun e w' => ∃ p:RepQ,e=.returned (.agg #[p.vd,p.vb,p.vt,p.vu,p.vn])∧p.e=mkR (ps.map TxnQ.e) (qs.map TxnQ.e)∧repK.own w' p∧(repK.foot p).Nodup∧(∀ k∈repK.foot p,w.heap.size≤k)∧Below w.heap.size w w' := by
 have hFD:∀ t∈ps.map TxnQ.e,t.F=0:=fun t ht=>by obtain ⟨p,hp,rfl⟩:=List.mem_map.1 ht;exact hF1 p hp
 have hFE:∀ t∈qs.map TxnQ.e,t.F=0:=fun t ht=>by obtain ⟨p,hp,rfl⟩:=List.mem_map.1 ht;exact hF2 p hp
 have hne:∀ (l:List TxnQ),(∀ p∈l,(TxnQ.e p).F=0)→∀ p∈l,0 < p.acts.length:=fun l hl p hp=>by
  have:=(acts_of_F (show txnF p.i p.s p.q p.acts=0 from hl p hp)).1
  omega
 have m1:=few_n hFD
 have m2:=few_n hFE
 have gD:=allI_good (xs:=[]) (by simp) nil_good hFD
 have hids:=ids_of hFD (by rw [List.length_map];omega)
 obtain ⟨z1,z2,z3,z4⟩:=ea_ok (xs:=[]) nil_items hids
 obtain ⟨a,cap,rfl⟩:=h1.shape
 obtain ⟨a',cap',rfl⟩:=h2.shape
 have hb0:Below w.heap.size w (w.alloc (.cells #[.slice none 0 0,.slice none 0 0,.slice none 0 0,.slice none 0 0,.slice none 0 0] 56)):=by go_grown
 have Bv:=Blk.new w 56 #[.slice none 0 0,.slice none 0 0,.slice none 0 0,.slice none 0 0,.slice none 0 0]
 have hs0:w.heap.size + 1≤(w.alloc (.cells #[.slice none 0 0,.slice none 0 0,.slice none 0 0,.slice none 0 0,.slice none 0 0] 56)).heap.size:=by simp only [World.size_alloc];omega
 have hc1:=fun w h=>l2CopyAll_any (.slice a ps.length cap) ps w h (hne ps hF1) (by omega)
 have hc2:=fun w h=>l2CopyAll_any (.slice a' qs.length cap') qs w h (hne qs hF2) (by omega)
 have hc3:=fun w h=>l3All_any none 0 [] (.slice a ps.length cap) (ps.map TxnQ.e) w (Or.inl rfl) (Or.inr ⟨rfl,rfl,rfl⟩) (txnsAt_of' h) nil_items hids
 rw [z1,z2,z3,z4] at hc3
 have hR:=fun (w' : World) (hb:Below w.heap.size w w')=>And.intro (h1.below hb) (h2.below hb)
 clear z1 z2 z3 z4 hids m1 m2 hne h1 h2 hFE
 simp only [List.length_nil] at hc3
 go_enter Tryz.func117,Tryz.ntmps117
 go_wp2_with fail
 have hr0:=hR _ hb0
 generalize w.alloc (.cells #[.slice none 0 0,.slice none 0 0,.slice none 0 0,.slice none 0 0,.slice none 0 0] 56)=W0 at *
 generalize hH:w.heap.size=H at *
 refine (hc1 W0 hr0.1).mono ?_
 rintro e w1 ⟨v',q1,rfl,e1,o1,n1,g1,hb⟩
 obtain ⟨a1,k1,rfl⟩:=o1.shape
 have i1:=o1.lt
 have s1:=hb.size
 replace Bv:=Bv.below hb
 replace hb0:=hb0.trans (hb.mono (by omega))
 have hr1:=hR _ hb0
 clear hb hc1
 go_wp2_with fail
 refine (hc2 w1 hr1.2).mono ?_
 rintro e w2 ⟨v',q3,rfl,e3,o3,n3,g3,hb⟩
 obtain ⟨a2,k2,rfl⟩:=o3.shape
 have i3:=o3.lt
 have s2:=hb.size
 replace Bv:=Bv.below hb
 replace o1:=o1.below hb
 replace hb0:=hb0.trans (hb.mono (by omega))
 have hr2:=hR _ hb0
 clear hb hc2
 go_wp2_with fail
 refine (hc3 w2 hr2.1).mono ?_
 rintro e w3 ⟨b1,c1,b2,c2,b3,c3,rfl,hA,hb⟩
 obtain ⟨oB,gB⟩:=ownS_kind hA.o3
 have iB:=own_blk oB
 have s3:=hb.size
 replace Bv:=Bv.below hb
 replace o1:=o1.below hb
 replace o3:=o3.below hb
 replace hb0:=hb0.trans (hb.mono (by omega))
 have hr3:=hR _ hb0
 clear hb hc3 hA
 have hf3:=fieldA3 0 b1 b2 b3 (allCd [] (ps.map TxnQ.e)).length c1 (allVl [] (ps.map TxnQ.e)).length c2 (allI [] (ps.map TxnQ.e)).length c3 w3
 have oB' : itemK.Own w3 (.slice b3 (allI [] (ps.map TxnQ.e)).length c3) (allI [] (ps.map TxnQ.e)):=⟨oB,fun _ _=>trivial⟩
 have hbG:Below w3.heap.size w3 (w3.alloc (.cells #[.slice a1 q1.length k1,.slice b3 (allI [] (ps.map TxnQ.e)).length c3,.slice a2 q3.length k2,.slice none 0 0,.slice none 0 0] 56)):=by go_grown
 have Bg:=Blk.new w3 56 #[.slice a1 q1.length k1,.slice b3 (allI [] (ps.map TxnQ.e)).length c3,.slice a2 q3.length k2,.slice none 0 0,.slice none 0 0]
 replace Bv:=Bv.below hbG
 replace o1:=o1.below hbG
 replace o3:=o3.below hbG
 replace oB' := oB'.below hbG
 replace hb0:=hb0.trans (hbG.mono (by omega))
 have hr4:=hR _ hb0
 have s4:=hbG.size
 have hgl:=Bg.lt
 have hte:=l9Tent_any b3 c3 (allI [] (ps.map TxnQ.e)) (.slice a' qs.length cap') qs _ oB'.at (oB'.niceV _ _ _ rfl) hr4.2 hF2 hl2 gD.1 gD.2
 have x1:=Bg.cell 1 _ rfl
 go_wp2_with fail
 clear hf3 x1 hbG oB
 generalize hW4:w3.alloc (.cells #[.slice a1 q1.length k1,.slice b3 (allI [] (ps.map TxnQ.e)).length c3,.slice a2 q3.length k2,.slice none 0 0,.slice none 0 0] 56)=w4 at *
 clear hW4
 generalize hg:w3.heap.size=g at *
 refine hte.mono ?_
 rintro e w5 ⟨ua,uc,na,nc,us,ys,rfl,eU,eY,oU,oY,nU,gU,gY,hb⟩
 clear hte
 have s5:=hb.size
 have iU:=oU.lt
 have iY:=own_blk oY.1
 replace Bv:=Bv.below hb
 replace Bg:=Bg.below hb
 replace o1:=o1.below hb
 replace o3:=o3.below hb
 replace oB' := oB'.below hb
 replace hb0:=hb0.trans (hb.mono (by omega))
 clear hb hr0 hr1 hr2 hr3 hr4 hR
 have y3:=Bg.cell 3 _ rfl
 have y4:=Bg.cell 4 _ rfl
 have f3:=Bg.frozen 3
 have f4:=Bg.frozen 4
 have B2:Blk ((w5.setCell ⟨g,3,none⟩ (.slice ua us.length uc)).setCell ⟨g,4,none⟩ (.slice na ys.length nc)) g 56 #[.slice a1 q1.length k1,.slice b3 (allI [] (ps.map TxnQ.e)).length c3,.slice a2 q3.length k2,.slice ua us.length uc,.slice na ys.length nc]:=by
  have:=(Bg.set 3 (.slice ua us.length uc)).set 4 (.slice na ys.length nc)
  simpa using this
 have Bv2:=(Bv.other (b' := g) (by omega) 3 (.slice ua us.length uc)).other (b' := g) (by omega) 4 (.slice na ys.length nc)
 have hS2:Out [g] w5 ((w5.setCell ⟨g,3,none⟩ (.slice ua us.length uc)).setCell ⟨g,4,none⟩ (.slice na ys.length nc)):=(Out.setCell w5 g 3 _).trans (Out.setCell _ g 4 _)
 have RF:Hid (∀ u0 u1 u2 u3 u4:Value,repK.own (((((((w5.setCell ⟨g,3,none⟩ (.slice ua us.length uc)).setCell ⟨g,4,none⟩ (.slice na ys.length nc)).setCell ⟨H,0,none⟩ u0).setCell ⟨H,1,none⟩ u1).setCell ⟨H,2,none⟩ u2).setCell ⟨H,3,none⟩ u3).setCell ⟨H,4,none⟩ u4) (⟨.slice a1 q1.length k1,q1,.slice b3 (allI [] (ps.map TxnQ.e)).length c3,allI [] (ps.map TxnQ.e),.slice a2 q3.length k2,q3,.slice ua us.length uc,us,.slice na ys.length nc,ys⟩:RepQ)∧Below H w (((((((w5.setCell ⟨g,3,none⟩ (.slice ua us.length uc)).setCell ⟨g,4,none⟩ (.slice na ys.length nc)).setCell ⟨H,0,none⟩ u0).setCell ⟨H,1,none⟩ u1).setCell ⟨H,2,none⟩ u2).setCell ⟨H,3,none⟩ u3).setCell ⟨H,4,none⟩ u4)):=fun u0 u1 u2 u3 u4=>by
  have hS:Out [H] ((w5.setCell ⟨g,3,none⟩ (.slice ua us.length uc)).setCell ⟨g,4,none⟩ (.slice na ys.length nc)) (((((((w5.setCell ⟨g,3,none⟩ (.slice ua us.length uc)).setCell ⟨g,4,none⟩ (.slice na ys.length nc)).setCell ⟨H,0,none⟩ u0).setCell ⟨H,1,none⟩ u1).setCell ⟨H,2,none⟩ u2).setCell ⟨H,3,none⟩ u3).setCell ⟨H,4,none⟩ u4):=((((Out.setCell _ H 0 u0).trans (Out.setCell _ H 1 u1)).trans (Out.setCell _ H 2 u2)).trans (Out.setCell _ H 3 u3)).trans (Out.setCell _ H 4 u4)
  have hA:Out [g,H] w5 (((((((w5.setCell ⟨g,3,none⟩ (.slice ua us.length uc)).setCell ⟨g,4,none⟩ (.slice na ys.length nc)).setCell ⟨H,0,none⟩ u0).setCell ⟨H,1,none⟩ u1).setCell ⟨H,2,none⟩ u2).setCell ⟨H,3,none⟩ u3).setCell ⟨H,4,none⟩ u4):=(hS2.mono (fun x hx=>by simp only [List.mem_singleton] at hx;simp [hx])).trans (hS.mono (fun x hx=>by simp only [List.mem_singleton] at hx;simp [hx]))
  have nn:∀ x,x≠g→x≠H→x ∉ [g,H]:=fun x h1 h2 hm=>by
   simp only [List.mem_cons,List.not_mem_nil,or_false] at hm
   omega
  refine ⟨⟨o1.out hA (fun x hx=>nn x (by have:=i1 x hx;omega) (by have:=g1 x hx;omega)),oB'.out hA (fun x hx=>by rw [itemK_fp] at hx;exact nn x (by have:=iB x hx;omega) (by have:=gB x hx;omega)),o3.out hA (fun x hx=>nn x (by have:=i3 x hx;omega) (by have:=g3 x hx;omega)),oU.out hA (fun x hx=>nn x (by have:=(gU x hx).1;omega) (by have:=(gU x hx).1;omega)),oY.out hA (fun x hx=>by rw [itemK_fp] at hx;exact nn x (by have:=gY x hx;omega) (by have:=gY x hx;omega))⟩,?_⟩
  refine Out.keep (Out.keep hb0 hS2 (by omega) (fun x hx=>by simp only [List.mem_singleton] at hx;omega)) hS (by have:=hS2.size;omega) (fun x hx=>by simp only [List.mem_singleton] at hx;omega)
 have R1:Hid ((repK.foot (⟨.slice a1 q1.length k1,q1,.slice b3 (allI [] (ps.map TxnQ.e)).length c3,allI [] (ps.map TxnQ.e),.slice a2 q3.length k2,q3,.slice ua us.length uc,us,.slice na ys.length nc,ys⟩:RepQ)).Nodup∧∀ x∈repK.foot (⟨.slice a1 q1.length k1,q1,.slice b3 (allI [] (ps.map TxnQ.e)).length c3,allI [] (ps.map TxnQ.e),.slice a2 q3.length k2,q3,.slice ua us.length uc,us,.slice na ys.length nc,ys⟩:RepQ),H≤x):=by
  have E1:itemK.fp (.slice b3 (allI [] (ps.map TxnQ.e)).length c3) (allI [] (ps.map TxnQ.e))=blk (.slice b3 (allI [] (ps.map TxnQ.e)).length c3):=itemK_fp _ _
  have E2:itemK.fp (.slice na ys.length nc) ys=blk (.slice na ys.length nc):=itemK_fp _ _
  show List.Nodup (txnK.fp (.slice a1 q1.length k1) q1 ++ (itemK.fp (.slice b3 (allI [] (ps.map TxnQ.e)).length c3) (allI [] (ps.map TxnQ.e)) ++ (txnK.fp (.slice a2 q3.length k2) q3 ++ (ussK.fp (.slice ua us.length uc) us ++ itemK.fp (.slice na ys.length nc) ys))))∧∀ x∈txnK.fp (.slice a1 q1.length k1) q1 ++ (itemK.fp (.slice b3 (allI [] (ps.map TxnQ.e)).length c3) (allI [] (ps.map TxnQ.e)) ++ (txnK.fp (.slice a2 q3.length k2) q3 ++ (ussK.fp (.slice ua us.length uc) us ++ itemK.fp (.slice na ys.length nc) ys))),H≤x
  rw [E1,E2]
  have bA:∀ x∈txnK.fp (.slice a1 q1.length k1) q1,W0.heap.size≤x∧x < w1.heap.size:=fun x hx=>⟨g1 x hx,i1 x hx⟩
  have bC:∀ x∈txnK.fp (.slice a2 q3.length k2) q3,w1.heap.size≤x∧x < w2.heap.size:=fun x hx=>⟨g3 x hx,i3 x hx⟩
  have bB:∀ x∈blk (.slice b3 (allI [] (ps.map TxnQ.e)).length c3),w2.heap.size≤x∧x < g:=fun x hx=>⟨gB x hx,by have:=iB x hx;omega⟩
  have bU:∀ x∈ussK.fp (.slice ua us.length uc) us,w4.heap.size≤x:=fun x hx=>(gU x hx).1
  refine ⟨List.nodup_append.2 ⟨n1,List.nodup_append.2 ⟨blk_nodup _,List.nodup_append.2 ⟨n3,List.nodup_append.2 ⟨nU,blk_nodup _,fun x hx y hy e=>(gU x hx).2 (e ▸ hy)⟩,?_⟩,?_⟩,?_⟩,?_⟩
  ·intro x hx y hy e
   have:=bC x hx
   rcases List.mem_append.1 hy with hy | hy
   ·have:=bU y hy;omega
   ·have:=gY y hy;omega
  ·intro x hx y hy e
   have:=bB x hx
   rcases List.mem_append.1 hy with hy | hy
   ·have:=bC y hy;omega
   rcases List.mem_append.1 hy with hy | hy
   ·have:=bU y hy;omega
   ·have:=gY y hy;omega
  ·intro x hx y hy e
   have:=bA x hx
   rcases List.mem_append.1 hy with hy | hy
   ·have:=bB y hy;omega
   rcases List.mem_append.1 hy with hy | hy
   ·have:=bC y hy;omega
   rcases List.mem_append.1 hy with hy | hy
   ·have:=bU y hy;omega
   ·have:=gY y hy;omega
  ·intro x hx
   rcases List.mem_append.1 hx with hx | hx
   ·have:=bA x hx;omega
   rcases List.mem_append.1 hx with hx | hx
   ·have:=bB x hx;omega
   rcases List.mem_append.1 hx with hx | hx
   ·have:=bC x hx;omega
   rcases List.mem_append.1 hx with hx | hx
   ·have:=bU x hx;omega
   ·have:=gY x hx;omega
 have R2:Hid (RepQ.e (⟨.slice a1 q1.length k1,q1,.slice b3 (allI [] (ps.map TxnQ.e)).length c3,allI [] (ps.map TxnQ.e),.slice a2 q3.length k2,q3,.slice ua us.length uc,us,.slice na ys.length nc,ys⟩:RepQ)=mkR (ps.map TxnQ.e) (qs.map TxnQ.e)):=show _=_ by
  simp only [RepQ.e,mkR,e1,e3,eU,eY]
 clear e1 e3 eU eY oU oY nU gU gY iU iY o1 o3 oB' n1 n3 g1 g3 i1 i3 gB iB hS2 gD hFD hF1 hF2
 obtain ⟨r0,r1,r2,r3,r4⟩:=B2.cel5
 obtain ⟨z0,z1,z2,z3,z4⟩:=Bv2.cel5
 obtain ⟨t0,t1,t2,t3,t4⟩:=Bv2.frz5
 clear Bg Bv B2 Bv2 hb0
 go_wp2
 exact bodyPost_ret (v:=.agg #[.slice a1 q1.length k1,.slice b3 (allI [] (ps.map TxnQ.e)).length c3,.slice a2 q3.length k2,.slice ua us.length uc,.slice na ys.length nc]) (by simp [results,Tryz.results117,go_sem,z0,z1,z2,z3,z4]) rfl ⟨(⟨.slice a1 q1.length k1,q1,.slice b3 (allI [] (ps.map TxnQ.e)).length c3,allI [] (ps.map TxnQ.e),.slice a2 q3.length k2,q3,.slice ua us.length uc,us,.slice na ys.length nc,ys⟩:RepQ),rfl,R2.out,(RF.out _ _ _ _ _).1,R1.out.1,(by rw [hH];exact R1.out.2),(by rw [hH];exact (RF.out _ _ _ _ _).2)⟩

end Go.Proofs.YtjjoahhnkpjolaaGreatDoor
namespace Go.Proofs.YtjjoahhnkpjolaaGreatDoor
open Go.RowKit
open Go.BigFrame
set_option maxRecDepth 100000
set_option maxRecDepth 100000 in
set_option maxHeartbeats 1000000 in
theorem l2CopyS9_any (i s q:Int) (b off cap:Nat) (zs:List ActD) (w:World) (h:ActRow w (some ⟨b,off,none⟩) zs) (hl:zs.length≤1048576) :
  Calls Tryz.prog 120 #[.agg #[.int .i64 i,.int .i64 s,.int .i64 q,.slice (some ⟨b,off,none⟩) zs.length cap]] w fun e w' => ∃ a c,e=.returned (.agg #[.int .i64 i,.int .i64 s,.int .i64 q,.slice a zs.length c]) ∧
   w'.ownsRow w.heap.size 210 3 (.slice a zs.length c) zs.length (actCells zs)∧Below w.heap.size w w' := by
 obtain ⟨i0,hi,hz0,hz1,hz2⟩:=info_parts infoAct
 have hs:=lies_src (Lies.below h (w' := ((w.alloc (.cells #[.int .i64 i,.int .i64 s,.int .i64 q,.slice (some ⟨b,off,none⟩) zs.length cap] 158)).alloc (.cells #[.int .i64 0,.int .i64 0,.int .i64 0,.slice none 0 0] 158)).alloc (.cells #[] 210)) (by go_grown))
 have hcl:=actCells_length zs
 have ho:=World.ownsRow_lit (e:=210) (size:=3) ((w.alloc (.cells #[.int .i64 i,.int .i64 s,.int .i64 q,.slice (some ⟨b,off,none⟩) zs.length cap] 158)).alloc (.cells #[.int .i64 0,.int .i64 0,.int .i64 0,.slice none 0 0] 158)) #[] 0 (Nat.le_refl _) (by decide) rfl
 have hb1:Below w.heap.size w (((w.alloc (.cells #[.int .i64 i,.int .i64 s,.int .i64 q,.slice (some ⟨b,off,none⟩) zs.length cap] 158)).alloc (.cells #[.int .i64 0,.int .i64 0,.int .i64 0,.slice none 0 0] 158)).alloc (.cells #[] 210)):=by go_grown
 have B1:=(Blk.new w 158 #[.int .i64 i,.int .i64 s,.int .i64 q,.slice (some ⟨b,off,none⟩) zs.length cap]).below (w' := ((w.alloc (.cells #[.int .i64 i,.int .i64 s,.int .i64 q,.slice (some ⟨b,off,none⟩) zs.length cap] 158)).alloc (.cells #[.int .i64 0,.int .i64 0,.int .i64 0,.slice none 0 0] 158)).alloc (.cells #[] 210)) (by go_grown)
 have B2:=(Blk.new (w.alloc (.cells #[.int .i64 i,.int .i64 s,.int .i64 q,.slice (some ⟨b,off,none⟩) zs.length cap] 158)) 158 #[.int .i64 0,.int .i64 0,.int .i64 0,.slice none 0 0]).below (w' := ((w.alloc (.cells #[.int .i64 i,.int .i64 s,.int .i64 q,.slice (some ⟨b,off,none⟩) zs.length cap] 158)).alloc (.cells #[.int .i64 0,.int .i64 0,.int .i64 0,.slice none 0 0] 158)).alloc (.cells #[] 210)) (by go_grown)
 have HS:Hid (∀ j u,(actCells zs)[j]? = some u→_):=hs
 clear hs
 simp only [World.size_alloc] at B2 ho
 go_enter Tryz.func120,Tryz.ntmps120
 go_wp2_with (at_builtin;refine wpList_append_own _ rfl _ _ 156 rfl (w.heap.size + 1 + 1) 210 i0 (.agg #[.int .i64 0,.int .i64 0,.int .i64 0]) 3 24 Tryz.underlying156 hi hz0 hz1 hz2 rfl (by decide) _ 0 [] rfl ho ⟨b,off,none⟩ zs.length cap (actCells zs) rfl hcl HS.out ?c2 ?c3 ?c4 ?c5 ?_)
 all_goals try (case c2=>exact acts_oneCell zs)
 all_goals try (case c3=>unfold maxLen;omega)
 all_goals try (case c4=>omega)
 all_goals try (case c5=>simp)
 intro v' w2 hown hgrow _
 obtain ⟨a2,c2,rfl⟩:=own_shape hown
 replace B1:=B1.grown hgrow (by simp [Value.ownBlock] <;> omega)
 replace B2:=B2.grown hgrow (by simp [Value.ownBlock] <;> omega)
 have hb2:Below w.heap.size w w2:=hb1.grown hgrow (by simp;omega) (fun k hk=>by simp [Value.ownBlock] at hk;omega)
 have hlt2:=B2.lt
 obtain ⟨p0,p1,p2,p3⟩:=B1.cel4
 have pf:=B1.frozen 3
 obtain ⟨q0,q1,q2,q3⟩:=B2.cel4
 obtain ⟨f0,f1,f2,f3⟩:=B2.frz4
 try simp only [Nat.zero_add] at hown
 clear B1 B2 hgrow HS ho hb1
 go_wp2
 refine bodyPost_ret (v:=.agg #[.int .i64 i,.int .i64 s,.int .i64 q,.slice a2 zs.length c2]) (by simp [results,Tryz.results120,go_sem,q0,q1,q2,q3]) rfl ⟨_,_,rfl,?_,?_⟩
 ·refine own_base (base:=w.heap.size + 1 + 1) ?_ (by omega)
  repeat' (refine ownsRow_setCell_below ?_ (by dsimp only;omega) _)
  simpa using hown
 ·repeat' (refine Below.setCell ?_ (by dsimp only;omega) _)
  exact hb2

set_option maxRecDepth 100000 in
set_option maxHeartbeats 1000000 in
theorem l2CopyN9_any (i s q:Int) (w:World) :
  Calls Tryz.prog 120 #[.agg #[.int .i64 i,.int .i64 s,.int .i64 q,.slice none 0 0]] w fun e w' => ∃ a c,e=.returned (.agg #[.int .i64 i,.int .i64 s,.int .i64 q,.slice a 0 c]) ∧
   w'.ownsRow w.heap.size 210 3 (.slice a 0 c) 0 (actCells [])∧Below w.heap.size w w' := by
 obtain ⟨i0,hi,hz0,hz1,hz2⟩:=info_parts infoAct
 have ho:=World.ownsRow_lit (e:=210) (size:=3) ((w.alloc (.cells #[.int .i64 i,.int .i64 s,.int .i64 q,.slice none 0 0] 158)).alloc (.cells #[.int .i64 0,.int .i64 0,.int .i64 0,.slice none 0 0] 158)) #[] 0 (Nat.le_refl _) (by decide) rfl
 have hb1:Below w.heap.size w (((w.alloc (.cells #[.int .i64 i,.int .i64 s,.int .i64 q,.slice none 0 0] 158)).alloc (.cells #[.int .i64 0,.int .i64 0,.int .i64 0,.slice none 0 0] 158)).alloc (.cells #[] 210)):=by go_grown
 have B1:=(Blk.new w 158 #[.int .i64 i,.int .i64 s,.int .i64 q,.slice none 0 0]).below (w' := ((w.alloc (.cells #[.int .i64 i,.int .i64 s,.int .i64 q,.slice none 0 0] 158)).alloc (.cells #[.int .i64 0,.int .i64 0,.int .i64 0,.slice none 0 0] 158)).alloc (.cells #[] 210)) (by go_grown)
 have B2:=(Blk.new (w.alloc (.cells #[.int .i64 i,.int .i64 s,.int .i64 q,.slice none 0 0] 158)) 158 #[.int .i64 0,.int .i64 0,.int .i64 0,.slice none 0 0]).below (w' := ((w.alloc (.cells #[.int .i64 i,.int .i64 s,.int .i64 q,.slice none 0 0] 158)).alloc (.cells #[.int .i64 0,.int .i64 0,.int .i64 0,.slice none 0 0] 158)).alloc (.cells #[] 210)) (by go_grown)
 simp only [World.size_alloc] at B2 ho
 go_enter Tryz.func120,Tryz.ntmps120
 go_wp2_with (at_builtin;refine wpList_append_own_none rfl _ _ 156 rfl (w.heap.size + 1 + 1) 210 i0 3 Tryz.underlying156 hi _ 0 [] rfl ho rfl ?_)
 have hlt2:=B2.lt
 obtain ⟨p0,p1,p2,p3⟩:=B1.cel4
 have pf:=B1.frozen 3
 obtain ⟨q0,q1,q2,q3⟩:=B2.cel4
 obtain ⟨f0,f1,f2,f3⟩:=B2.frz4
 clear B1 B2
 go_wp2
 refine bodyPost_ret (v:=.agg #[.int .i64 i,.int .i64 s,.int .i64 q,.slice (some ⟨w.heap.size + 1 + 1,0,none⟩) 0 0]) (by simp [results,Tryz.results120,go_sem]) rfl ⟨_,_,rfl,?_,?_⟩
 ·have h9:=World.ownsRow_lit (e:=210) (size:=3) ((w.alloc (.cells #[.int .i64 i,.int .i64 s,.int .i64 q,.slice (some ⟨w.heap.size + 1 + 1,0,none⟩) 0 0] 158)).alloc (.cells #[.int .i64 i,.int .i64 s,.int .i64 q,.slice (some ⟨w.heap.size + 1 + 1,0,none⟩) 0 0] 158)) #[] 0 (Nat.le_refl _) (by decide) rfl
  simp only [World.size_alloc] at h9
  exact own_base h9 (by omega)
 ·go_grown

/-- A list of transactions whose acts begin somewhere, or are none. -/
def NiceQ9 (p:TxnQ):Prop:=(p.va=.slice none 0 0∧p.acts=[])∨∃ b off c,p.va=.slice (some ⟨b,off,none⟩) p.acts.length c

set_option maxHeartbeats 2000000 in
theorem l2CopyG9_any (p:TxnQ) (w:World) (h:txnK.rd w p) (hN:NiceQ9 p) (hl:p.acts.length≤1048576) :
  Calls Tryz.prog 120 #[.agg #[.int .i64 p.i,.int .i64 p.s,.int .i64 p.q,p.va]] w fun e w' => ∃ a c,e=.returned (.agg #[.int .i64 p.i,.int .i64 p.s,.int .i64 p.q,.slice a p.acts.length c]) ∧
   w'.ownsRow w.heap.size 210 3 (.slice a p.acts.length c) p.acts.length (actCells p.acts)∧Below w.heap.size w w' := by
 obtain ⟨i,s,q,va,acts⟩:=p
 dsimp only
 rcases hN with ⟨e1,e2⟩ | ⟨b,off,c,e1⟩
 ·dsimp only at e1 e2
  subst e1 e2
  exact l2CopyN9_any i s q w
 ·dsimp only at e1
  subst e1
  have hT:actK.At w (.slice (some ⟨b,off,none⟩) acts.length c) acts:=h
  exact l2CopyS9_any i s q b off c acts w (actK_at hT).2 hl

set_option maxHeartbeats 2000000 in
theorem l2CopyAll9_any (v:Value) (ps:List TxnQ) (w:World) (h:txnK.At w v ps) (hne:∀ p∈ps,NiceQ9 p) (hl:ps.length + nmL TxnQ.n ps≤1048576) :
  Calls Tryz.prog 116 #[v] w fun e w' => ∃ v' qs,e=.returned v' ∧ qs.map TxnQ.e=ps.map TxnQ.e∧txnK.Own w' v' qs∧(txnK.fp v' qs).Nodup∧(∀ k∈txnK.fp v' qs,w.heap.size≤k)∧Below w.heap.size w w' := by
 obtain ⟨a,cap,rfl⟩:=h.shape
 obtain ⟨i0,hi,hz0,hz1,hz2⟩:=info_parts infoTxn
 have ho:=World.ownsRow_lit (e:=158) (size:=4) w #[] 0 (Nat.le_refl _) (by decide) rfl
 have hn1:txnK.Own (w.alloc (.cells #[] 158)) (.slice (some ⟨w.heap.size,0,none⟩) 0 0) ([]:List TxnQ):=⟨(own_zero ho).1,fun p hp=>by simp at hp⟩
 have hnb:Below w.heap.size w (w.alloc (.cells #[] 158)):=by go_grown
 have HN0:Hid ((txnK.fp (.slice (some ⟨w.heap.size,0,none⟩) 0 0) ([]:List TxnQ)).Nodup∧∀ k∈txnK.fp (.slice (some ⟨w.heap.size,0,none⟩) 0 0) ([]:List TxnQ),w.heap.size≤k):=by
  refine ⟨?_,?_⟩
  ·simp [Kind.fp,blk,Value.ownBlock]
  ·simp [Kind.fp,blk,Value.ownBlock]
 clear ho
 go_enter Tryz.func116,Tryz.ntmps116
 go_wp2
 go_loopw [3,4] (fun v j wr=>∃ (k:Nat) (qs:List TxnQ),k≤ps.length∧j=.int .i64 k∧Hid (qs.map TxnQ.e=(ps.take k).map TxnQ.e)∧txnK.Own wr v qs∧Hid ((txnK.fp v qs).Nodup∧∀ k∈txnK.fp v qs,w.heap.size≤k)∧Below w.heap.size w wr) (fun _ j _=>ps.length - (intOf j).toNat)
 case atStart=>exact ⟨0,[],Nat.zero_le _,rfl,(rfl:_=_),hn1,HN0,hnb⟩
 case round=>
  clear HN0 hn1 hnb
  obtain ⟨k,qs,hk,rfl,HE,hO,HN,hb⟩:=hrel
  obtain ⟨sa,sc,rfl⟩:=hO.shape
  have HQL:Hid (qs.length=k):=by
   have:=congrArg List.length HE.out
   rw [List.length_map,List.length_map,List.length_take] at this
   show qs.length=k
   omega
  by_cases hlt:k < ps.length
  ·obtain ⟨b,off,rfl,hbs,hc,hrd⟩:=(h.below hb).cell (by decide) k hlt
   have hc' : ∀ j x,(txnK.cells ps[k])[j]? = some x→wr.cell? ⟨b,off + k * 4 + j,none⟩=some x:=hc
   have c0:=hc' 0 (.int .i64 ps[k].i) rfl
   have c1:=hc' 1 (.int .i64 ps[k].s) rfl
   have c2:=hc' 2 (.int .i64 ps[k].q) rfl
   have c3:=hc' 3 (ps[k].va) rfl
   have hzl:=nm_le TxnQ.n ps k hlt
   have hpos:=hne _ (List.getElem_mem hlt)
   have HPE:Hid (∀ p' : TxnQ,p'.e=TxnQ.e ps[k]→(qs ++ [p']).map TxnQ.e=(ps.take (k + 1)).map TxnQ.e):=fun p' hp' => by
    rw [List.take_succ_eq_append_getElem hlt,List.map_append,List.map_append,HE.out,List.map_singleton,List.map_singleton,hp']
   clear hc hc'
   generalize ps[k]=p at *
   obtain ⟨i,s,q,va,acts⟩:=p
   replace hrd:actK.At wr va acts:=hrd
   replace hzl:acts.length≤nmL TxnQ.n ps:=hzl
   obtain ⟨aa,ac,rfl⟩:=hrd.shape
   dsimp only at c0 c1 c2 c3
   have hcl:=l2CopyG9_any (⟨i,s,q,.slice aa acts.length ac,acts⟩:TxnQ) wr hrd hpos (by dsimp only;omega)
   dsimp only at hcl
   rw [Nat.add_zero] at c0
   clear HE
   go_wp2_with fail
   clear c0 c1 c2 c3
   have hYs:w.heap.size≤wr.heap.size:=hb.size
   refine hcl.mono ?_
   rintro e w2 ⟨a2,c2,rfl,ho2,hb2⟩
   have HLT:=hO.lt
   replace hO:=hO.below hb2
   replace hb:=hb.trans (hb2.mono hb.size)
   obtain ⟨o2,hk2⟩:=own_zero ho2
   have hP:txnK.own w2 ⟨i,s,q,.slice a2 acts.length c2,acts⟩:=⟨o2,fun _ _=>trivial⟩
   have hPlo:∀ x∈txnK.foot ⟨i,s,q,.slice a2 acts.length c2,acts⟩,wr.heap.size≤x:=fun x hx=>hk2 x (by rw [← actK_fp (.slice a2 acts.length c2) acts];exact hx)
   have hPn:(txnK.foot ⟨i,s,q,.slice a2 acts.length c2,acts⟩).Nodup:=by
    show (actK.fp _ _).Nodup
    rw [actK_fp];exact blk_nodup _
   have hbA:Below w2.heap.size w2 (w2.alloc (.cells #[.int .i64 i,.int .i64 s,.int .i64 q,.slice a2 acts.length c2] 158)):=by go_grown
   have hOA:=hO.below hbA
   have hPA:=txnK.own_out (F:=[]) hP (Out.of_below hbA) (fun _ _=>by simp)
   have hbB:=hb.trans (hbA.mono hb.size)
   clear hcl ho2 hO hP hk2
   have hrow0:=hOA.1
   go_wp2_with (at_builtin;refine wpList_append_own_at _ rfl _ _ 52 rfl 0 158 i0 (.agg #[.int .i64 0,.int .i64 0,.int .i64 0,.slice none 0 0]) 4 48 Tryz.underlying52 hi hz0 hz1 hz2 rfl (by decide) _ qs.length (txnK.row qs) rfl hrow0 ⟨w2.heap.size,0,none⟩ 1 1 [.int .i64 i,.int .i64 s,.int .i64 q,.slice a2 acts.length c2] rfl rfl ?c1 ?c2 ?c3 ?c4 ?c5 ?_)
   all_goals try (case c1=>intro j u hj;match j,hj with | 0,hj=>simp at hj;subst hj;simp [Addr.add] | 1,hj=>simp at hj;subst hj;simp [Addr.add] | 2,hj=>simp at hj;subst hj;simp [Addr.add] | 3,hj=>simp at hj;subst hj;simp [Addr.add])
   all_goals try (case c2=>intro u hu;simp at hu;rcases hu with rfl | rfl | rfl | rfl <;> rfl)
   all_goals try (case c3=>have:=HQL.out;unfold maxLen;omega)
   all_goals try (case c4=>have:=HQL.out;omega)
   all_goals try (case c5=>first | omega | simp)
   intro v' w5 hown hgrow hnil hat
   clear hnil hrow0
   rw [show w2.heap.size + 1=(w2.alloc (.cells #[.int .i64 i,.int .i64 s,.int .i64 q,.slice a2 acts.length c2] 158)).heap.size from (World.size_alloc _ _).symm] at hat
   generalize hwA:w2.alloc (.cells #[.int .i64 i,.int .i64 s,.int .i64 q,.slice a2 acts.length c2] 158)=WA at *
   clear hwA
   have hsz:wr.heap.size≤WA.heap.size:=by have:=hb2.size;have:=hbA.size;omega
   obtain ⟨hO5,hn5,hlo5,hou⟩:=hOA.snoc HN.out.1 HN.out.2 hPA hPn (fun x hx hx' => by have:=HLT x hx';have:=hPlo x hx;omega) (fun x hx=>by have:=hPlo x hx;omega) hbB.size hown hgrow hat
   have hb5:Below w.heap.size w w5:=Out.keep hbB hou hbB.size (fun x hx=>HN.out.2 x (by simp only [Kind.fp,List.mem_append];exact Or.inl hx))
   have HE5:Hid ((qs ++ [(⟨i,s,q,.slice a2 acts.length c2,acts⟩:TxnQ)]).map TxnQ.e=(ps.take (k + 1)).map TxnQ.e):=HPE.out _ rfl
   have HN5:Hid ((txnK.fp v' (qs ++ [(⟨i,s,q,.slice a2 acts.length c2,acts⟩:TxnQ)])).Nodup∧∀ k∈txnK.fp v' (qs ++ [(⟨i,s,q,.slice a2 acts.length c2,acts⟩:TxnQ)]),w.heap.size≤k):=⟨hn5,hlo5⟩
   clear HPE HN HLT hPlo hPn hPA hOA hbB hown hgrow hat hou hn5 hlo5 hrd hb hbA hb2 hzl hpos
   go_wp2
   go_roundw
   case rel=>exact ⟨k + 1,_,by omega,by go_num,HE5,hO5,HN5,hb5⟩
   case measure=>simp [intOf];omega
  ·have hkl:k=ps.length:=by omega
   subst hkl
   have hE:=HE.out
   rw [List.take_length] at hE
   clear HE
   go_wp2
   go_ret
   exact ⟨_,qs,rfl,hE,hO,HN.out.1,HN.out.2,hb⟩

theorem niceQ_of {w:World} {p:TxnQ} (h:txnK.own w p):NiceQ9 p:=by
 have h:actK.Own w p.va p.acts:=h
 rcases h.1.2 with ⟨h1,h0⟩ | ⟨g,cap,cur,h1,_⟩
 ·exact Or.inl ⟨h1,List.eq_nil_of_length_eq_zero h0⟩
 ·exact Or.inr ⟨g,0,cap,h1⟩

end Go.Proofs.YtjjoahhnkpjolaaGreatDoor
namespace Go.Proofs.YtjjoahhnkpjolaaGreatDoor
open Go.RowKit
open Go.BigFrame
set_option maxRecDepth 100000
theorem row_capL {w:World} {base e size n:Nat} {v:Value} {xs:List Value} (h:w.ownsRow base e size v n xs):CapOk v:=by
 rcases h.2 with ⟨rfl,_⟩ | ⟨g,cap,cur,rfl,_,_,h1,h2,_⟩
 ·exact ⟨Nat.zero_le _,Nat.zero_le _⟩
 ·exact ⟨h1,h2⟩

theorem txq_n9 {ps qs:List TxnQ} (h:ps.map TxnQ.e=qs.map TxnQ.e):ps.length + nmL TxnQ.n ps=qs.length + nmL TxnQ.n qs:=by
 have e:∀ l:List TxnQ,nmL TxnQ.n l=nmL TxnD.n (l.map TxnQ.e):=fun l=>by simp only [nmL,List.map_map];rfl
 have hl:ps.length=qs.length:=by simpa using congrArg List.length h
 rw [e,e,h,hl]

end Go.Proofs.YtjjoahhnkpjolaaGreatDoor
