/- Texts joined,with what the laws reach alone. -/
import Derived.Test.YtlkpdgjnhkjpjaaGreatDoorSCBD
import Derived.Test.YtlkpdgjnhkjpjaaGreatDoorSCBC
set_option linter.unusedVariables false
set_option linter.unusedSimpArgs false
set_option maxRecDepth 100000
set_option maxHeartbeats 16000000
namespace Go.Proofs.YtlkpdgjnhkjpjaaGreatDoor
open Go.RowKit Go.BigFrame
section
open Go.Maps
theorem q2A(a:Option Addr)(cap:Nat)(xs:List ItemD)(v:Value)(ds:List TxnD)(w:World)(h:ItemRow w a xs)(hN:z6a a xs.length cap)(ht:TxnsAt w v ds)(h0:itemsF xs=0)(h2:idsC ds=0):
  Calls Tryz.prog 184 #[.slice a xs.length cap,v] w fun e w'=>∃a1 c1 a2 c2 a3 c3,e=.returned (.agg #[.int .i64 (eaC xs ds),.slice a1 (eaCd xs ds).length c1,.slice a2 (eaVl xs ds).length c2,.slice a3 (eaI xs ds).length c3])∧
   OwnA w.heap.size w'.heap.size w' (.slice a1 (eaCd xs ds).length c1) (.slice a2 (eaVl xs ds).length c2) (.slice a3 (eaI xs ds).length c3) (eaCd xs ds) (eaVl xs ds) (eaI xs ds)∧Below w.heap.size w w':=by
 obtain⟨h8,g⟩:=z1Z h0;obtain⟨bl,hz⟩:=z7r h2;have HZ:Hid (∀t∈ds,t.F=0):=hz;have a7:Hid (eaC xs ds=0∧eaCd xs ds=z12 xs ds∧eaVl xs ds=z13 xs ds∧eaI xs ds=allI xs ds):=q2q h0 h2;clear h0 h2 hz;obtain⟨i0,hi,aY,aZ,a6⟩:=info_parts z4Z;have aJ:Below w.heap.size w ((w.alloc (.cells #[.int .i64 0,.slice none 0 0,.slice none 0 0,.slice none 0 0] 176)).alloc (.cells #[] 119)):=by go_grown
 have B0:=(Blk.new w 176 #[.int .i64 0,.slice none 0 0,.slice none 0 0,.slice none 0 0]).below (w':=(w.alloc (.cells #[.int .i64 0,.slice none 0 0,.slice none 0 0,.slice none 0 0] 176)).alloc (.cells #[] 119)) (by go_grown);have aM:=World.ownsRow_lit (size:=2) (e:=119) (w.alloc (.cells #[.int .i64 0,.slice none 0 0,.slice none 0 0,.slice none 0 0] 176)) #[] 0 (Nat.le_refl _) (by decide) rfl;rw[World.size_alloc]at aM;have aR:∀ (ops:Array Oper) (rest:List Oper) (o:Oper) (an:Act) (Q:Exit→Act→World→Prop) (aS:o.guard=none) (sx x:Operand) (ho:o.op=.call {callee:=.builtin .append,args:=#[sx,x],argTypes:=#[26,26]}) (hs:an.eval sx=.slice (some ⟨w.heap.size+1,0,none⟩) 0 0) (hx:an.eval x=.slice a xs.length cap)
   (hh:∀a' c' w',w'.ownsRow (w.heap.size+1) 119 2 (.slice a' xs.length c') xs.length (z0c xs)→Below (w.heap.size+1) ((w.alloc (.cells #[.int .i64 0,.slice none 0 0,.slice none 0 0,.slice none 0 0] 176)).alloc (.cells #[] 119)) w'→wpList Tryz.prog ops Q rest (an.put o.dst (.slice a' xs.length c')) w'),wpList Tryz.prog ops Q (o::rest) an ((w.alloc (.cells #[.int .i64 0,.slice none 0 0,.slice none 0 0,.slice none 0 0] 176)).alloc (.cells #[] 119)):=
  fun ops rest o an Q aS sx x ho hs hx hh=>z0B _ aS sx x ho (w.heap.size+1) (w.heap.size+1) hs aM a xs cap hx (h.below aJ) hN (by omega) (by simp) hh
 go_enter Tryz.func184,Tryz.ntmps184
 go_wp2_with (at_builtin;refine aR _ _ _ _ _ rfl _ _ rfl rfl rfl ?_)
 intro aj ak W3 ai aK;have aQ:Below w.heap.size w W3:=aJ.trans (aK.mono (by omega));replace B0:Blk W3 _ _ _:=(aK.block _ (by omega)).trans B0;have bg:w.heap.size<W3.heap.size:=B0.lt;have aX:=ht.below aQ;clear aR aM aJ aK h hN ht;have aA:Below W3.heap.size W3 (W3.alloc (.cells #[.int .i64 0,.slice none 0 0,.slice none 0 0,.slice aj xs.length ak] 176)):=by go_grown
 have al:=Blk.new W3 176 #[.int .i64 0,.slice none 0 0,.slice none 0 0,.slice aj xs.length ak];have aE:∀k,(Value.slice aj xs.length ak).ownBlock=some k→k≠W3.heap.size:=fun k hk=>by have:=(ai.lt k hk).2;omega
 replace ai:=z0a ai aA;have ah:W3.heap.size+1≤(W3.alloc (.cells #[.int .i64 0,.slice none 0 0,.slice none 0 0,.slice aj xs.length ak] 176)).heap.size:=by simp
 have bh:=aX.shape;obtain⟨bv,bi,rfl⟩:=bh
 go_wp2
 generalize W3.alloc (.cells #[.int .i64 0,.slice none 0 0,.slice none 0 0,.slice aj xs.length ak] 176)=W4 at aA al ai ah;have aD:Below W3.heap.size W3 W4:=aA;obtain⟨W,bc⟩:∃W,W=w.heap.size+1:=⟨_,rfl⟩
 rw[←bc]at ai;generalize aC:W3.heap.size=ab at*;go_loopw[6] (fun j wr=>∃ (k:Nat) (c:List ItemD) (C V:List Int) (ca:Option Addr) (cc:Nat) (va:Option Addr) (vc:Nat) (ia:Option Addr) (ic:Nat),k≤ds.length∧j=.int .i64 k∧Blk wr ab 176 #[.int .i64 0,.slice ca C.length cc,.slice va V.length vc,.slice ia c.length ic]∧wr.ownsRow (ab+1) 2 1 (.slice ca C.length cc) C.length (C.map (Value.int .i64))∧wr.ownsRow (ab+1) 2 1 (.slice va V.length vc) V.length (V.map (Value.int .i64))∧wr.ownsRow W 119 2 (.slice ia c.length ic) c.length (z0c c)∧Apart3 (.slice ca C.length cc) (.slice va V.length vc) (.slice ia c.length ic)∧(∀k,(Value.slice ia c.length ic).ownBlock=some k→k≠ab)∧Below ab W3 wr∧ab+1≤wr.heap.size∧Hid (c.length≤8∧Good c∧allI c (ds.drop k)=allI xs ds∧C++z12 c (ds.drop k)=z12 xs ds∧V++z13 c (ds.drop k)=z13 xs ds∧C.length=k∧V.length=k)) (fun j _=>ds.length-(intOf j).toNat)
 case atStart=>exact⟨0,xs,[],[],none,0,none,0,aj,ak,Nat.zero_le _,rfl,al,World.ownsRow_nil _ _ _ _,World.ownsRow_nil _ _ _ _,ai,⟨Or.inl rfl,Or.inl rfl,Or.inl rfl⟩,aE,aD,ah,⟨h8,g,by simp,by simp,by simp,rfl,rfl⟩⟩
 case round=>
  clear al ai aD ah aE aA;obtain⟨k,c,C,V,ca,cc,va,vc,ia,ic,hk,rfl,L,o1,o2,o3,ap,ar,hb,bu,HG⟩:=hrel;have aH:∀g,(Value.slice ca C.length cc).ownBlock=some g→g<wr.heap.size:=fun g hg=>(o1.lt g hg).2
  have aI:∀g,(Value.slice va V.length vc).ownBlock=some g→g<wr.heap.size:=fun g hg=>(o2.lt g hg).2
  have bm:C.length≤60:=by have:=HG.out.2.2.2.2.2.1;omega
  have bn:V.length≤60:=by have:=HG.out.2.2.2.2.2.2;omega
  have bo:=HG.out.1;by_cases aL:k<ds.length
  ·obtain⟨b,O,aa,tc,rfl,aq,t0,t1,t2,t3,hA⟩:=aX.at k aL;rw[aC]at aq;have aG:=HZ.out (ds.getD k z0k) (by simp[List.getD,aL]);replace t0:wr.cell? ⟨b,O+k*4,none⟩=_:=(hb.cell (p:=⟨b,O+k*4,none⟩) aq).trans t0;replace t1:wr.cell? ⟨b,O+k*4+1,none⟩=_:=(hb.cell (p:=⟨b,O+k*4+1,none⟩) aq).trans t1;replace t2:wr.cell? ⟨b,O+k*4+2,none⟩=_:=(hb.cell (p:=⟨b,O+k*4+2,none⟩) aq).trans t2;replace t3:wr.cell? ⟨b,O+k*4+3,none⟩=_:=(hb.cell (p:=⟨b,O+k*4+3,none⟩) aq).trans t3;have aO:ActRow wr aa (ds.getD k z0k).acts:=hA.below (by rw[aC];exact hb);have aP:Box4 wr b (O+k*4) _ _ _ _:=⟨t0,t1,t2,t3⟩
   have aT:ItemRow wr ia c:=Lies.own o3;have U:=fun u (hu:Below wr.heap.size wr u)=>q0T ia ic c b (O+k*4) (ds.getD k z0k).id (ds.getD k z0k).session (ds.getD k z0k).seq aa tc (ds.getD k z0k).acts u (aT.below hu) (z2h o3) (aP.below hu) (aO.below hu) HG.out.1 HG.out.2.1 aG
   have am:Hid ((nextI c (ds.getD k z0k)).length≤8∧Good (nextI c (ds.getD k z0k))∧allI (nextI c (ds.getD k z0k)) (ds.drop (k+1))=allI xs ds∧(C++[(z0t c (ds.getD k z0k).acts).1])++z12 (nextI c (ds.getD k z0k)) (ds.drop (k+1))=z12 xs ds∧(V++[runV c (ds.getD k z0k).acts])++z13 (nextI c (ds.getD k z0k)) (ds.drop (k+1))=z13 xs ds∧(C++[(z0t c (ds.getD k z0k).acts).1]).length=k+1∧(V++[runV c (ds.getD k z0k).acts]).length=k+1):=by
    obtain⟨g1,g2,g3,g4,g5,g6,g7⟩:=HG.out;rw[z9Z aL]at g3 g4 g5;obtain⟨n1,n2⟩:=z1e g1 g2 aG;exact⟨n1,n2,g3,by simpa[z12]using g4,by simpa[z13]using g5,by simp[g6],by simp[g7]⟩
   have av:Hid ((z0t c (ds.getD k z0k).acts).1=0→runR c (ds.getD k z0k).acts=nextI c (ds.getD k z0k)):=fun h=>by unfold runR nextI;rw[if_pos h,if_pos h]
   have aF:Hid ((z0t c (ds.getD k z0k).acts).1≠0→nextI c (ds.getD k z0k)=c):=fun h=>if_neg h
   generalize (z0t c (ds.getD k z0k).acts).1=I at U am av aF;generalize runR c (ds.getD k z0k).acts=RL at U av;generalize runV c (ds.getD k z0k).acts=M at U am;generalize nextI c (ds.getD k z0k)=nx at am av aF;clear aG hA HG t0 t1 t2 t3;have k3:=L.lat 3 _ rfl
   go_wp2_with fail
   refine z05 [some 18,some 19,some 20,some 21,some 22,some 23,some 7] (fun vs w'=>∃ (ra:Option Addr) (rc db:Nat),vs=[.pointer (some ⟨ab,3,none⟩),.slice ia c.length ic,.slice (some ⟨b,O,none⟩) ds.length bi,.int .i64 k,.pointer (some ⟨b,O+k*4,none⟩),.agg #[.int .i64 I,.int .i64 M,.slice ra RL.length rc],.pointer (some ⟨db,0,none⟩)]∧wr.heap.size≤db∧Blk w' db 243 #[.int .i64 I,.int .i64 M,.slice ra RL.length rc]∧w'.ownsRow wr.heap.size 119 2 (.slice ra RL.length rc) RL.length (z0c RL)∧Below wr.heap.size wr w') ?_ ?_
   ·have hW:Below wr.heap.size wr wr.drew:=(Below.refl _ _).drew;have bs:Nonempty (Lat wr):=⟨⟨wr,Below.refl _ _⟩⟩
    refine z0e (S:=fun w'=>∃u:Lat wr,w'=u.val) (by kernel_rfl) ?_;refine sgr [(0,5)] 3 (by kernel_rfl) ⟨⟨_,hW⟩,rfl⟩ ?_;simp only[pkE];repeat go_big_quiet_step (fail)
    refine wpQuiet_nil ?_;clear k3;generalize wr.drew=yd at hW⊢;refine twa 5 6 2 (by kernel_rfl) ?_ ?_
    ·refine opc 5 (some 23) 177 #[.slice ia c.length ic,.pointer (some ⟨b,O+k*4,none⟩)] (by kernel_rfl) ?_;refine(U _ hW).mono ?_;rintro e w4 ⟨ra,rc,rfl,oR,az⟩;have aV:=hW.size;replace oR:=z0o oR aV;replace hW:=hW.trans (az.mono aV);refine⟨_,rfl,⟨⟨_,hW⟩,rfl⟩,?_⟩;simp only[Act.put,pgE,pjE];refine ona 6 1 rfl (by kernel_rfl) ?_;have ae:Below w4.heap.size w4 (w4.alloc (.cells #[.int .i64 0,.int .i64 0,.slice none 0 0] 243)):=by go_grown
     have Bz:=Blk.new w4 243 #[.int .i64 0,.int .i64 0,.slice none 0 0];have ag:∀k,(Value.slice ra RL.length rc).ownBlock=some k→k≠w4.heap.size:=fun k hk=>by have:=oR.lt k hk;omega
     have N:wr.heap.size≤w4.heap.size:=hW.size;replace oR:=z0a oR ae;replace hW:=hW.trans (ae.mono N)
     go_wp2
     refine ThenGo.to ⟨⟨⟨_,hW⟩,rfl⟩,?_⟩;generalize w4.alloc (.cells #[.int .i64 0,.int .i64 0,.slice none 0 0] 243)=Z at ae Bz oR hW⊢;clear ae;refine ona 7 0 rfl (by kernel_rfl) ?_;have p0:=Bz.cell 0 _ rfl;have f0:=Bz.frozen 0;have p1:=Bz.cell 1 _ rfl;have f1:=Bz.frozen 1;have p2:=Bz.cell 2 _ rfl;have f2:=Bz.frozen 2
     go_wp2
     refine ThenGo.to ⟨⟨⟨_,(((hW.setCell (p:=⟨w4.heap.size,0,none⟩) N (.int .i64 I)).setCell (p:=⟨w4.heap.size,1,none⟩) N (.int .i64 M)).setCell (p:=⟨w4.heap.size,2,none⟩) N (.slice ra RL.length rc))⟩,rfl⟩,?_⟩;refine z0i (by kernel_rfl) ?_;exact⟨rfl,_,⟨ra,rc,w4.heap.size,rfl,N,(((Bz.set 0 (.int .i64 I)).set 1 (.int .i64 M)).set 2 (.slice ra RL.length rc)),(z0h (j:=2) (u:=.slice ra RL.length rc) (z0h (j:=1) (u:=.int .i64 M) (z0h (j:=0) (u:=.int .i64 I) oR ag) ag) ag),(((hW.setCell (p:=⟨w4.heap.size,0,none⟩) N (.int .i64 I)).setCell (p:=⟨w4.heap.size,1,none⟩) N (.int .i64 M)).setCell (p:=⟨w4.heap.size,2,none⟩) N (.slice ra RL.length rc))⟩,by kernel_rfl⟩
    ·refine z1c 6 _ rfl ?_;have ae:Below yd.heap.size yd (yd.alloc (.cells #[.int .i64 0,.int .i64 0,.slice none 0 0] 243)):=by go_grown
     have Bz:=Blk.new yd 243 #[.int .i64 0,.int .i64 0,.slice none 0 0];have N:wr.heap.size≤yd.heap.size:=hW.size;replace hW:=hW.trans (ae.mono N)
     go_wp2
     refine ThenGo.to ⟨⟨⟨_,hW⟩,rfl⟩,?_⟩;generalize yd.alloc (.cells #[.int .i64 0,.int .i64 0,.slice none 0 0] 243)=Y at ae Bz hW⊢;clear ae;refine cla 5 (some 23) 177 #[.slice ia c.length ic,.pointer (some ⟨b,O+k*4,none⟩)] 1 (by kernel_rfl) ?_;refine(U _ hW).mono ?_;rintro e Z ⟨ra,rc,rfl,oR,az⟩;have ag:∀k,(Value.slice ra RL.length rc).ownBlock=some k→k≠yd.heap.size:=fun k hk=>by have:=(oR.lt k hk).1;have:=Bz.lt;omega
     replace oR:=z0o oR hW.size;replace Bz:=Bz.below az;replace hW:=hW.trans (az.mono hW.size);refine⟨_,rfl,⟨⟨_,hW⟩,rfl⟩,?_⟩;simp only[Act.put,pgE,pjE];refine ona 7 0 rfl (by kernel_rfl) ?_;have p0:=Bz.cell 0 _ rfl;have f0:=Bz.frozen 0;have p1:=Bz.cell 1 _ rfl;have f1:=Bz.frozen 1;have p2:=Bz.cell 2 _ rfl;have f2:=Bz.frozen 2
     go_wp2
     refine ThenGo.to ⟨⟨⟨_,(((hW.setCell (p:=⟨yd.heap.size,0,none⟩) N (.int .i64 I)).setCell (p:=⟨yd.heap.size,1,none⟩) N (.int .i64 M)).setCell (p:=⟨yd.heap.size,2,none⟩) N (.slice ra RL.length rc))⟩,rfl⟩,?_⟩;refine z0i (by kernel_rfl) ?_;exact⟨rfl,_,⟨ra,rc,yd.heap.size,rfl,N,(((Bz.set 0 (.int .i64 I)).set 1 (.int .i64 M)).set 2 (.slice ra RL.length rc)),(z0h (j:=2) (u:=.slice ra RL.length rc) (z0h (j:=1) (u:=.int .i64 M) (z0h (j:=0) (u:=.int .i64 I) oR ag) ag) ag),(((hW.setCell (p:=⟨yd.heap.size,0,none⟩) N (.int .i64 I)).setCell (p:=⟨yd.heap.size,1,none⟩) N (.int .i64 M)).setCell (p:=⟨yd.heap.size,2,none⟩) N (.slice ra RL.length rc))⟩,by kernel_rfl⟩
   rintro vs w5 ⟨ra,rc,db,rfl,bq,Bd,oR,af⟩;simp only[z1n,Act.put,pjE];have ao:∀g,(Value.slice ra RL.length rc).ownBlock=some g→wr.heap.size≤g∧g<w5.heap.size:=fun g hg=>oR.lt g hg
   replace o1:=z0a o1 af;replace o2:=z0a o2 af;replace o3:=z0a o3 af;replace L:=L.below af;replace hb:=hb.trans (af.mono (by omega));have bt:=af.size;clear U aO aT aP af k3;generalize wr.heap.size=mb at*;have bk:w5.heap.size=w5.heap.size:=by first|rfl|simp
   have a1:=L.cell 1 _ rfl;have b0:=Bd.cell 0 _ rfl;have T:Below w5.heap.size w5 (w5.alloc (.cells #[.int .i64 I] 2)):=by go_grown
   have q1:=z0a o1 T;have l2:=fun g hg=>(o2.lt g hg).2
   have l3:=fun g hg=>(o3.lt g hg).2
   go_wp2_with (at_builtin;refine wpList_append_own_at _ rfl _ _ 115 rfl (ab+1) 2 i0 (.int .i64 0) 1 8 Tryz.underlying115 hi aY aZ a6 rfl (by decide) _ C.length (C.map (Value.int .i64)) rfl q1 ⟨w5.heap.size,0,none⟩ 1 1 [.int .i64 I] rfl rfl ?c1 ?c2 ?c3 ?c4 ?c5 ?_)
   all_goals try(case c1=>intro j u hj;match j,hj with|0,hj=>simp at hj;subst hj;simp[Addr.add])
   all_goals try(case c2=>first|rfl|(intro u hu;simp at hu;subst hu;rfl))
   all_goals try(case c3=>unfold maxLen;omega)
   all_goals try(case c4=>omega)
   all_goals try(case c5=>first|omega|(simp;omega))
   intro v' w1 ad J _ X;obtain⟨z,A,rfl⟩:=z0g ad;clear a1 b0;have ax:Below (ab+1) w5 w1:=((Below.refl _ _).alloc (by omega) _).grown J (by simp;omega) (fun k hk=>(o1.lt k hk).1);have aB:w5.heap.size≤w1.heap.size:=ax.size;have ba:∀g,(Value.slice z (C.length+1) A).ownBlock=some g→g<mb∨w5.heap.size≤g:=fun g hg=>by
    rcases X with e|e
    ·exact Or.inl (aH g (by rw[←e];exact hg))
    ·rw[hg]at e;simp at e;right;omega
   have aw:Apart3 (.slice z (C.length+1) A) (.slice va V.length vc) (.slice ia c.length ic):=ap.grow1 (w:=w5.alloc (.cells #[.int .i64 I] 2)) (by simpa using X) (fun g hg=>by have:=l2 g hg;simp;omega) (fun g hg=>by have:=l3 g hg;simp;omega);replace o2:=(z0a o2 T).kept J (z3i ap.a12);replace o3:=(z0a o3 T).kept J (z3i ap.a13);replace oR:=(z0a oR T).kept J (z4D (fun g h1 h2=>by have:=ao g h1;have:=aH g h2;omega));replace Bd:=(Bd.below T).grown J (by intro e;have:=aH db e.symm;omega);replace L:Blk w1 ab 176 #[.int .i64 0,.slice ca C.length cc,.slice va V.length vc,.slice ia c.length ic]:=(ax.block _ (by omega)).trans L;replace o1:w1.ownsRow (ab+1) 2 1 (.slice z (C.length+1) A) (C.length+1) ((C++[I]).map (Value.int .i64)):=by simpa using ad
   replace hb:=hb.trans (ax.mono (by omega));clear ad J X q1 l2 l3 T ax ap;have d1:=L.cell 1 _ rfl;have d2:=L.frozen 1;replace o1:=ownsRow_setCell_below (a:=⟨ab,1,none⟩) o1 (by dsimp only;omega) (.slice z (C.length+1) A);replace o2:=ownsRow_setCell_below (a:=⟨ab,1,none⟩) o2 (by dsimp only;omega) (.slice z (C.length+1) A);replace o3:=z0h (j:=1) (u:=.slice z (C.length+1) A) o3 ar;replace oR:=ownsRow_setCell_below (a:=⟨ab,1,none⟩) oR (by dsimp only;omega) (.slice z (C.length+1) A);replace L:Blk (w1.setCell ⟨ab,1,none⟩ (.slice z (C.length+1) A)) ab 176 #[.int .i64 0,.slice z (C.length+1) A,.slice va V.length vc,.slice ia c.length ic]:=by simpa using L.set 1 (.slice z (C.length+1) A)
   replace Bd:Blk (w1.setCell ⟨ab,1,none⟩ (.slice z (C.length+1) A)) (db) 243 #[.int .i64 I,.int .i64 M,.slice ra RL.length rc]:=Bd.otherG (by omega);replace hb:=hb.setCell (p:=⟨ab,1,none⟩) (Nat.le_refl _) (.slice z (C.length+1) A);replace aB:w5.heap.size≤(w1.setCell ⟨ab,1,none⟩ (.slice z (C.length+1) A)).heap.size:=by simpa[World.setCell]using aB
   have a2:=L.cell 2 _ rfl;have b1:=Bd.cell 1 _ rfl;have T:Below (w1.setCell ⟨ab,1,none⟩ (.slice z (C.length+1) A)).heap.size (w1.setCell ⟨ab,1,none⟩ (.slice z (C.length+1) A)) ((w1.setCell ⟨ab,1,none⟩ (.slice z (C.length+1) A)).alloc (.cells #[.int .i64 M] 2)):=by go_grown
   have q2:=z0a o2 T;have l1:=fun g hg=>(o1.lt g hg).2
   have l3:=fun g hg=>(o3.lt g hg).2
   have aW:(w1.setCell ⟨ab,1,none⟩ (.slice z (C.length+1) A)).heap.size=w1.heap.size:=by simp[World.setCell]
   have au:∀j u,[Value.int .i64 M][j]?=some u→((w1.setCell ⟨ab,1,none⟩ (.slice z (C.length+1) A)).alloc (.cells #[.int .i64 M] 2)).cell? ((⟨w1.heap.size,0,none⟩:Addr).add j)=some u:=by
    intro j u hj
    match j,hj with
    |0,hj=>
     simp at hj;subst hj;rw[←aW,Addr.add_lit];exact(Blk.new (w1.setCell ⟨ab,1,none⟩ (.slice z (C.length+1) A)) 2 #[.int .i64 M]).cell 0 _ rfl
   go_wp2_with (at_builtin;refine wpList_append_own_at _ rfl _ _ 115 rfl (ab+1) 2 i0 (.int .i64 0) 1 8 Tryz.underlying115 hi aY aZ a6 rfl (by decide) _ V.length (V.map (Value.int .i64)) rfl q2 ⟨w1.heap.size,0,none⟩ 1 1 [.int .i64 M] rfl rfl au ?c2 ?c3 ?c4 ?c5 ?_)
   all_goals try(case c1=>intro j u hj;match j,hj with|0,hj=>simp at hj;subst hj;simp[Addr.add])
   all_goals try(case c2=>first|rfl|(intro u hu;simp at hu;subst hu;rfl))
   all_goals try(case c3=>unfold maxLen;omega)
   all_goals try(case c4=>omega)
   all_goals try(case c5=>first|omega|(simp;omega))
   intro v' w2 ad J _ X;obtain⟨d,y,rfl⟩:=z0g ad;clear a2 b1 d1 d2;have ay:Below (ab+1) (w1.setCell ⟨ab,1,none⟩ (.slice z (C.length+1) A)) w2:=((Below.refl _ _).alloc (by omega) _).grown J (by simp;omega) (fun k hk=>(o2.lt k hk).1);have aU:w5.heap.size≤w2.heap.size:=Nat.le_trans aB ay.size;have bb:∀g,(Value.slice d (V.length+1) y).ownBlock=some g→g<mb∨w5.heap.size≤g:=fun g hg=>by
    rcases X with e|e
    ·exact Or.inl (aI g (by rw[←e];exact hg))
    ·rw[hg]at e;simp at e;right;omega
   have aN:Apart3 (.slice z (C.length+1) A) (.slice d (V.length+1) y) (.slice ia c.length ic):=aw.grow2 (w:=(w1.setCell ⟨ab,1,none⟩ (.slice z (C.length+1) A)).alloc (.cells #[.int .i64 M] 2)) (by simpa using X) (fun g hg=>by have:=l1 g hg;simp;omega) (fun g hg=>by have:=l3 g hg;simp;omega);replace o1:=(z0a o1 T).kept J aw.a12;replace o3:=(z0a o3 T).kept J (z3i aw.a23);replace oR:=(z0a oR T).kept J (z4D (fun g h1 h2=>by have:=ao g h1;have:=aI g h2;omega));replace Bd:=(Bd.below T).grown J (by intro e;have:=aI db e.symm;omega);replace L:Blk w2 ab 176 #[.int .i64 0,.slice z (C.length+1) A,.slice va V.length vc,.slice ia c.length ic]:=(ay.block _ (by omega)).trans L;replace o2:w2.ownsRow (ab+1) 2 1 (.slice d (V.length+1) y) (V.length+1) ((V++[M]).map (Value.int .i64)):=by simpa using ad
   replace hb:=hb.trans (ay.mono (by omega));clear ad J X q2 l1 l3 T ay aw aW aB au;have d1:=L.cell 2 _ rfl;have d2:=L.frozen 2;replace o1:=ownsRow_setCell_below (a:=⟨ab,2,none⟩) o1 (by dsimp only;omega) (.slice d (V.length+1) y);replace o2:=ownsRow_setCell_below (a:=⟨ab,2,none⟩) o2 (by dsimp only;omega) (.slice d (V.length+1) y);replace o3:=z0h (j:=2) (u:=.slice d (V.length+1) y) o3 ar;replace oR:=ownsRow_setCell_below (a:=⟨ab,2,none⟩) oR (by dsimp only;omega) (.slice d (V.length+1) y);replace L:Blk (w2.setCell ⟨ab,2,none⟩ (.slice d (V.length+1) y)) ab 176 #[.int .i64 0,.slice z (C.length+1) A,.slice d (V.length+1) y,.slice ia c.length ic]:=by simpa using L.set 2 (.slice d (V.length+1) y)
   replace Bd:Blk (w2.setCell ⟨ab,2,none⟩ (.slice d (V.length+1) y)) (db) 243 #[.int .i64 I,.int .i64 M,.slice ra RL.length rc]:=Bd.otherG (by omega);replace hb:=hb.setCell (p:=⟨ab,2,none⟩) (Nat.le_refl _) (.slice d (V.length+1) y);replace aU:w5.heap.size≤(w2.setCell ⟨ab,2,none⟩ (.slice d (V.length+1) y)).heap.size:=by simpa[World.setCell]using aU
   have b0:=Bd.cell 0 _ rfl;have b2:=Bd.cell 2 _ rfl;have a3:=L.cell 3 _ rfl;have a4:=L.frozen 3;by_cases hc:I=0
   ·obtain rfl:RL=nx:=av.out hc;have a8:Apart3 (.slice z (C.length+1) A) (.slice d (V.length+1) y) (.slice ra RL.length rc):=⟨aN.a12,z4D (fun g h1 h2=>by have:=ao g h2;have:=ba g h1;omega),z4D (fun g h1 h2=>by have:=ao g h2;have:=bb g h1;omega)⟩
    have bj:((w2.setCell ⟨ab,2,none⟩ (.slice d (V.length+1) y)).setCell ⟨ab,3,none⟩ (.slice ra RL.length rc)).heap.size=(w2.setCell ⟨ab,2,none⟩ (.slice d (V.length+1) y)).heap.size:=by simp[World.setCell]
    have R:Hid (Blk ((w2.setCell ⟨ab,2,none⟩ (.slice d (V.length+1) y)).setCell ⟨ab,3,none⟩ (.slice ra RL.length rc)) ab 176 #[.int .i64 0,.slice z (C.length+1) A,.slice d (V.length+1) y,.slice ra RL.length rc]∧((w2.setCell ⟨ab,2,none⟩ (.slice d (V.length+1) y)).setCell ⟨ab,3,none⟩ (.slice ra RL.length rc)).ownsRow (ab+1) 2 1 (.slice z (C.length+1) A) (C.length+1) ((C++[I]).map (Value.int .i64))∧((w2.setCell ⟨ab,2,none⟩ (.slice d (V.length+1) y)).setCell ⟨ab,3,none⟩ (.slice ra RL.length rc)).ownsRow (ab+1) 2 1 (.slice d (V.length+1) y) (V.length+1) ((V++[M]).map (Value.int .i64))∧((w2.setCell ⟨ab,2,none⟩ (.slice d (V.length+1) y)).setCell ⟨ab,3,none⟩ (.slice ra RL.length rc)).ownsRow mb 119 2 (.slice ra RL.length rc) RL.length (z0c RL)∧Below ab W3 ((w2.setCell ⟨ab,2,none⟩ (.slice d (V.length+1) y)).setCell ⟨ab,3,none⟩ (.slice ra RL.length rc))∧ab+1≤((w2.setCell ⟨ab,2,none⟩ (.slice d (V.length+1) y)).setCell ⟨ab,3,none⟩ (.slice ra RL.length rc)).heap.size):=
     ⟨by simpa using L.set 3 (.slice ra RL.length rc),ownsRow_setCell_below o1 (by dsimp only;omega) _,ownsRow_setCell_below o2 (by dsimp only;omega) _,ownsRow_setCell_below oR (by dsimp only;omega) _,hb.setCell (p:=⟨ab,3,none⟩) (Nat.le_refl _) _,by omega⟩
    clear o1 o2 o3 oR L Bd hb;subst hc
    go_wp2
    go_roundw
    case rel=>
     refine⟨k+1,RL,C++[0],V++[M],z,A,d,y,ra,rc,by omega,by go_num,?_,?_,?_,?_,?_,?_,R.out.2.2.2.2.1,R.out.2.2.2.2.2,am⟩
     ·simpa using R.out.1
     ·simpa using R.out.2.1
     ·simpa using R.out.2.2.1
     ·exact z0o R.out.2.2.2.1 (by omega)
     ·simpa using a8
     ·intro k hk;have:=ao k hk;omega
    case measure=>simp[intOf];omega
   ·have bp:(I==0)=false:=by simp[hc]
    have bf:nx=c:=aF.out hc;have R:Hid (Blk (w2.setCell ⟨ab,2,none⟩ (.slice d (V.length+1) y)) ab 176 #[.int .i64 0,.slice z (C.length+1) A,.slice d (V.length+1) y,.slice ia c.length ic]∧(w2.setCell ⟨ab,2,none⟩ (.slice d (V.length+1) y)).ownsRow (ab+1) 2 1 (.slice z (C.length+1) A) (C.length+1) ((C++[I]).map (Value.int .i64))∧(w2.setCell ⟨ab,2,none⟩ (.slice d (V.length+1) y)).ownsRow (ab+1) 2 1 (.slice d (V.length+1) y) (V.length+1) ((V++[M]).map (Value.int .i64))∧(w2.setCell ⟨ab,2,none⟩ (.slice d (V.length+1) y)).ownsRow W 119 2 (.slice ia c.length ic) c.length (z0c c)∧Apart3 (.slice z (C.length+1) A) (.slice d (V.length+1) y) (.slice ia c.length ic)∧Below ab W3 (w2.setCell ⟨ab,2,none⟩ (.slice d (V.length+1) y))∧ab+1≤(w2.setCell ⟨ab,2,none⟩ (.slice d (V.length+1) y)).heap.size):=⟨L,o1,o2,o3,aN,hb,by omega⟩
    clear o1 o2 o3 oR L Bd hb;subst bf
    go_wp2
    go_roundw
    case rel=>
     refine⟨k+1,nx,C++[I],V++[M],z,A,d,y,ia,ic,by omega,by go_num,?_,?_,?_,R.out.2.2.2.1,?_,ar,R.out.2.2.2.2.2.1,R.out.2.2.2.2.2.2,am⟩
     ·simpa using R.out.1
     ·simpa using R.out.2.1
     ·simpa using R.out.2.2.1
     ·simpa using R.out.2.2.2.2.1
    case measure=>simp[intOf];omega
  ·have be:k=ds.length:=by omega
   subst be;have HE:Hid (eaC xs ds=0∧eaCd xs ds=C∧eaVl xs ds=V∧eaI xs ds=c):=by
    obtain⟨_,_,g3,g4,g5,_,_⟩:=HG.out;rw[List.drop_length]at g3 g4 g5;obtain⟨e1,e2,e3,e4⟩:=a7.out;exact⟨e1,by rw[e2,←g4];simp[z12],by rw[e3,←g5];simp[z13],by rw[e4,←g3];rfl⟩
   replace B0:Blk wr _ _ _:=(hb.block _ bg).trans B0;obtain⟨p0,p1,p2,p3⟩:=B0.cel4;obtain⟨f0,f1,f2,f3⟩:=B0.frz4;obtain⟨q0,q1,q2,q3⟩:=L.cel4;have br:=B0.lt;have bd:Below w.heap.size w wr:=aQ.trans (hb.mono (by omega));clear B0 L HG
   go_wp2
   refine bodyPost_ret (v:=.agg #[.int .i64 0,.slice ca C.length cc,.slice va V.length vc,.slice ia c.length ic]) (by simp[results,Tryz.results184,go_sem,p0,p1,p2,p3]) rfl ?_;rw[HE.out.1,HE.out.2.1,HE.out.2.2.1,HE.out.2.2.2];refine⟨_,_,_,_,_,_,rfl,⟨OwnS.of ?_,OwnS.of ?_,OwnS.of ?_,ap⟩,?_⟩
   ·refine z0o (base:=ab+1) ?_ (by omega);repeat' (refine ownsRow_setCell_below ?_ (by dsimp only;omega) _)
    exact o1
   ·refine z0o (base:=ab+1) ?_ (by omega);repeat' (refine ownsRow_setCell_below ?_ (by dsimp only;omega) _)
    exact o2
   ·refine z0o (base:=W) ?_ (by omega);repeat' (refine ownsRow_setCell_below ?_ (by dsimp only;omega) _)
    exact o3
   ·repeat' (refine Below.setCell ?_ (by dsimp only;omega) _)
    exact bd
end
theorem q2B:∀ {ds:List TxnD},(∀t∈ds,t.F=0)→allF ds=0
 |[],_=>rfl
 |d::r,h=>by
  rw[allF,if_pos (h d (by simp))];exact q2B (fun t ht=>h t (List.mem_cons_of_mem _ ht))
theorem q3U{ds:List TxnD}(h:∀t∈ds,t.F=0)(hl:ds.length≤60):idsC ds=0:=by
 unfold idsC;rw[if_neg (by omega)];exact q2B h
theorem q4W(c:Int)(a1 a2 a3:Option Addr)(n1 k1 n2 k2 n3 k3:Nat)(w:World):(Instr.field 176 (.agg #[.int .i64 c,.slice a1 n1 k1,.slice a2 n2 k2,.slice a3 n3 k3]) 3).run Tryz.prog w=.ok (.slice a3 n3 k3) w:=by kernel_rfl
theorem z6z(v1 v2:Value)(ps qs:List TxnQ)(w:World)(h1:txnK.At w v1 ps)(h2:txnK.At w v2 qs)(O:∀p∈ps,(TxnQ.e p).F=0)(C:∀p∈qs,(TxnQ.e p).F=0)(ai:ps.length≤40)(af:qs.length≤40):
  Calls Tryz.prog 122 #[v1,v2] w fun e w'=>∃p:RepQ,e=.returned (.agg #[p.vd,p.vb,p.vt,p.vu,p.vn])∧p.e=mkR (ps.map TxnQ.e) (qs.map TxnQ.e)∧repK.own w' p∧(repK.foot p).Nodup∧(∀k∈repK.foot p,w.heap.size≤k)∧Below w.heap.size w w':=by
 have I:∀t∈ps.map TxnQ.e,t.F=0:=fun t ht=>by obtain⟨p,hp,rfl⟩:=List.mem_map.1 ht;exact O p hp
 have U:∀t∈qs.map TxnQ.e,t.F=0:=fun t ht=>by obtain⟨p,hp,rfl⟩:=List.mem_map.1 ht;exact C p hp
 have T:∀ (l:List TxnQ),(∀p∈l,(TxnQ.e p).F=0)→∀p∈l,0<p.acts.length:=fun l hl p hp=>by
  have:=(z0W (show txnF p.i p.s p.q p.acts=0 from hl p hp)).1;omega
 have m1:=q2w I;have m2:=q2w U;have gD:=z1l (xs:=[]) (by simp) z3O I;have A:=q3U I (by rw[List.length_map];omega);obtain⟨z1,z2,z3,z4⟩:=q2q (xs:=[]) z5K A;obtain⟨a,cap,rfl⟩:=h1.shape;obtain⟨a',M,rfl⟩:=h2.shape;have c:Below w.heap.size w (w.alloc (.cells #[.slice none 0 0,.slice none 0 0,.slice none 0 0,.slice none 0 0,.slice none 0 0] 29)):=by go_grown
 have Bv:=Blk.new w 29 #[.slice none 0 0,.slice none 0 0,.slice none 0 0,.slice none 0 0,.slice none 0 0];have aj:w.heap.size+1≤(w.alloc (.cells #[.slice none 0 0,.slice none 0 0,.slice none 0 0,.slice none 0 0,.slice none 0 0] 29)).heap.size:=by simp only[World.size_alloc];omega
 have V:=fun w h=>z3H (.slice a ps.length cap) ps w h (T ps O) (by omega)
 have W:=fun w h=>z3H (.slice a' qs.length M) qs w h (T qs C) (by omega)
 have L:=fun w h=>q2A none 0 [] (.slice a ps.length cap) (ps.map TxnQ.e) w (Or.inl rfl) (Or.inr ⟨rfl,rfl,rfl⟩) (z0v h) z5K A
 rw[z1,z2,z3,z4]at L;have hR:=fun(w':World) (hb:Below w.heap.size w w')=>And.intro (h1.below hb) (h2.below hb)
 clear z1 z2 z3 z4 A m1 m2 T h1 h2 U;simp only[List.length_nil]at L;go_enter Tryz.func122,Tryz.ntmps122
 go_wp2_with fail
 have X:=hR _ c;generalize w.alloc (.cells #[.slice none 0 0,.slice none 0 0,.slice none 0 0,.slice none 0 0,.slice none 0 0] 29)=W0 at*;generalize hH:w.heap.size=H at*;refine(V W0 X.1).mono ?_;rintro e w1 ⟨v',q1,rfl,e1,o1,n1,g1,hb⟩;obtain⟨a1,k1,rfl⟩:=o1.shape;have i1:=o1.lt;have s1:=hb.size;replace Bv:=Bv.below hb;replace c:=c.trans (hb.mono (by omega));have Y:=hR _ c;clear hb V
 go_wp2_with fail
 refine(W w1 Y.2).mono ?_;rintro e w2 ⟨v',q3,rfl,e3,o3,n3,g3,hb⟩;obtain⟨a2,k2,rfl⟩:=o3.shape;have i3:=o3.lt;have s2:=hb.size;replace Bv:=Bv.below hb;replace o1:=o1.below hb;replace c:=c.trans (hb.mono (by omega));have Z:=hR _ c;clear hb W
 go_wp2_with fail
 refine(L w2 Z.1).mono ?_;rintro e w3 ⟨b1,c1,b2,c2,b3,c3,rfl,hA,hb⟩;obtain⟨oB,gB⟩:=z2F hA.o3;have iB:=z0z oB;have s3:=hb.size;replace Bv:=Bv.below hb;replace o1:=o1.below hb;replace o3:=o3.below hb;replace c:=c.trans (hb.mono (by omega));have ag:=hR _ c;clear hb L hA;have ae:=q4W 0 b1 b2 b3 (z12 [] (ps.map TxnQ.e)).length c1 (z13 [] (ps.map TxnQ.e)).length c2 (allI [] (ps.map TxnQ.e)).length c3 w3;have d:itemK.Own w3 (.slice b3 (allI [] (ps.map TxnQ.e)).length c3) (allI [] (ps.map TxnQ.e)):=⟨oB,fun _ _=>trivial⟩
 have z:Below w3.heap.size w3 (w3.alloc (.cells #[.slice a1 q1.length k1,.slice b3 (allI [] (ps.map TxnQ.e)).length c3,.slice a2 q3.length k2,.slice none 0 0,.slice none 0 0] 29)):=by go_grown
 have Bg:=Blk.new w3 29 #[.slice a1 q1.length k1,.slice b3 (allI [] (ps.map TxnQ.e)).length c3,.slice a2 q3.length k2,.slice none 0 0,.slice none 0 0];replace Bv:=Bv.below z;replace o1:=o1.below z;replace o3:=o3.below z;replace d:=d.below z;replace c:=c.trans (z.mono (by omega));have aa:=hR _ c;have s4:=z.size;have ah:=Bg.lt;have ab:=q0V b3 c3 (allI [] (ps.map TxnQ.e)) (.slice a' qs.length M) qs _ d.at (d.niceV _ _ _ rfl) aa.2 C af gD.1 gD.2;have x1:=Bg.cell 1 _ rfl
 go_wp2_with fail
 clear ae x1 z oB;generalize ad:w3.alloc (.cells #[.slice a1 q1.length k1,.slice b3 (allI [] (ps.map TxnQ.e)).length c3,.slice a2 q3.length k2,.slice none 0 0,.slice none 0 0] 29)=w4 at*;clear ad;generalize hg:w3.heap.size=g at*;refine ab.mono ?_;rintro e w5 ⟨ua,uc,na,nc,us,ys,rfl,eU,eY,oU,oY,nU,gU,gY,hb⟩;clear ab;have s5:=hb.size;have iU:=oU.lt;have iY:=z0z oY.1;replace Bv:=Bv.below hb;replace Bg:=Bg.below hb;replace o1:=o1.below hb;replace o3:=o3.below hb;replace d:=d.below hb;replace c:=c.trans (hb.mono (by omega));clear hb X Y Z ag aa hR;have y3:=Bg.cell 3 _ rfl;have y4:=Bg.cell 4 _ rfl;have f3:=Bg.frozen 3;have f4:=Bg.frozen 4;have B2:Blk ((w5.setCell ⟨g,3,none⟩ (.slice ua us.length uc)).setCell ⟨g,4,none⟩ (.slice na ys.length nc)) g 29 #[.slice a1 q1.length k1,.slice b3 (allI [] (ps.map TxnQ.e)).length c3,.slice a2 q3.length k2,.slice ua us.length uc,.slice na ys.length nc]:=by
  have:=(Bg.set 3 (.slice ua us.length uc)).set 4 (.slice na ys.length nc);simpa using this
 have N:=(Bv.other (b':=g) (by omega) 3 (.slice ua us.length uc)).other (b':=g) (by omega) 4 (.slice na ys.length nc);have J:Out [g] w5 ((w5.setCell ⟨g,3,none⟩ (.slice ua us.length uc)).setCell ⟨g,4,none⟩ (.slice na ys.length nc)):=(Out.setCell w5 g 3 _).trans (Out.setCell _ g 4 _);have RF:Hid (∀u0 u1 u2 u3 u4:Value,repK.own (((((((w5.setCell ⟨g,3,none⟩ (.slice ua us.length uc)).setCell ⟨g,4,none⟩ (.slice na ys.length nc)).setCell ⟨H,0,none⟩ u0).setCell ⟨H,1,none⟩ u1).setCell ⟨H,2,none⟩ u2).setCell ⟨H,3,none⟩ u3).setCell ⟨H,4,none⟩ u4) (⟨.slice a1 q1.length k1,q1,.slice b3 (allI [] (ps.map TxnQ.e)).length c3,allI [] (ps.map TxnQ.e),.slice a2 q3.length k2,q3,.slice ua us.length uc,us,.slice na ys.length nc,ys⟩:RepQ)∧Below H w (((((((w5.setCell ⟨g,3,none⟩ (.slice ua us.length uc)).setCell ⟨g,4,none⟩ (.slice na ys.length nc)).setCell ⟨H,0,none⟩ u0).setCell ⟨H,1,none⟩ u1).setCell ⟨H,2,none⟩ u2).setCell ⟨H,3,none⟩ u3).setCell ⟨H,4,none⟩ u4)):=fun u0 u1 u2 u3 u4=>by
  have hS:Out [H] ((w5.setCell ⟨g,3,none⟩ (.slice ua us.length uc)).setCell ⟨g,4,none⟩ (.slice na ys.length nc)) (((((((w5.setCell ⟨g,3,none⟩ (.slice ua us.length uc)).setCell ⟨g,4,none⟩ (.slice na ys.length nc)).setCell ⟨H,0,none⟩ u0).setCell ⟨H,1,none⟩ u1).setCell ⟨H,2,none⟩ u2).setCell ⟨H,3,none⟩ u3).setCell ⟨H,4,none⟩ u4):=((((Out.setCell _ H 0 u0).trans (Out.setCell _ H 1 u1)).trans (Out.setCell _ H 2 u2)).trans (Out.setCell _ H 3 u3)).trans (Out.setCell _ H 4 u4);have hA:Out [g,H] w5 (((((((w5.setCell ⟨g,3,none⟩ (.slice ua us.length uc)).setCell ⟨g,4,none⟩ (.slice na ys.length nc)).setCell ⟨H,0,none⟩ u0).setCell ⟨H,1,none⟩ u1).setCell ⟨H,2,none⟩ u2).setCell ⟨H,3,none⟩ u3).setCell ⟨H,4,none⟩ u4):=(J.mono (fun x hx=>by simp only[List.mem_singleton]at hx;simp[hx])).trans (hS.mono (fun x hx=>by simp only[List.mem_singleton]at hx;simp[hx]));have nn:∀x,x≠g→x≠H→x∉[g,H]:=fun x h1 h2 hm=>by
   simp only[List.mem_cons,List.not_mem_nil,or_false]at hm;omega
  refine⟨⟨o1.out hA (fun x hx=>nn x (by have:=i1 x hx;omega) (by have:=g1 x hx;omega)),d.out hA (fun x hx=>by rw[z0l]at hx;exact nn x (by have:=iB x hx;omega) (by have:=gB x hx;omega)),o3.out hA (fun x hx=>nn x (by have:=i3 x hx;omega) (by have:=g3 x hx;omega)),oU.out hA (fun x hx=>nn x (by have:=(gU x hx).1;omega) (by have:=(gU x hx).1;omega)),oY.out hA (fun x hx=>by rw[z0l]at hx;exact nn x (by have:=gY x hx;omega) (by have:=gY x hx;omega))⟩,?_⟩;refine Out.keep (Out.keep c J (by omega) (fun x hx=>by simp only[List.mem_singleton]at hx;omega)) hS (by have:=J.size;omega) (fun x hx=>by simp only[List.mem_singleton]at hx;omega)
 have R1:Hid ((repK.foot (⟨.slice a1 q1.length k1,q1,.slice b3 (allI [] (ps.map TxnQ.e)).length c3,allI [] (ps.map TxnQ.e),.slice a2 q3.length k2,q3,.slice ua us.length uc,us,.slice na ys.length nc,ys⟩:RepQ)).Nodup∧∀x∈repK.foot (⟨.slice a1 q1.length k1,q1,.slice b3 (allI [] (ps.map TxnQ.e)).length c3,allI [] (ps.map TxnQ.e),.slice a2 q3.length k2,q3,.slice ua us.length uc,us,.slice na ys.length nc,ys⟩:RepQ),H≤x):=by
  have E1:itemK.fp (.slice b3 (allI [] (ps.map TxnQ.e)).length c3) (allI [] (ps.map TxnQ.e))=blk (.slice b3 (allI [] (ps.map TxnQ.e)).length c3):=z0l _ _;have E2:itemK.fp (.slice na ys.length nc) ys=blk (.slice na ys.length nc):=z0l _ _;show List.Nodup (txnK.fp (.slice a1 q1.length k1) q1++(itemK.fp (.slice b3 (allI [] (ps.map TxnQ.e)).length c3) (allI [] (ps.map TxnQ.e))++(txnK.fp (.slice a2 q3.length k2) q3++(ussK.fp (.slice ua us.length uc) us++itemK.fp (.slice na ys.length nc) ys))))∧∀x∈txnK.fp (.slice a1 q1.length k1) q1++(itemK.fp (.slice b3 (allI [] (ps.map TxnQ.e)).length c3) (allI [] (ps.map TxnQ.e))++(txnK.fp (.slice a2 q3.length k2) q3++(ussK.fp (.slice ua us.length uc) us++itemK.fp (.slice na ys.length nc) ys))),H≤x;rw[E1,E2];have bA:∀x∈txnK.fp (.slice a1 q1.length k1) q1,W0.heap.size≤x∧x<w1.heap.size:=fun x hx=>⟨g1 x hx,i1 x hx⟩
  have bC:∀x∈txnK.fp (.slice a2 q3.length k2) q3,w1.heap.size≤x∧x<w2.heap.size:=fun x hx=>⟨g3 x hx,i3 x hx⟩
  have bB:∀x∈blk (.slice b3 (allI [] (ps.map TxnQ.e)).length c3),w2.heap.size≤x∧x<g:=fun x hx=>⟨gB x hx,by have:=iB x hx;omega⟩
  have bU:∀x∈ussK.fp (.slice ua us.length uc) us,w4.heap.size≤x:=fun x hx=>(gU x hx).1
  refine⟨List.nodup_append.2 ⟨n1,List.nodup_append.2 ⟨z0r _,List.nodup_append.2 ⟨n3,List.nodup_append.2 ⟨nU,z0r _,fun x hx y hy e=>(gU x hx).2 (e▸hy)⟩,?_⟩,?_⟩,?_⟩,?_⟩
  ·intro x hx y hy e;have:=bC x hx;rcases List.mem_append.1 hy with hy|hy
   ·have:=bU y hy;omega
   ·have:=gY y hy;omega
  ·intro x hx y hy e;have:=bB x hx;rcases List.mem_append.1 hy with hy|hy
   ·have:=bC y hy;omega
   rcases List.mem_append.1 hy with hy|hy
   ·have:=bU y hy;omega
   ·have:=gY y hy;omega
  ·intro x hx y hy e;have:=bA x hx;rcases List.mem_append.1 hy with hy|hy
   ·have:=bB y hy;omega
   rcases List.mem_append.1 hy with hy|hy
   ·have:=bC y hy;omega
   rcases List.mem_append.1 hy with hy|hy
   ·have:=bU y hy;omega
   ·have:=gY y hy;omega
  ·intro x hx;rcases List.mem_append.1 hx with hx|hx
   ·have:=bA x hx;omega
   rcases List.mem_append.1 hx with hx|hx
   ·have:=bB x hx;omega
   rcases List.mem_append.1 hx with hx|hx
   ·have:=bC x hx;omega
   rcases List.mem_append.1 hx with hx|hx
   ·have:=bU x hx;omega
   ·have:=gY x hx;omega
 have R2:Hid (RepQ.e (⟨.slice a1 q1.length k1,q1,.slice b3 (allI [] (ps.map TxnQ.e)).length c3,allI [] (ps.map TxnQ.e),.slice a2 q3.length k2,q3,.slice ua us.length uc,us,.slice na ys.length nc,ys⟩:RepQ)=mkR (ps.map TxnQ.e) (qs.map TxnQ.e)):=show _=_ by
  simp only[RepQ.e,mkR,e1,e3,eU,eY]
 clear e1 e3 eU eY oU oY nU gU gY iU iY o1 o3 d n1 n3 g1 g3 i1 i3 gB iB J gD I O C;obtain⟨r0,r1,r2,r3,r4⟩:=B2.cel5;obtain⟨z0,z1,z2,z3,z4⟩:=N.cel5;obtain⟨t0,t1,t2,t3,t4⟩:=N.frz5;clear Bg Bv B2 N c
 go_wp2
 exact bodyPost_ret (v:=.agg #[.slice a1 q1.length k1,.slice b3 (allI [] (ps.map TxnQ.e)).length c3,.slice a2 q3.length k2,.slice ua us.length uc,.slice na ys.length nc]) (by simp[results,Tryz.results122,go_sem,z0,z1,z2,z3,z4]) rfl ⟨(⟨.slice a1 q1.length k1,q1,.slice b3 (allI [] (ps.map TxnQ.e)).length c3,allI [] (ps.map TxnQ.e),.slice a2 q3.length k2,q3,.slice ua us.length uc,us,.slice na ys.length nc,ys⟩:RepQ),rfl,R2.out,(RF.out _ _ _ _ _).1,R1.out.1,(by rw[hH];exact R1.out.2),(by rw[hH];exact(RF.out _ _ _ _ _).2)⟩
theorem z8B(i s q:Int)(b d cap:Nat)(zs:List ActD)(w:World)(h:ActRow w (some ⟨b,d,none⟩) zs)(hl:zs.length≤1048576):
  Calls Tryz.prog 173 #[.agg #[.int .i64 i,.int .i64 s,.int .i64 q,.slice (some ⟨b,d,none⟩) zs.length cap]] w fun e w'=>∃a c,e=.returned (.agg #[.int .i64 i,.int .i64 s,.int .i64 q,.slice a zs.length c])∧
   w'.ownsRow w.heap.size 144 3 (.slice a zs.length c) zs.length (z0n zs)∧Below w.heap.size w w':=by
 obtain⟨i0,hi,I,J,L⟩:=info_parts z42;have hs:=z3z (Lies.below h (w':=((w.alloc (.cells #[.int .i64 i,.int .i64 s,.int .i64 q,.slice (some ⟨b,d,none⟩) zs.length cap] 39)).alloc (.cells #[.int .i64 0,.int .i64 0,.int .i64 0,.slice none 0 0] 39)).alloc (.cells #[] 144)) (by go_grown));have C:=z0q zs;have ho:=World.ownsRow_lit (e:=144) (size:=3) ((w.alloc (.cells #[.int .i64 i,.int .i64 s,.int .i64 q,.slice (some ⟨b,d,none⟩) zs.length cap] 39)).alloc (.cells #[.int .i64 0,.int .i64 0,.int .i64 0,.slice none 0 0] 39)) #[] 0 (Nat.le_refl _) (by decide) rfl;have z:Below w.heap.size w (((w.alloc (.cells #[.int .i64 i,.int .i64 s,.int .i64 q,.slice (some ⟨b,d,none⟩) zs.length cap] 39)).alloc (.cells #[.int .i64 0,.int .i64 0,.int .i64 0,.slice none 0 0] 39)).alloc (.cells #[] 144)):=by go_grown
 have B1:=(Blk.new w 39 #[.int .i64 i,.int .i64 s,.int .i64 q,.slice (some ⟨b,d,none⟩) zs.length cap]).below (w':=((w.alloc (.cells #[.int .i64 i,.int .i64 s,.int .i64 q,.slice (some ⟨b,d,none⟩) zs.length cap] 39)).alloc (.cells #[.int .i64 0,.int .i64 0,.int .i64 0,.slice none 0 0] 39)).alloc (.cells #[] 144)) (by go_grown);have B2:=(Blk.new (w.alloc (.cells #[.int .i64 i,.int .i64 s,.int .i64 q,.slice (some ⟨b,d,none⟩) zs.length cap] 39)) 39 #[.int .i64 0,.int .i64 0,.int .i64 0,.slice none 0 0]).below (w':=((w.alloc (.cells #[.int .i64 i,.int .i64 s,.int .i64 q,.slice (some ⟨b,d,none⟩) zs.length cap] 39)).alloc (.cells #[.int .i64 0,.int .i64 0,.int .i64 0,.slice none 0 0] 39)).alloc (.cells #[] 144)) (by go_grown);have HS:Hid (∀j u,(z0n zs)[j]?=some u→_):=hs;clear hs;simp only[World.size_alloc]at B2 ho;go_enter Tryz.func173,Tryz.ntmps173
 go_wp2_with (at_builtin;refine wpList_append_own _ rfl _ _ 37 rfl (w.heap.size+1+1) 144 i0 (.agg #[.int .i64 0,.int .i64 0,.int .i64 0]) 3 24 Tryz.underlying37 hi I J L rfl (by decide) _ 0 [] rfl ho ⟨b,d,none⟩ zs.length cap (z0n zs) rfl C HS.out ?c2 ?c3 ?c4 ?c5 ?_)
 all_goals try(case c2=>exact z2s zs)
 all_goals try(case c3=>unfold maxLen;omega)
 all_goals try(case c4=>omega)
 all_goals try(case c5=>simp)
 intro v' w2 y x _;obtain⟨a2,c2,rfl⟩:=z0g y;replace B1:=B1.grown x (by simp[Value.ownBlock]<;>omega);replace B2:=B2.grown x (by simp[Value.ownBlock]<;>omega);have A:Below w.heap.size w w2:=z.grown x (by simp;omega) (fun k hk=>by simp[Value.ownBlock]at hk;omega);have M:=B2.lt;obtain⟨p0,p1,p2,p3⟩:=B1.cel4;have pf:=B1.frozen 3;obtain⟨q0,q1,q2,q3⟩:=B2.cel4;obtain⟨f0,f1,f2,f3⟩:=B2.frz4;try simp only[Nat.zero_add]at y
 clear B1 B2 x HS ho z
 go_wp2
 refine bodyPost_ret (v:=.agg #[.int .i64 i,.int .i64 s,.int .i64 q,.slice a2 zs.length c2]) (by simp[results,Tryz.results173,go_sem,q0,q1,q2,q3]) rfl ⟨_,_,rfl,?_,?_⟩
 ·refine z0o (base:=w.heap.size+1+1) ?_ (by omega);repeat' (refine ownsRow_setCell_below ?_ (by dsimp only;omega) _)
  simpa using y
 ·repeat' (refine Below.setCell ?_ (by dsimp only;omega) _)
  exact A
theorem z8C(i s q:Int)(w:World):
  Calls Tryz.prog 173 #[.agg #[.int .i64 i,.int .i64 s,.int .i64 q,.slice none 0 0]] w fun e w'=>∃a c,e=.returned (.agg #[.int .i64 i,.int .i64 s,.int .i64 q,.slice a 0 c])∧
   w'.ownsRow w.heap.size 144 3 (.slice a 0 c) 0 (z0n [])∧Below w.heap.size w w':=by
 obtain⟨i0,hi,hz0,hz1,hz2⟩:=info_parts z42;have ho:=World.ownsRow_lit (e:=144) (size:=3) ((w.alloc (.cells #[.int .i64 i,.int .i64 s,.int .i64 q,.slice none 0 0] 39)).alloc (.cells #[.int .i64 0,.int .i64 0,.int .i64 0,.slice none 0 0] 39)) #[] 0 (Nat.le_refl _) (by decide) rfl;have hb1:Below w.heap.size w (((w.alloc (.cells #[.int .i64 i,.int .i64 s,.int .i64 q,.slice none 0 0] 39)).alloc (.cells #[.int .i64 0,.int .i64 0,.int .i64 0,.slice none 0 0] 39)).alloc (.cells #[] 144)):=by go_grown
 have B1:=(Blk.new w 39 #[.int .i64 i,.int .i64 s,.int .i64 q,.slice none 0 0]).below (w':=((w.alloc (.cells #[.int .i64 i,.int .i64 s,.int .i64 q,.slice none 0 0] 39)).alloc (.cells #[.int .i64 0,.int .i64 0,.int .i64 0,.slice none 0 0] 39)).alloc (.cells #[] 144)) (by go_grown);have B2:=(Blk.new (w.alloc (.cells #[.int .i64 i,.int .i64 s,.int .i64 q,.slice none 0 0] 39)) 39 #[.int .i64 0,.int .i64 0,.int .i64 0,.slice none 0 0]).below (w':=((w.alloc (.cells #[.int .i64 i,.int .i64 s,.int .i64 q,.slice none 0 0] 39)).alloc (.cells #[.int .i64 0,.int .i64 0,.int .i64 0,.slice none 0 0] 39)).alloc (.cells #[] 144)) (by go_grown);simp only[World.size_alloc]at B2 ho;go_enter Tryz.func173,Tryz.ntmps173
 go_wp2_with (at_builtin;refine wpList_append_own_none rfl _ _ 37 rfl (w.heap.size+1+1) 144 i0 3 Tryz.underlying37 hi _ 0 [] rfl ho rfl ?_)
 have hlt2:=B2.lt;obtain⟨p0,p1,p2,p3⟩:=B1.cel4;have pf:=B1.frozen 3;obtain⟨q0,q1,q2,q3⟩:=B2.cel4;obtain⟨f0,f1,f2,f3⟩:=B2.frz4;clear B1 B2
 go_wp2
 refine bodyPost_ret (v:=.agg #[.int .i64 i,.int .i64 s,.int .i64 q,.slice (some ⟨w.heap.size+1+1,0,none⟩) 0 0]) (by simp[results,Tryz.results173,go_sem]) rfl ⟨_,_,rfl,?_,?_⟩
 ·have h9:=World.ownsRow_lit (e:=144) (size:=3) ((w.alloc (.cells #[.int .i64 i,.int .i64 s,.int .i64 q,.slice (some ⟨w.heap.size+1+1,0,none⟩) 0 0] 39)).alloc (.cells #[.int .i64 i,.int .i64 s,.int .i64 q,.slice (some ⟨w.heap.size+1+1,0,none⟩) 0 0] 39)) #[] 0 (Nat.le_refl _) (by decide) rfl;simp only[World.size_alloc]at h9;exact z0o h9 (by omega)
 ·go_grown
def z8D(p:TxnQ):Prop:=(p.va=.slice none 0 0∧p.acts=[])∨∃b off c,p.va=.slice (some ⟨b,off,none⟩) p.acts.length c
theorem z8E(p:TxnQ)(w:World)(h:txnK.rd w p)(hN:z8D p)(hl:p.acts.length≤1048576):
  Calls Tryz.prog 173 #[.agg #[.int .i64 p.i,.int .i64 p.s,.int .i64 p.q,p.va]] w fun e w'=>∃a c,e=.returned (.agg #[.int .i64 p.i,.int .i64 p.s,.int .i64 p.q,.slice a p.acts.length c])∧
   w'.ownsRow w.heap.size 144 3 (.slice a p.acts.length c) p.acts.length (z0n p.acts)∧Below w.heap.size w w':=by
 obtain⟨i,s,q,va,acts⟩:=p;dsimp only;rcases hN with⟨e1,e2⟩|⟨b,off,c,e1⟩
 ·dsimp only at e1 e2;subst e1 e2;exact z8C i s q w
 ·dsimp only at e1;subst e1;have hT:actK.At w (.slice (some ⟨b,off,none⟩) acts.length c) acts:=h;exact z8B i s q b off c acts w (z0T hT).2 hl
theorem z3f(v:Value)(ps:List TxnQ)(w:World)(h:txnK.At w v ps)(au:∀p∈ps,z8D p)(hl:ps.length+nmL TxnQ.n ps≤1048576):
  Calls Tryz.prog 170 #[v] w fun e w'=>∃v' qs,e=.returned v'∧qs.map TxnQ.e=ps.map TxnQ.e∧txnK.Own w' v' qs∧(txnK.fp v' qs).Nodup∧(∀k∈txnK.fp v' qs,w.heap.size≤k)∧Below w.heap.size w w':=by
 obtain⟨a,cap,rfl⟩:=h.shape;obtain⟨i0,hi,ay,az,aA⟩:=info_parts z1p;have ho:=World.ownsRow_lit (e:=39) (size:=4) w #[] 0 (Nat.le_refl _) (by decide) rfl;have ah:txnK.Own (w.alloc (.cells #[] 39)) (.slice (some ⟨w.heap.size,0,none⟩) 0 0) ([]:List TxnQ):=⟨(z0u ho).1,fun p hp=>by simp at hp⟩
 have aj:Below w.heap.size w (w.alloc (.cells #[] 39)):=by go_grown
 have Z:Hid ((txnK.fp (.slice (some ⟨w.heap.size,0,none⟩) 0 0) ([]:List TxnQ)).Nodup∧∀k∈txnK.fp (.slice (some ⟨w.heap.size,0,none⟩) 0 0) ([]:List TxnQ),w.heap.size≤k):=by
  refine⟨?_,?_⟩
  ·simp[Kind.fp,blk,Value.ownBlock]
  ·simp[Kind.fp,blk,Value.ownBlock]
 clear ho;go_enter Tryz.func170,Tryz.ntmps170
 go_wp2
 go_loopw[3,4] (fun v j wr=>∃ (k:Nat) (qs:List TxnQ),k≤ps.length∧j=.int .i64 k∧Hid (qs.map TxnQ.e=(ps.take k).map TxnQ.e)∧txnK.Own wr v qs∧Hid ((txnK.fp v qs).Nodup∧∀k∈txnK.fp v qs,w.heap.size≤k)∧Below w.heap.size w wr) (fun _ j _=>ps.length-(intOf j).toNat)
 case atStart=>exact⟨0,[],Nat.zero_le _,rfl,(rfl:_=_),ah,Z,aj⟩
 case round=>
  clear Z ah aj;obtain⟨k,qs,hk,rfl,HE,hO,HN,hb⟩:=hrel;obtain⟨sa,sc,rfl⟩:=hO.shape;have ad:Hid (qs.length=k):=by
   have:=congrArg List.length HE.out;rw[List.length_map,List.length_map,List.length_take]at this;show qs.length=k;omega
  by_cases M:k<ps.length
  ·obtain⟨b,aB,rfl,aD,hc,C⟩:=(h.below hb).cell (by decide) k M;have z:∀j x,(txnK.cells ps[k])[j]?=some x→wr.cell? ⟨b,aB+k*4+j,none⟩=some x:=hc;have c0:=z 0 (.int .i64 ps[k].i) rfl;have c1:=z 1 (.int .i64 ps[k].s) rfl;have c2:=z 2 (.int .i64 ps[k].q) rfl;have c3:=z 3 (ps[k].va) rfl;have X:=z1u TxnQ.n ps k M;have T:=au _ (List.getElem_mem M);have ab:Hid (∀p':TxnQ,p'.e=TxnQ.e ps[k]→(qs++[p']).map TxnQ.e=(ps.take (k+1)).map TxnQ.e):=fun p' av=>by
    rw[List.take_succ_eq_append_getElem M,List.map_append,List.map_append,HE.out,List.map_singleton,List.map_singleton,av]
   clear hc z;generalize ps[k]=p at*;obtain⟨i,s,q,va,c⟩:=p;replace C:actK.At wr va c:=C;replace X:c.length≤nmL TxnQ.n ps:=X;obtain⟨aa,ac,rfl⟩:=C.shape;dsimp only at c0 c1 c2 c3;have W:=z8E (⟨i,s,q,.slice aa c.length ac,c⟩:TxnQ) wr C T (by dsimp only;omega);dsimp only at W;rw[Nat.add_zero]at c0;clear HE
   go_wp2_with fail
   clear c0 c1 c2 c3;have aC:w.heap.size≤wr.heap.size:=hb.size;refine W.mono ?_;rintro e w2 ⟨a2,c2,rfl,al,J⟩;have Y:=hO.lt;replace hO:=hO.below J;replace hb:=hb.trans (J.mono hb.size);obtain⟨o2,ag⟩:=z0u al;have hP:txnK.own w2 ⟨i,s,q,.slice a2 c.length c2,c⟩:=⟨o2,fun _ _=>trivial⟩
   have d:∀x∈txnK.foot ⟨i,s,q,.slice a2 c.length c2,c⟩,wr.heap.size≤x:=fun x hx=>ag x (by rw[←z03 (.slice a2 c.length c2) c];exact hx)
   have af:(txnK.foot ⟨i,s,q,.slice a2 c.length c2,c⟩).Nodup:=by
    show(actK.fp _ _).Nodup;rw[z03];exact z0r _
   have y:Below w2.heap.size w2 (w2.alloc (.cells #[.int .i64 i,.int .i64 s,.int .i64 q,.slice a2 c.length c2] 39)):=by go_grown
   have U:=hO.below y;have ae:=txnK.own_out (F:=[]) hP (Out.of_below y) (fun _ _=>by simp);have L:=hb.trans (y.mono hb.size);clear W al hO hP ag;have I:=U.1
   go_wp2_with (at_builtin;refine wpList_append_own_at _ rfl _ _ 25 rfl 0 39 i0 (.agg #[.int .i64 0,.int .i64 0,.int .i64 0,.slice none 0 0]) 4 48 Tryz.underlying25 hi ay az aA rfl (by decide) _ qs.length (txnK.row qs) rfl I ⟨w2.heap.size,0,none⟩ 1 1 [.int .i64 i,.int .i64 s,.int .i64 q,.slice a2 c.length c2] rfl rfl ?c1 ?c2 ?c3 ?c4 ?c5 ?_)
   all_goals try(case c1=>intro j u hj;match j,hj with|0,hj=>simp at hj;subst hj;simp[Addr.add]|1,hj=>simp at hj;subst hj;simp[Addr.add]|2,hj=>simp at hj;subst hj;simp[Addr.add]|3,hj=>simp at hj;subst hj;simp[Addr.add])
   all_goals try(case c2=>intro u hu;simp at hu;rcases hu with rfl|rfl|rfl|rfl<;>rfl)
   all_goals try(case c3=>have:=ad.out;unfold maxLen;omega)
   all_goals try(case c4=>have:=ad.out;omega)
   all_goals try(case c5=>first|omega|simp)
   intro v' w5 O A ak V;clear ak I;rw[show w2.heap.size+1=(w2.alloc (.cells #[.int .i64 i,.int .i64 s,.int .i64 q,.slice a2 c.length c2] 39)).heap.size from(World.size_alloc _ _).symm]at V;generalize aw:w2.alloc (.cells #[.int .i64 i,.int .i64 s,.int .i64 q,.slice a2 c.length c2] 39)=WA at*;clear aw;have aE:wr.heap.size≤WA.heap.size:=by have:=J.size;have:=y.size;omega
   obtain⟨ap,ai,N,am⟩:=U.snoc HN.out.1 HN.out.2 ae af (fun x hx ax=>by have:=Y x ax;have:=d x hx;omega) (fun x hx=>by have:=d x hx;omega) L.size O A V;have aq:Below w.heap.size w w5:=Out.keep L am L.size (fun x hx=>HN.out.2 x (by simp only[Kind.fp,List.mem_append];exact Or.inl hx));have an:Hid ((qs++[(⟨i,s,q,.slice a2 c.length c2,c⟩:TxnQ)]).map TxnQ.e=(ps.take (k+1)).map TxnQ.e):=ab.out _ rfl;have ao:Hid ((txnK.fp v' (qs++[(⟨i,s,q,.slice a2 c.length c2,c⟩:TxnQ)])).Nodup∧∀k∈txnK.fp v' (qs++[(⟨i,s,q,.slice a2 c.length c2,c⟩:TxnQ)]),w.heap.size≤k):=⟨ai,N⟩
   clear ab HN Y d af ae U L O A V am ai N C hb y J X T
   go_wp2
   go_roundw
   case rel=>exact⟨k+1,_,by omega,by go_num,an,ap,ao,aq⟩
   case measure=>simp[intOf];omega
  ·have ar:k=ps.length:=by omega
   subst ar;have hE:=HE.out;rw[List.take_length]at hE;clear HE
   go_wp2
   go_ret;exact⟨_,qs,rfl,hE,hO,HN.out.1,HN.out.2,hb⟩
theorem z91{w:World}{p:TxnQ}(h:txnK.own w p):z8D p:=by
 have h:actK.Own w p.va p.acts:=h;rcases h.1.2 with⟨h1,h0⟩|⟨g,cap,cur,h1,_⟩
 ·exact Or.inl ⟨h1,List.eq_nil_of_length_eq_zero h0⟩
 ·exact Or.inr ⟨g,0,cap,h1⟩
theorem q3u{w:World}{base e size n:Nat}{v:Value}{xs:List Value}(h:w.ownsRow base e size v n xs):z5U v:=by
 rcases h.2 with⟨rfl,_⟩|⟨g,cap,cur,rfl,_,_,h1,h2,_⟩
 ·exact⟨Nat.zero_le _,Nat.zero_le _⟩
 ·exact⟨h1,h2⟩
theorem q3V{ps qs:List TxnQ}(h:ps.map TxnQ.e=qs.map TxnQ.e):ps.length+nmL TxnQ.n ps=qs.length+nmL TxnQ.n qs:=by
 have e:∀l:List TxnQ,nmL TxnQ.n l=nmL TxnD.n (l.map TxnQ.e):=fun l=>by simp only[nmL,List.map_map];rfl
 have hl:ps.length=qs.length:=by simpa using congrArg List.length h
 rw[e,e,h,hl]
end Go.Proofs.YtlkpdgjnhkjpjaaGreatDoor
