/- Texts joined,with what the laws reach alone. -/
import Derived.Test.YtlkpdgjnhkjpjaaGreatDoorSCAZ
set_option linter.unusedVariables false
set_option linter.unusedSimpArgs false
set_option maxRecDepth 100000
set_option maxHeartbeats 8000000
namespace Go.Proofs.YtlkpdgjnhkjpjaaGreatDoor
open Go.RowKit Go.BigFrame
section
open Go.Maps
theorem z4D{s t:Value}(h:∀g,s.ownBlock=some g→t.ownBlock=some g→False):s.ownBlock=none∨s.ownBlock≠t.ownBlock:=by
 cases e:s.ownBlock with
 |none=>exact Or.inl rfl
 |some g=>right;intro k;exact h g e k.symm
theorem Blk.otherG{w:World}{b g j:Nat}{t:TypeId}{cs:Array Value}{u:Value}(h:Blk w b t cs)(hne:b≠g):Blk (w.setCell ⟨g,j,none⟩ u) b t cs:=by
 unfold Blk at h⊢;rw[Below.heap_setCell _ _ _ _ (by dsimp only;omega)];exact h
section
variable {ops:Array Oper} {rest:List Oper} {o:Oper} {a:Act} {Q:Exit→Act→World→Prop}
theorem z5M(w:World)(z:o.guard=none)(s x:Operand)(ho:o.op=.call {callee:=.builtin .append,args:=#[s,x],argTypes:=#[26,26]})
  (hs:a.eval s=.slice none 0 0) (sa:Option Addr) (zs:List ItemD) (sc:Nat) (hx:a.eval x=.slice sa zs.length sc) (hr:ItemRow w sa zs) (hN:z6a sa zs.length sc) (hl:zs.length≤1048576)
  (h:∀a' c' w',w'.ownsRow w.heap.size 119 2 (.slice a' zs.length c') zs.length (z0c zs)→Below w.heap.size w w'→wpList Tryz.prog ops Q rest (a.put o.dst (.slice a' zs.length c')) w'):wpList Tryz.prog ops Q (o::rest) a w:=by
 obtain⟨i0,hi,A,C,I⟩:=info_parts z1h;have d:=World.ownsRow_nil w w.heap.size 119 2;rcases hN with⟨ad,rfl⟩|⟨rfl,hn,rfl⟩
 ·refine wpList_append_own w z s x 26 ho w.heap.size 119 i0 (.agg #[.int .i64 0,.int .i64 0]) 2 16 Tryz.underlying26 hi A C I rfl (by decide) _ 0 [] hs d ad zs.length sc (z0c zs) hx (z0w zs) (z3M hr) (z1k zs) (by unfold maxLen;omega) (by omega) (Nat.le_refl _) ?_;intro v' w' c y _;simp only[Nat.zero_add,List.nil_append]at c;obtain⟨a',c',rfl⟩:=z0g c;exact h a' c' w' c ((Below.refl _ _).grown y (Nat.le_refl _) (fun k hk=>(d.lt k hk).1))
 ·have hz:zs=[]:=List.eq_nil_of_length_eq_zero hn;subst hz;refine wpList_append_own_none z s x 26 ho w.heap.size 119 i0 2 Tryz.underlying26 hi _ 0 [] hs d hx ?_;exact h _ _ w d (Below.refl _ _)
end
theorem z5N(a:Option Addr)(cap:Nat)(xs:List ItemD)(v:Value)(ds:List TxnD)(w:World)(h:ItemRow w a xs)(hN:z6a a xs.length cap)(ht:TxnsAt w v ds)(hl:xs.length≤1048576)(be:ds.length+z5c ds≤1048576):
  Calls Tryz.prog 120 #[.slice a xs.length cap,v] w fun e w'=>∃a1 c1 a2 c2 a3 c3,e=.returned (.agg #[.int .i64 (eaC xs ds),.slice a1 (eaCd xs ds).length c1,.slice a2 (eaVl xs ds).length c2,.slice a3 (eaI xs ds).length c3])∧
   OwnA w.heap.size w'.heap.size w' (.slice a1 (eaCd xs ds).length c1) (.slice a2 (eaVl xs ds).length c2) (.slice a3 (eaI xs ds).length c3) (eaCd xs ds) (eaVl xs ds) (eaI xs ds)∧Below w.heap.size w w':=by
 have hF:=fun w h=>z1N a cap xs w h hl
 have hI:=fun w h=>z3y v ds w h be
 have br:∀ (r:Int) (lb:Option Addr) (n lc:Nat) (w:World),Sem.run Tryz.prog (Instr.field 247 (.agg #[.int .i64 r,.slice lb n lc]) 0) w=.ok (.int .i64 r) w:=fun _ _ _ _ _=>by kernel_rfl
 have M:Below w.heap.size w (w.alloc (.cells #[.int .i64 0,.slice none 0 0,.slice none 0 0,.slice none 0 0] 176)):=by go_grown
 have B0:=Blk.new w 176 #[.int .i64 0,.slice none 0 0,.slice none 0 0,.slice none 0 0];by_cases h0:itemsF xs=0
 case neg=>
  obtain⟨e1,e2,e3,e4⟩:=q3T (ds:=ds) h0;rw[e1,e2,e3,e4];have aM:(itemsF xs !=0)=true:=by simpa using h0
  clear h0 e1 e2 e3 e4;generalize itemsF xs=r at hF aM;go_enter Tryz.func120,Tryz.ntmps120
  go_wp2_with fail
  generalize w.alloc (.cells #[.int .i64 0,.slice none 0 0,.slice none 0 0,.slice none 0 0] 176)=W0 at M B0;refine(hF _ (h.below M)).mono ?_;rintro e w1 ⟨rfl,hb⟩;replace B0:=B0.below hb;replace M:=M.trans (hb.mono M.size);clear hb;obtain⟨p0,p1,p2,p3⟩:=B0.cel4;obtain⟨f0,f1,f2,f3⟩:=B0.frz4;have ag:=B0.lt;clear B0
  go_wp2
  refine bodyPost_ret (v:=.agg #[.int .i64 r,.slice none 0 0,.slice none 0 0,.slice none 0 0]) (by simp[results,Tryz.results120,go_sem,p0,p1,p2,p3]) rfl ?_;refine⟨none,0,none,0,none,0,rfl,⟨OwnS.of (World.ownsRow_nil _ _ _ _),OwnS.of (World.ownsRow_nil _ _ _ _),OwnS.of (World.ownsRow_nil _ _ _ _),Apart3.nil⟩,?_⟩;repeat' (refine Below.setCell ?_ (by dsimp only;omega) _)
  exact M
 by_cases h2:idsC ds=0
 case neg=>
  obtain⟨e1,e2,e3,e4⟩:=q2p (ds:=ds) h0 h2;rw[e1,e2,e3,e4];have aM:(idsC ds !=0)=true:=by simpa using h2
  rw[h0]at hF;clear h0 h2 e1 e2 e3 e4;generalize idsC ds=r at hI aM;generalize idsR ds=L at hI;go_enter Tryz.func120,Tryz.ntmps120
  go_wp2_with fail
  generalize w.alloc (.cells #[.int .i64 0,.slice none 0 0,.slice none 0 0,.slice none 0 0] 176)=W0 at M B0;refine(hF _ (h.below M)).mono ?_;rintro e w1 ⟨rfl,hb⟩;replace B0:=B0.below hb;replace M:=M.trans (hb.mono M.size);clear hb
  go_wp2_with fail
  refine(hI _ (ht.below M)).mono ?_;rintro e w2 ⟨lb,lc,rfl,_,hb⟩;replace B0:=B0.below hb;replace M:=M.trans (hb.mono M.size);clear hb;obtain⟨p0,p1,p2,p3⟩:=B0.cel4;obtain⟨f0,f1,f2,f3⟩:=B0.frz4;have ag:=B0.lt;clear B0
  go_wp2
  refine bodyPost_ret (v:=.agg #[.int .i64 r,.slice none 0 0,.slice none 0 0,.slice none 0 0]) (by simp[results,Tryz.results120,go_sem,p0,p1,p2,p3]) rfl ?_;refine⟨none,0,none,0,none,0,rfl,⟨OwnS.of (World.ownsRow_nil _ _ _ _),OwnS.of (World.ownsRow_nil _ _ _ _),OwnS.of (World.ownsRow_nil _ _ _ _),Apart3.nil⟩,?_⟩;repeat' (refine Below.setCell ?_ (by dsimp only;omega) _)
  exact M
 obtain⟨h8,g⟩:=z1Z h0;obtain⟨bl,hz⟩:=z7r h2;have HZ:Hid (∀t∈ds,t.F=0):=hz;have a6:Hid (eaC xs ds=0∧eaCd xs ds=z12 xs ds∧eaVl xs ds=z13 xs ds∧eaI xs ds=allI xs ds):=q2q h0 h2;rw[h0]at hF;rw[h2]at hI;clear h0 h2 hz;generalize idsR ds=L at hI;obtain⟨i0,hi,aW,aX,aY⟩:=info_parts z4Z;go_enter Tryz.func120,Tryz.ntmps120
 go_wp2_with fail
 generalize w.alloc (.cells #[.int .i64 0,.slice none 0 0,.slice none 0 0,.slice none 0 0] 176)=W0 at M B0;refine(hF _ (h.below M)).mono ?_;rintro e w1 ⟨rfl,hb⟩;replace B0:=B0.below hb;replace M:=M.trans (hb.mono M.size);clear hb
 go_wp2_with fail
 refine(hI _ (ht.below M)).mono ?_;rintro e w2 ⟨lb,lc,rfl,_,hb⟩;replace B0:=B0.below hb;replace M:=M.trans (hb.mono M.size);clear hb;have aQ:=h.below M;have aO:∀ (ops:Array Oper) (rest:List Oper) (o:Oper) (am:Act) (Q:Exit→Act→World→Prop) (aP:o.guard=none) (sx x:Operand) (ho:o.op=.call {callee:=.builtin .append,args:=#[sx,x],argTypes:=#[26,26]}) (hs:am.eval sx=.slice none 0 0) (hx:am.eval x=.slice a xs.length cap)
   (hh:∀a' c' w',w'.ownsRow w2.heap.size 119 2 (.slice a' xs.length c') xs.length (z0c xs)→Below w2.heap.size w2 w'→wpList Tryz.prog ops Q rest (am.put o.dst (.slice a' xs.length c')) w'),wpList Tryz.prog ops Q (o::rest) am w2:=
  fun ops rest o am Q aP sx x ho hs hx hh=>z5M w2 aP sx x ho hs a xs cap hx aQ hN (by omega) hh
 go_wp2_with (at_builtin;refine aO _ _ _ _ _ rfl _ _ rfl rfl rfl ?_)
 intro ah ai W3 aj hb;have aS:=B0.lt;replace B0:=B0.below hb;have bj:=M.size;replace M:=M.trans (hb.mono M.size);have bh:=hb.size;have aV:=ht.below M;clear hb aO hF hI aQ h hN ht;have aC:Below W3.heap.size W3 (W3.alloc (.cells #[.int .i64 0,.slice none 0 0,.slice none 0 0,.slice ah xs.length ai] 176)):=by go_grown
 have ak:=Blk.new W3 176 #[.int .i64 0,.slice none 0 0,.slice none 0 0,.slice ah xs.length ai];have aG:∀k,(Value.slice ah xs.length ai).ownBlock=some k→k≠W3.heap.size:=fun k hk=>by have:=(aj.lt k hk).2;omega
 replace aj:=z0a aj aC;have af:W3.heap.size+1≤(W3.alloc (.cells #[.int .i64 0,.slice none 0 0,.slice none 0 0,.slice ah xs.length ai] 176)).heap.size:=by simp
 have aS:w.heap.size<W3.heap.size:=by omega
 have bg:=aV.shape;obtain⟨bx,bz,rfl⟩:=bg
 go_wp2
 generalize W3.alloc (.cells #[.int .i64 0,.slice none 0 0,.slice none 0 0,.slice ah xs.length ai] 176)=W4 at aC ak aj af;have aF:Below W3.heap.size W3 W4:=aC;generalize bo:w2.heap.size=ae at*;have bw:∀k,k<ds.length→True:=fun _ _=>trivial
 generalize aE:W3.heap.size=ab at*;go_loopw[29] (fun j wr=>∃ (k:Nat) (c:List ItemD) (C V:List Int) (ca:Option Addr) (cc:Nat) (va:Option Addr) (vc:Nat) (ia:Option Addr) (ic:Nat),k≤ds.length∧j=.int .i64 k∧Blk wr ab 176 #[.int .i64 0,.slice ca C.length cc,.slice va V.length vc,.slice ia c.length ic]∧wr.ownsRow (ab+1) 2 1 (.slice ca C.length cc) C.length (C.map (Value.int .i64))∧wr.ownsRow (ab+1) 2 1 (.slice va V.length vc) V.length (V.map (Value.int .i64))∧wr.ownsRow ae 119 2 (.slice ia c.length ic) c.length (z0c c)∧Apart3 (.slice ca C.length cc) (.slice va V.length vc) (.slice ia c.length ic)∧(∀k,(Value.slice ia c.length ic).ownBlock=some k→k≠ab)∧Below ab W3 wr∧ab+1≤wr.heap.size∧Hid (c.length≤8∧Good c∧allI c (ds.drop k)=allI xs ds∧C++z12 c (ds.drop k)=z12 xs ds∧V++z13 c (ds.drop k)=z13 xs ds∧C.length=k∧V.length=k)) (fun j _=>ds.length-(intOf j).toNat)
 case atStart=>exact⟨0,xs,[],[],none,0,none,0,ah,ai,Nat.zero_le _,rfl,ak,World.ownsRow_nil _ _ _ _,World.ownsRow_nil _ _ _ _,aj,⟨Or.inl rfl,Or.inl rfl,Or.inl rfl⟩,aG,aF,af,⟨h8,g,by simp,by simp,by simp,rfl,rfl⟩⟩
 case round=>
  clear ak aj aF af aG aC;obtain⟨k,c,C,V,ca,cc,va,vc,ia,ic,hk,rfl,T,o1,o2,o3,ap,av,hb,bv,HG⟩:=hrel;have an:∀g,(Value.slice ca C.length cc).ownBlock=some g→g<wr.heap.size:=fun g hg=>(o1.lt g hg).2
  have ao:∀g,(Value.slice va V.length vc).ownBlock=some g→g<wr.heap.size:=fun g hg=>(o2.lt g hg).2
  have bm:C.length≤60:=by have:=HG.out.2.2.2.2.2.1;omega
  have bn:V.length≤60:=by have:=HG.out.2.2.2.2.2.2;omega
  have bp:=HG.out.1;by_cases ag:k<ds.length
  ·obtain⟨b,ad,aa,tc,rfl,au,t0,t1,t2,t3,hA⟩:=aV.at k ag;rw[aE]at au;have aI:=HZ.out (ds.getD k z0k) (by simp[List.getD,ag]);have aZ:(ds.getD k z0k).acts.length≤z5c ds:=z1b (by simp[List.getD,ag]);replace t0:wr.cell? ⟨b,ad+k*4,none⟩=_:=(hb.cell (p:=⟨b,ad+k*4,none⟩) au).trans t0;replace t1:wr.cell? ⟨b,ad+k*4+1,none⟩=_:=(hb.cell (p:=⟨b,ad+k*4+1,none⟩) au).trans t1;replace t2:wr.cell? ⟨b,ad+k*4+2,none⟩=_:=(hb.cell (p:=⟨b,ad+k*4+2,none⟩) au).trans t2;replace t3:wr.cell? ⟨b,ad+k*4+3,none⟩=_:=(hb.cell (p:=⟨b,ad+k*4+3,none⟩) au).trans t3;have az:ActRow wr aa (ds.getD k z0k).acts:=hA.below (by rw[aE];exact hb);obtain⟨x1,x2,x3⟩:=q5I (z8t HG.out.1 HG.out.2.1) aI;have W:=fun w h hA=>z2E ia ic c (ds.getD k z0k).id (ds.getD k z0k).session (ds.getD k z0k).seq aa tc (ds.getD k z0k).acts w h hA (by omega) (by omega)
   rw[x1,x2,x3]at W;have al:Hid ((nextI c (ds.getD k z0k)).length≤8∧Good (nextI c (ds.getD k z0k))∧allI (nextI c (ds.getD k z0k)) (ds.drop (k+1))=allI xs ds∧(C++[(z0t c (ds.getD k z0k).acts).1])++z12 (nextI c (ds.getD k z0k)) (ds.drop (k+1))=z12 xs ds∧(V++[runV c (ds.getD k z0k).acts])++z13 (nextI c (ds.getD k z0k)) (ds.drop (k+1))=z13 xs ds∧(C++[(z0t c (ds.getD k z0k).acts).1]).length=k+1∧(V++[runV c (ds.getD k z0k).acts]).length=k+1):=by
    obtain⟨g1,g2,g3,g4,g5,g6,g7⟩:=HG.out;rw[z9Z ag]at g3 g4 g5;obtain⟨n1,n2⟩:=z1e g1 g2 aI;exact⟨n1,n2,g3,by simpa[z12]using g4,by simpa[z13]using g5,by simp[g6],by simp[g7]⟩
   have ax:Hid ((z0t c (ds.getD k z0k).acts).1=0→runR c (ds.getD k z0k).acts=nextI c (ds.getD k z0k)):=fun h=>by unfold runR nextI;rw[if_pos h,if_pos h]
   have aH:Hid ((z0t c (ds.getD k z0k).acts).1≠0→nextI c (ds.getD k z0k)=c):=fun h=>if_neg h
   generalize (z0t c (ds.getD k z0k).acts).1=d at W al ax aH;generalize runR c (ds.getD k z0k).acts=RL at W ax;generalize runV c (ds.getD k z0k).acts=N at W al;generalize nextI c (ds.getD k z0k)=nx at al ax aH;clear x1 x2 x3 aI hA HG;generalize ds.getD k z0k=z at t0 t1 t2 t3 az W aZ;obtain⟨z0,z1,z2,zs⟩:=z;dsimp only at t0 t1 t2 t3 az W aZ;have U:Below wr.heap.size wr (wr.alloc (.cells #[.int .i64 z0,.int .i64 z1,.int .i64 z2,.slice aa zs.length tc] 39)):=by go_grown
   have a3:=(T.below U).cell 3 _ rfl;have aL:wr.heap.size≤(wr.alloc (.cells #[.int .i64 z0,.int .i64 z1,.int .i64 z2,.slice aa zs.length tc] 39)).heap.size:=U.size;have aR:ItemRow wr ia c:=Lies.own o3
   go_wp2_with fail
   clear a3 t0 t1 t2 t3;generalize wr.alloc (.cells #[.int .i64 z0,.int .i64 z1,.int .i64 z2,.slice aa zs.length tc] 39)=wT at U aL;refine(W _ (aR.below U) (az.below U)).mono ?_;rintro e w4 ⟨ra,rc,rfl,oR,aJ⟩;replace U:=U.trans (aJ.mono U.size);have ar:=oR.lt;have bt:=aJ.size;clear W az aR aJ;have aK:Below w4.heap.size w4 (w4.alloc (.cells #[.int .i64 d,.int .i64 N,.slice ra RL.length rc] 243)):=by go_grown
   have Bd:=Blk.new w4 243 #[.int .i64 d,.int .i64 N,.slice ra RL.length rc];replace oR:=z0a oR aK;have bu:w4.heap.size+1≤(w4.alloc (.cells #[.int .i64 d,.int .i64 N,.slice ra RL.length rc] 243)).heap.size:=by simp
   replace U:=U.trans (aK.mono U.size);replace o1:=z0a o1 U;replace o2:=z0a o2 U;replace o3:=z0a o3 U;replace T:=T.below U;replace hb:=hb.trans (U.mono (by omega));replace an:∀g,(Value.slice ca C.length cc).ownBlock=some g→g<wT.heap.size:=fun g hg=>Nat.lt_of_lt_of_le (an g hg) aL
   replace ao:∀g,(Value.slice va V.length vc).ownBlock=some g→g<wT.heap.size:=fun g hg=>Nat.lt_of_lt_of_le (ao g hg) aL
   have aq:∀g,(Value.slice ra RL.length rc).ownBlock=some g→wT.heap.size≤g∧g<(w4.alloc (.cells #[.int .i64 d,.int .i64 N,.slice ra RL.length rc] 243)).heap.size:=fun g hg=>⟨(ar g hg).1,by have:=(ar g hg).2;omega⟩
   have bb:ab+1≤wT.heap.size:=by omega
   generalize wT.heap.size=mb at*;clear aK U ar;have bk:(w4.alloc (.cells #[.int .i64 d,.int .i64 N,.slice ra RL.length rc] 243)).heap.size=w4.heap.size+1:=by first|rfl|simp
   have a1:=T.cell 1 _ rfl;have b0:=Bd.cell 0 _ rfl;have X:Below (w4.alloc (.cells #[.int .i64 d,.int .i64 N,.slice ra RL.length rc] 243)).heap.size (w4.alloc (.cells #[.int .i64 d,.int .i64 N,.slice ra RL.length rc] 243)) ((w4.alloc (.cells #[.int .i64 d,.int .i64 N,.slice ra RL.length rc] 243)).alloc (.cells #[.int .i64 d] 2)):=by go_grown
   have q1:=z0a o1 X;have l2:=fun g hg=>(o2.lt g hg).2
   have l3:=fun g hg=>(o3.lt g hg).2
   go_wp2_with (at_builtin;refine wpList_append_own_at _ rfl _ _ 115 rfl (ab+1) 2 i0 (.int .i64 0) 1 8 Tryz.underlying115 hi aW aX aY rfl (by decide) _ C.length (C.map (Value.int .i64)) rfl q1 ⟨w4.heap.size+1,0,none⟩ 1 1 [.int .i64 d] rfl rfl ?c1 ?c2 ?c3 ?c4 ?c5 ?_)
   all_goals try(case c1=>intro j u hj;match j,hj with|0,hj=>simp at hj;subst hj;simp[Addr.add])
   all_goals try(case c2=>first|rfl|(intro u hu;simp at hu;subst hu;rfl))
   all_goals try(case c3=>unfold maxLen;omega)
   all_goals try(case c4=>omega)
   all_goals try(case c5=>first|omega|(simp;omega))
   intro v' w1 Z O _ Y;obtain⟨I,J,rfl⟩:=z0g Z;clear a1 b0;have aA:Below (ab+1) (w4.alloc (.cells #[.int .i64 d,.int .i64 N,.slice ra RL.length rc] 243)) w1:=((Below.refl _ _).alloc (by omega) _).grown O (by simp;omega) (fun k hk=>(o1.lt k hk).1);have aD:(w4.alloc (.cells #[.int .i64 d,.int .i64 N,.slice ra RL.length rc] 243)).heap.size≤w1.heap.size:=aA.size;have a8:∀g,(Value.slice I (C.length+1) J).ownBlock=some g→g<mb∨(w4.alloc (.cells #[.int .i64 d,.int .i64 N,.slice ra RL.length rc] 243)).heap.size≤g:=fun g hg=>by
    rcases Y with e|e
    ·exact Or.inl (an g (by rw[←e];exact hg))
    ·rw[hg]at e;simp at e;right;omega
   have ay:Apart3 (.slice I (C.length+1) J) (.slice va V.length vc) (.slice ia c.length ic):=ap.grow1 (w:=(w4.alloc (.cells #[.int .i64 d,.int .i64 N,.slice ra RL.length rc] 243)).alloc (.cells #[.int .i64 d] 2)) (by simpa using Y) (fun g hg=>by have:=l2 g hg;simp;omega) (fun g hg=>by have:=l3 g hg;simp;omega);replace o2:=(z0a o2 X).kept O (z3i ap.a12);replace o3:=(z0a o3 X).kept O (z3i ap.a13);replace oR:=(z0a oR X).kept O (z4D (fun g h1 h2=>by have:=aq g h1;have:=an g h2;omega));replace Bd:=(Bd.below X).grown O (by intro e;have:=an w4.heap.size e.symm;omega);replace T:Blk w1 ab 176 #[.int .i64 0,.slice ca C.length cc,.slice va V.length vc,.slice ia c.length ic]:=(aA.block _ (by omega)).trans T;replace o1:w1.ownsRow (ab+1) 2 1 (.slice I (C.length+1) J) (C.length+1) ((C++[d]).map (Value.int .i64)):=by simpa using Z
   replace hb:=hb.trans (aA.mono (by omega));clear Z O Y q1 l2 l3 X aA ap;have d1:=T.cell 1 _ rfl;have d2:=T.frozen 1;replace o1:=ownsRow_setCell_below (a:=⟨ab,1,none⟩) o1 (by dsimp only;omega) (.slice I (C.length+1) J);replace o2:=ownsRow_setCell_below (a:=⟨ab,1,none⟩) o2 (by dsimp only;omega) (.slice I (C.length+1) J);replace o3:=z0h (j:=1) (u:=.slice I (C.length+1) J) o3 av;replace oR:=ownsRow_setCell_below (a:=⟨ab,1,none⟩) oR (by dsimp only;omega) (.slice I (C.length+1) J);replace T:Blk (w1.setCell ⟨ab,1,none⟩ (.slice I (C.length+1) J)) ab 176 #[.int .i64 0,.slice I (C.length+1) J,.slice va V.length vc,.slice ia c.length ic]:=by simpa using T.set 1 (.slice I (C.length+1) J)
   replace Bd:Blk (w1.setCell ⟨ab,1,none⟩ (.slice I (C.length+1) J)) (w4.heap.size) 243 #[.int .i64 d,.int .i64 N,.slice ra RL.length rc]:=Bd.otherG (by omega);replace hb:=hb.setCell (p:=⟨ab,1,none⟩) (Nat.le_refl _) (.slice I (C.length+1) J);replace aD:(w4.alloc (.cells #[.int .i64 d,.int .i64 N,.slice ra RL.length rc] 243)).heap.size≤(w1.setCell ⟨ab,1,none⟩ (.slice I (C.length+1) J)).heap.size:=by simpa[World.setCell]using aD
   have a2:=T.cell 2 _ rfl;have b1:=Bd.cell 1 _ rfl;have X:Below (w1.setCell ⟨ab,1,none⟩ (.slice I (C.length+1) J)).heap.size (w1.setCell ⟨ab,1,none⟩ (.slice I (C.length+1) J)) ((w1.setCell ⟨ab,1,none⟩ (.slice I (C.length+1) J)).alloc (.cells #[.int .i64 N] 2)):=by go_grown
   have q2:=z0a o2 X;have l1:=fun g hg=>(o1.lt g hg).2
   have l3:=fun g hg=>(o3.lt g hg).2
   have aU:(w1.setCell ⟨ab,1,none⟩ (.slice I (C.length+1) J)).heap.size=w1.heap.size:=by simp[World.setCell]
   have aw:∀j u,[Value.int .i64 N][j]?=some u→((w1.setCell ⟨ab,1,none⟩ (.slice I (C.length+1) J)).alloc (.cells #[.int .i64 N] 2)).cell? ((⟨w1.heap.size,0,none⟩:Addr).add j)=some u:=by
    intro j u hj
    match j,hj with
    |0,hj=>
     simp at hj;subst hj;rw[←aU,Addr.add_lit];exact(Blk.new (w1.setCell ⟨ab,1,none⟩ (.slice I (C.length+1) J)) 2 #[.int .i64 N]).cell 0 _ rfl
   go_wp2_with (at_builtin;refine wpList_append_own_at _ rfl _ _ 115 rfl (ab+1) 2 i0 (.int .i64 0) 1 8 Tryz.underlying115 hi aW aX aY rfl (by decide) _ V.length (V.map (Value.int .i64)) rfl q2 ⟨w1.heap.size,0,none⟩ 1 1 [.int .i64 N] rfl rfl aw ?c2 ?c3 ?c4 ?c5 ?_)
   all_goals try(case c1=>intro j u hj;match j,hj with|0,hj=>simp at hj;subst hj;simp[Addr.add])
   all_goals try(case c2=>first|rfl|(intro u hu;simp at hu;subst hu;rfl))
   all_goals try(case c3=>unfold maxLen;omega)
   all_goals try(case c4=>omega)
   all_goals try(case c5=>first|omega|(simp;omega))
   intro v' w2 Z O _ Y;obtain⟨y,A,rfl⟩:=z0g Z;clear a2 b1 d1 d2;have aB:Below (ab+1) (w1.setCell ⟨ab,1,none⟩ (.slice I (C.length+1) J)) w2:=((Below.refl _ _).alloc (by omega) _).grown O (by simp;omega) (fun k hk=>(o2.lt k hk).1);have aT:(w4.alloc (.cells #[.int .i64 d,.int .i64 N,.slice ra RL.length rc] 243)).heap.size≤w2.heap.size:=Nat.le_trans aD aB.size;have ba:∀g,(Value.slice y (V.length+1) A).ownBlock=some g→g<mb∨(w4.alloc (.cells #[.int .i64 d,.int .i64 N,.slice ra RL.length rc] 243)).heap.size≤g:=fun g hg=>by
    rcases Y with e|e
    ·exact Or.inl (ao g (by rw[←e];exact hg))
    ·rw[hg]at e;simp at e;right;omega
   have aN:Apart3 (.slice I (C.length+1) J) (.slice y (V.length+1) A) (.slice ia c.length ic):=ay.grow2 (w:=(w1.setCell ⟨ab,1,none⟩ (.slice I (C.length+1) J)).alloc (.cells #[.int .i64 N] 2)) (by simpa using Y) (fun g hg=>by have:=l1 g hg;simp;omega) (fun g hg=>by have:=l3 g hg;simp;omega);replace o1:=(z0a o1 X).kept O ay.a12;replace o3:=(z0a o3 X).kept O (z3i ay.a23);replace oR:=(z0a oR X).kept O (z4D (fun g h1 h2=>by have:=aq g h1;have:=ao g h2;omega));replace Bd:=(Bd.below X).grown O (by intro e;have:=ao w4.heap.size e.symm;omega);replace T:Blk w2 ab 176 #[.int .i64 0,.slice I (C.length+1) J,.slice va V.length vc,.slice ia c.length ic]:=(aB.block _ (by omega)).trans T;replace o2:w2.ownsRow (ab+1) 2 1 (.slice y (V.length+1) A) (V.length+1) ((V++[N]).map (Value.int .i64)):=by simpa using Z
   replace hb:=hb.trans (aB.mono (by omega));clear Z O Y q2 l1 l3 X aB ay aU aD aw;have d1:=T.cell 2 _ rfl;have d2:=T.frozen 2;replace o1:=ownsRow_setCell_below (a:=⟨ab,2,none⟩) o1 (by dsimp only;omega) (.slice y (V.length+1) A);replace o2:=ownsRow_setCell_below (a:=⟨ab,2,none⟩) o2 (by dsimp only;omega) (.slice y (V.length+1) A);replace o3:=z0h (j:=2) (u:=.slice y (V.length+1) A) o3 av;replace oR:=ownsRow_setCell_below (a:=⟨ab,2,none⟩) oR (by dsimp only;omega) (.slice y (V.length+1) A);replace T:Blk (w2.setCell ⟨ab,2,none⟩ (.slice y (V.length+1) A)) ab 176 #[.int .i64 0,.slice I (C.length+1) J,.slice y (V.length+1) A,.slice ia c.length ic]:=by simpa using T.set 2 (.slice y (V.length+1) A)
   replace Bd:Blk (w2.setCell ⟨ab,2,none⟩ (.slice y (V.length+1) A)) (w4.heap.size) 243 #[.int .i64 d,.int .i64 N,.slice ra RL.length rc]:=Bd.otherG (by omega);replace hb:=hb.setCell (p:=⟨ab,2,none⟩) (Nat.le_refl _) (.slice y (V.length+1) A);replace aT:(w4.alloc (.cells #[.int .i64 d,.int .i64 N,.slice ra RL.length rc] 243)).heap.size≤(w2.setCell ⟨ab,2,none⟩ (.slice y (V.length+1) A)).heap.size:=by simpa[World.setCell]using aT
   have b0:=Bd.cell 0 _ rfl;have b2:=Bd.cell 2 _ rfl;have a3:=T.cell 3 _ rfl;have a4:=T.frozen 3;by_cases hc:d=0
   ·obtain rfl:RL=nx:=ax.out hc;have a7:Apart3 (.slice I (C.length+1) J) (.slice y (V.length+1) A) (.slice ra RL.length rc):=⟨aN.a12,z4D (fun g h1 h2=>by have:=aq g h2;have:=a8 g h1;omega),z4D (fun g h1 h2=>by have:=aq g h2;have:=ba g h1;omega)⟩
    have bi:((w2.setCell ⟨ab,2,none⟩ (.slice y (V.length+1) A)).setCell ⟨ab,3,none⟩ (.slice ra RL.length rc)).heap.size=(w2.setCell ⟨ab,2,none⟩ (.slice y (V.length+1) A)).heap.size:=by simp[World.setCell]
    have R:Hid (Blk ((w2.setCell ⟨ab,2,none⟩ (.slice y (V.length+1) A)).setCell ⟨ab,3,none⟩ (.slice ra RL.length rc)) ab 176 #[.int .i64 0,.slice I (C.length+1) J,.slice y (V.length+1) A,.slice ra RL.length rc]∧((w2.setCell ⟨ab,2,none⟩ (.slice y (V.length+1) A)).setCell ⟨ab,3,none⟩ (.slice ra RL.length rc)).ownsRow (ab+1) 2 1 (.slice I (C.length+1) J) (C.length+1) ((C++[d]).map (Value.int .i64))∧((w2.setCell ⟨ab,2,none⟩ (.slice y (V.length+1) A)).setCell ⟨ab,3,none⟩ (.slice ra RL.length rc)).ownsRow (ab+1) 2 1 (.slice y (V.length+1) A) (V.length+1) ((V++[N]).map (Value.int .i64))∧((w2.setCell ⟨ab,2,none⟩ (.slice y (V.length+1) A)).setCell ⟨ab,3,none⟩ (.slice ra RL.length rc)).ownsRow mb 119 2 (.slice ra RL.length rc) RL.length (z0c RL)∧Below ab W3 ((w2.setCell ⟨ab,2,none⟩ (.slice y (V.length+1) A)).setCell ⟨ab,3,none⟩ (.slice ra RL.length rc))∧ab+1≤((w2.setCell ⟨ab,2,none⟩ (.slice y (V.length+1) A)).setCell ⟨ab,3,none⟩ (.slice ra RL.length rc)).heap.size):=
     ⟨by simpa using T.set 3 (.slice ra RL.length rc),ownsRow_setCell_below o1 (by dsimp only;omega) _,ownsRow_setCell_below o2 (by dsimp only;omega) _,ownsRow_setCell_below oR (by dsimp only;omega) _,hb.setCell (p:=⟨ab,3,none⟩) (Nat.le_refl _) _,by omega⟩
    clear o1 o2 o3 oR T Bd hb;subst hc
    go_wp2
    go_roundw
    case rel=>
     refine⟨k+1,RL,C++[0],V++[N],I,J,y,A,ra,rc,by omega,by go_num,?_,?_,?_,?_,?_,?_,R.out.2.2.2.2.1,R.out.2.2.2.2.2,al⟩
     ·simpa using R.out.1
     ·simpa using R.out.2.1
     ·simpa using R.out.2.2.1
     ·exact z0o R.out.2.2.2.1 (by omega)
     ·simpa using a7
     ·intro k hk;have:=aq k hk;omega
    case measure=>simp[intOf];omega
   ·have bq:(d==0)=false:=by simp[hc]
    have bf:nx=c:=aH.out hc;have R:Hid (Blk (w2.setCell ⟨ab,2,none⟩ (.slice y (V.length+1) A)) ab 176 #[.int .i64 0,.slice I (C.length+1) J,.slice y (V.length+1) A,.slice ia c.length ic]∧(w2.setCell ⟨ab,2,none⟩ (.slice y (V.length+1) A)).ownsRow (ab+1) 2 1 (.slice I (C.length+1) J) (C.length+1) ((C++[d]).map (Value.int .i64))∧(w2.setCell ⟨ab,2,none⟩ (.slice y (V.length+1) A)).ownsRow (ab+1) 2 1 (.slice y (V.length+1) A) (V.length+1) ((V++[N]).map (Value.int .i64))∧(w2.setCell ⟨ab,2,none⟩ (.slice y (V.length+1) A)).ownsRow ae 119 2 (.slice ia c.length ic) c.length (z0c c)∧Apart3 (.slice I (C.length+1) J) (.slice y (V.length+1) A) (.slice ia c.length ic)∧Below ab W3 (w2.setCell ⟨ab,2,none⟩ (.slice y (V.length+1) A))∧ab+1≤(w2.setCell ⟨ab,2,none⟩ (.slice y (V.length+1) A)).heap.size):=⟨T,o1,o2,o3,aN,hb,by omega⟩
    clear o1 o2 o3 oR T Bd hb;subst bf
    go_wp2
    go_roundw
    case rel=>
     refine⟨k+1,nx,C++[d],V++[N],I,J,y,A,ia,ic,by omega,by go_num,?_,?_,?_,R.out.2.2.2.1,?_,av,R.out.2.2.2.2.2.1,R.out.2.2.2.2.2.2,al⟩
     ·simpa using R.out.1
     ·simpa using R.out.2.1
     ·simpa using R.out.2.2.1
     ·simpa using R.out.2.2.2.2.1
    case measure=>simp[intOf];omega
  ·have bd:k=ds.length:=by omega
   subst bd;have HE:Hid (eaC xs ds=0∧eaCd xs ds=C∧eaVl xs ds=V∧eaI xs ds=c):=by
    obtain⟨_,_,g3,g4,g5,_,_⟩:=HG.out;rw[List.drop_length]at g3 g4 g5;obtain⟨e1,e2,e3,e4⟩:=a6.out;exact⟨e1,by rw[e2,←g4];simp[z12],by rw[e3,←g5];simp[z13],by rw[e4,←g3];rfl⟩
   replace B0:Blk wr _ _ _:=(hb.block _ aS).trans B0;obtain⟨p0,p1,p2,p3⟩:=B0.cel4;obtain⟨f0,f1,f2,f3⟩:=B0.frz4;obtain⟨q0,q1,q2,q3⟩:=T.cel4;have bs:=B0.lt;have bc:Below w.heap.size w wr:=M.trans (hb.mono (by omega));clear B0 T HG
   go_wp2
   refine bodyPost_ret (v:=.agg #[.int .i64 0,.slice ca C.length cc,.slice va V.length vc,.slice ia c.length ic]) (by simp[results,Tryz.results120,go_sem,p0,p1,p2,p3]) rfl ?_;rw[HE.out.1,HE.out.2.1,HE.out.2.2.1,HE.out.2.2.2];refine⟨_,_,_,_,_,_,rfl,⟨OwnS.of ?_,OwnS.of ?_,OwnS.of ?_,ap⟩,?_⟩
   ·refine z0o (base:=ab+1) ?_ (by omega);repeat' (refine ownsRow_setCell_below ?_ (by dsimp only;omega) _)
    exact o1
   ·refine z0o (base:=ab+1) ?_ (by omega);repeat' (refine ownsRow_setCell_below ?_ (by dsimp only;omega) _)
    exact o2
   ·refine z0o (base:=ae) ?_ (by omega);repeat' (refine ownsRow_setCell_below ?_ (by dsimp only;omega) _)
    exact o3
   ·repeat' (refine Below.setCell ?_ (by dsimp only;omega) _)
    exact bc
end
end Go.Proofs.YtlkpdgjnhkjpjaaGreatDoor
