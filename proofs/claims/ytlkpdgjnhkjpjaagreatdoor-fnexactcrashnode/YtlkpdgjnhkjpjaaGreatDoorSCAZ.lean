/- Texts joined,with what the laws reach alone. -/
import Derived.Test.YtlkpdgjnhkjpjaaGreatDoorSCAY
import Derived.Test.YtlkpdgjnhkjpjaaGreatDoorSCAK
set_option linter.unusedVariables false
set_option linter.unusedSimpArgs false
set_option maxRecDepth 100000
set_option maxHeartbeats 8000000
namespace Go.Proofs.YtlkpdgjnhkjpjaaGreatDoor
open Go.RowKit Go.BigFrame
section
open Go.Maps
def z0L(xs:List ItemD)(zs:List ActD):List UndoD:=if(z0t xs zs).1=0 then unR xs zs else []
theorem z5J{w w':World}{a:Option Addr}{cs:List Value}(h:Lies w a cs)(hs:w.heap.size≤w'.heap.size)(hb:∀x off,a=some ⟨x,off,none⟩→x<w.heap.size→w'.heap[x]?=w.heap[x]?):Lies w' a cs:=by
 rcases h with h|⟨b,off,ha,hlt,hc⟩
 ·exact Or.inl h
 ·refine Or.inr ⟨b,off,ha,by omega,?_⟩;intro i x hx;have h1:=hc i x hx;have e:=hb b off ha hlt;simp only[World.cell?]at h1⊢;rw[e];exact h1
theorem ItB.below{w w':World}{a:Option Addr}(h:ItB w a)(hb:Below w.heap.size w w'):ItB w' a:=by
 intro x off e;obtain⟨cs,hc⟩:=h x off e;exact⟨cs,(hb.block x (Array.getElem?_eq_some_iff.1 hc).1).trans hc⟩
theorem q3r(a:Option Addr)(cap:Nat)(xs:List ItemD)(tb ah:Nat)(i s q:Int)(ta:Option Addr)(tc:Nat)(zs:List ActD)(w:World)(h:ItemRow w a xs)(hN:z6a a xs.length cap)(hB:Box4 w tb ah (.int .i64 i) (.int .i64 s) (.int .i64 q) (.slice ta zs.length tc))(ht:ActRow w ta zs)(h8:xs.length≤8)(g:Good xs)(h2:txnF i s q zs=0):
  Calls Tryz.prog 237 #[.slice a xs.length cap,.pointer (some ⟨tb,ah,none⟩)] w fun e w'=>∃b c b2 c2,e=.returned (.agg #[.int .i64 (z0t xs zs).1,.int .i64 (runV xs zs),.slice b (z0L xs zs).length c,.slice b2 (runR xs zs).length c2])∧
   OwnU w.heap.size w'.heap.size w' (.slice b (z0L xs zs).length c) (.slice b2 (runR xs zs).length c2) (z0L xs zs) (runR xs zs)∧Below w.heap.size w w':=by
 obtain⟨⟨br,bQ⟩,aE⟩:=z0W h2;have HA:Hid (∀a∈zs,actF a=0):=aE;clear h2 aE;have B0:=Blk.new w 228 #[.int .i64 0,.int .i64 0,.slice none 0 0,.slice none 0 0];have aM:Below w.heap.size w ((w.alloc (.cells #[.int .i64 0,.int .i64 0,.slice none 0 0,.slice none 0 0] 228)).alloc (.cells #[] 119)):=by go_grown
 have aU:=B0.below (w':=(w.alloc (.cells #[.int .i64 0,.int .i64 0,.slice none 0 0,.slice none 0 0] 228)).alloc (.cells #[] 119)) (by go_grown);have aS:=World.ownsRow_lit (size:=2) (e:=119) (w.alloc (.cells #[.int .i64 0,.int .i64 0,.slice none 0 0,.slice none 0 0] 228)) #[] 0 (Nat.le_refl _) (by decide) rfl;rw[World.size_alloc]at aS;have bh:∀ (ops:Array Oper) (rest:List Oper) (o:Oper) (M:Act) (Q:Exit→Act→World→Prop) (aq:o.guard=none) (sx x:Operand) (ho:o.op=.call {callee:=.builtin .append,args:=#[sx,x],argTypes:=#[26,26]}) (hs:M.eval sx=.slice (some ⟨w.heap.size+1,0,none⟩) 0 0) (hx:M.eval x=.slice a xs.length cap)
   (hh:∀a' c' w',w'.ownsRow (w.heap.size+1) 119 2 (.slice a' xs.length c') xs.length (z0c xs)→Below (w.heap.size+1) ((w.alloc (.cells #[.int .i64 0,.int .i64 0,.slice none 0 0,.slice none 0 0] 228)).alloc (.cells #[] 119)) w'→wpList Tryz.prog ops Q rest (M.put o.dst (.slice a' xs.length c')) w'),wpList Tryz.prog ops Q (o::rest) M ((w.alloc (.cells #[.int .i64 0,.int .i64 0,.slice none 0 0,.slice none 0 0] 228)).alloc (.cells #[] 119)):=
  fun ops rest o M Q aq sx x ho hs hx hh=>z0B _ aq sx x ho (w.heap.size+1) (w.heap.size+1) hs aS a xs cap hx (h.below aM) hN (by omega) (by simp) hh
 go_enter Tryz.func237,Tryz.ntmps237
 go_wp2_with (at_builtin;refine bh _ _ _ _ _ rfl _ _ rfl rfl rfl ?_)
 intro a1 c1 w2 I aO;have aL:Below w.heap.size w w2:=aM.trans (aO.mono (by omega));replace B0:Blk w2 _ _ _:=(aO.block _ (by omega)).trans aU;clear bh aS aU aM aO;have bm:w.heap.size<w2.heap.size:=B0.lt;have aZ:=z2h I;have ap:Below w2.heap.size w2 (w2.alloc (.cells #[.int .i64 0,.int .i64 0,.slice none 0 0,.slice none 0 0] 228)):=by go_grown
 have ba:ItemRow (w2.alloc (.cells #[.int .i64 0,.int .i64 0,.slice none 0 0,.slice none 0 0] 228)) a1 xs:=Lies.below (Lies.own I) ap;have aW:=(z7p I).below ap;have Bo:=Blk.new w2 228 #[.int .i64 0,.int .i64 0,.slice none 0 0,.slice none 0 0];replace B0:=B0.below ap;have af:Below w.heap.size w (w2.alloc (.cells #[.int .i64 0,.int .i64 0,.slice none 0 0,.slice none 0 0] 228)):=aL.trans (ap.mono aL.size);obtain⟨b0,b1,b2,b3⟩:=hB;have bz:tb<w.heap.size:=World.block_lt_of_cell? w ⟨tb,ah,none⟩ b0;have c3:(w2.alloc (.cells #[.int .i64 0,.int .i64 0,.slice none 0 0,.slice none 0 0] 228)).cell? ⟨tb,ah+3,none⟩=_:=(af.cell (p:=⟨tb,ah+3,none⟩) bz).trans b3;have bq:ActRow (w2.alloc (.cells #[.int .i64 0,.int .i64 0,.slice none 0 0,.slice none 0 0] 228)) ta zs:=ht.below af;have aI:∀k,k<zs.length→∃b y,ta=some ⟨b,y,none⟩∧b<w.heap.size:=fun k hk=>by
  obtain⟨b,y,e,aP,_⟩:=ht.at k hk;exact⟨b,y,e,aP⟩
 have bM:(w2.alloc (.cells #[.int .i64 0,.int .i64 0,.slice none 0 0,.slice none 0 0] 228)).heap.size=w2.heap.size+1:=by simp
 clear h hN I b0 b1 b2 b3 ht ap aL
 go_wp2
 generalize w2.alloc (.cells #[.int .i64 0,.int .i64 0,.slice none 0 0,.slice none 0 0] 228)=w3 at*;generalize w2.heap.size=bo at*;go_loopw [5,7] (fun v j wr=>∃ (k:Nat) (d:List ItemD) (b:Option Addr) (c:Nat) (D:List UndoD) (ua:Option Addr) (uc:Nat),k≤zs.length∧j=.int .i64 k∧v=.slice b d.length c∧ItemRow wr b d∧z6a b d.length c∧ItB wr b∧d.length≤8∧D.length≤k∧Hid (Good d∧z0t d (zs.drop k)=z0t xs zs∧unR xs zs=D ++ unR d (zs.drop k)) ∧
  Blk wr bo 228 #[.int .i64 0,.int .i64 0,.slice ua D.length uc,.slice none 0 0]∧wr.ownsRow (bo + 1) 235 3 (.slice ua D.length uc) D.length (z0m D)∧Below bo w3 wr) (fun _ j _=>zs.length - (intOf j).toNat)
 case atStart=>exact⟨0,xs,a1,c1,[],none,0,Nat.zero_le _,rfl,rfl,ba,aZ,aW,h8,Nat.zero_le _,⟨g,by simp,by simp⟩,Bo,World.ownsRow_nil _ _ _ _,Below.refl _ _⟩
 case round=>
  clear ba aZ aW Bo;obtain⟨k,d,nb,nc,D,ua,uc,hk,rfl,rfl,hR,a8,hI,bg,hD,HG,Bo,ho,hb⟩:=hrel;have bI:=Bo.lt;have d3:wr.cell? ⟨tb,ah+3,none⟩=_:=(hb.cell (p:=⟨tb,ah+3,none⟩) (by dsimp only;omega)).trans c3;by_cases aA:k<zs.length
  ·obtain⟨b,y,rfl,aP⟩:=aI k aA;obtain⟨b',bt,e,_,J,A,T⟩:=bq.at k aA;simp only[Option.some.injEq,Addr.mk.injEq,and_true]at e;obtain⟨rfl,rfl⟩:=e;replace J:wr.cell? ⟨b,y+k*3,none⟩=_:=(hb.cell (p:=⟨b,y+k*3,none⟩) (by dsimp only;omega)).trans J;replace A:wr.cell? ⟨b,y+k*3+1,none⟩=_:=(hb.cell (p:=⟨b,y+k*3+1,none⟩) (by dsimp only;omega)).trans A;replace T:wr.cell? ⟨b,y+k*3+2,none⟩=_:=(hb.cell (p:=⟨b,y+k*3+2,none⟩) (by dsimp only;omega)).trans T;have ae:=HA.out (zs.getD k z0d) (by simp[List.getD,aA]);have L:=fun w hR c0 c1 c2=>z8x nb nc d b (y+k*3) (zs.getD k z0d).kind (zs.getD k z0d).key (zs.getD k z0d).val w hR a8 bg HG.out.1 ae c0 c1 c2
   change∀w hR c0 c1 c2,Calls _ _ _ _ (z1A w nb d (zs.getD k z0d))at L;unfold z1A at L;have HD:Hid (z0t d (zs.getD k z0d::zs.drop (k+1))=z0t xs zs∧unR xs zs=D++unR d (zs.getD k z0d::zs.drop (k+1))):=by
    have:=HG.out.2;rw[z3L aA]at this;exact this
   have Z:Hid (unA d (zs.getD k z0d)=⟨(zs.getD k z0d).key,hasI d (zs.getD k z0d).key,valI d (zs.getD k z0d).key⟩):=rfl;have V:=fun w h=>z2i nb nc d (zs.getD k z0d).key w h (by omega)
   have N:=fun w h=>z7o nb nc d (zs.getD k z0d).key w h (by omega)
   generalize zs.getD k z0d=z at J A T L HD ae Z V N;obtain⟨z0,z1,z2⟩:=z;dsimp only at J A T L Z V N;generalize valI d z1=c at V Z N;generalize hasI d z1=t at Z N;replace ae:Hid _:=ae
   go_wp2_with fail
   refine z05 [some 31,some 32,some 33,some 34,some 35,some 36,some 37,some 38,some 39,some 40,some 41,some 42,some 43,some 44,some 45,some 46,some 47,some 48,some 9] (fun vs w'=>∃ (r:Int) (bx:Nat),vs=[.pointer (some ⟨b,y+k*3,none⟩),.pointer (some ⟨b,y+k*3,none⟩),.pointer (some ⟨b,y+k*3+1,none⟩),.int .i64 z1,.slice nb d.length nc,.pointer (some ⟨b,y+k*3,none⟩),.pointer (some ⟨b,y+k*3,none⟩),.pointer (some ⟨b,y+k*3+1,none⟩),.int .i64 z1,.int .i64 r,.bool t,.slice nb d.length nc,.pointer (some ⟨b,y+k*3,none⟩),.pointer (some ⟨b,y+k*3,none⟩),.pointer (some ⟨b,y+k*3+1,none⟩),.int .i64 z1,.int .i64 c,.agg #[.int .i64 z1,.bool t,.int .i64 c],.pointer (some ⟨bx,0,none⟩)]∧wr.heap.size≤bx∧Blk w' bx 235 #[.int .i64 z1,.bool t,.int .i64 c]∧Below wr.heap.size wr w') ?_ ?_
   ·have be:∀ (w:World) (h:ItemRow w nb d),Calls Tryz.prog 267 #[.slice nb d.length nc,.int .i64 z1] w fun e w' => ∃ r:Int,e=.returned (.int .i64 r)∧decide (0≤r)=t∧w' = w:=fun w h=>(N w h).mono (by
     rintro e w' ⟨r,rfl,⟨rfl,hq,_⟩|⟨j,rfl,_,hq,_⟩,rfl⟩
     ·exact⟨_,rfl,by rw[hq];rfl,rfl⟩
     ·exact ⟨_,rfl,by rw [hq];simp,rfl⟩)
    clear N L HD Z ae HG;have hW:Below wr.heap.size wr wr.drew:=(Below.refl _ _).drew;have ab:Nonempty (Lat wr):=⟨⟨wr,Below.refl _ _⟩⟩
    have bC:=z0f A;refine z0e (S:=fun w'=>∃u:Lat wr,w'=u.val) (by kernel_rfl) ?_;refine sgr [(0,9),(11,5)] 6 (by kernel_rfl) ⟨⟨_,hW⟩,rfl⟩ ?_;simp only[pkE];repeat go_big_quiet_step (fail)
    refine wpQuiet_nil ?_;clear bC;have C:Hid (wr.drew.heap.size=wr.heap.size):=(rfl:wr.drew.heap.size=wr.heap.size)
    generalize wr.drew=wd at hW C⊢;refine twa 9 18 5 (by kernel_rfl) ?_ ?_
    ·skip;refine opc 9 (some 40) 267 #[.slice nb d.length nc,.int .i64 z1] (by kernel_rfl) ?_;refine(be _ (hR.below hW)).mono ?_;rintro e w' ⟨r,rfl,rfl,hw⟩;replace hw:=hw.symm;subst hw;refine⟨_,rfl,⟨⟨_,hW⟩,rfl⟩,?_⟩;try simp only[Act.put,pgE,pjE]
     refine sgr [(10,1)] 4 (by kernel_rfl) ⟨⟨_,hW⟩,rfl⟩ ?_;simp only[pkE];repeat go_big_quiet_step (fail)
     refine wpQuiet_nil ?_;refine twa 16 18 3 (by kernel_rfl) ?_ ?_
     ·skip;refine opc 16 (some 47) 230 #[.slice nb d.length nc,.int .i64 z1] (by kernel_rfl) ?_;refine(V _ (hR.below hW)).mono ?_;rintro e w' ⟨rfl,hw⟩;replace hw:=hw.symm;subst hw;refine⟨_,rfl,⟨⟨_,hW⟩,rfl⟩,?_⟩;simp only[Act.put,pgE,pjE];refine sgr [(17,1)] 2 (by kernel_rfl) ⟨⟨_,hW⟩,rfl⟩ ?_;simp only[pkE];repeat go_big_quiet_step (fail)
      refine wpQuiet_nil ?_;refine ona 18 1 rfl (by kernel_rfl) ?_;have ag:Below wd.heap.size wd (wd.alloc (.cells #[.int .i64 0,.bool false,.int .i64 0] 235)):=by go_grown
      have Bz:=Blk.new wd 235 #[.int .i64 0,.bool false,.int .i64 0];replace hW:=hW.trans (ag.mono hW.size);clear ag
      go_wp2
      refine ThenGo.to ⟨⟨⟨_,hW⟩,rfl⟩,?_⟩;generalize wd.alloc (.cells #[.int .i64 0,.bool false,.int .i64 0] 235)=Y at hW Bz⊢;refine ona 19 0 rfl (by kernel_rfl) ?_;obtain⟨p0,p1,p2⟩:=Bz.cel3;obtain⟨f0,f1,f2⟩:=Bz.frz3;have ad:=((hW.setCell (p:=⟨wd.heap.size,0,none⟩) (by have:=C.out;dsimp only;omega) (.int .i64 z1)).setCell (p:=⟨wd.heap.size,1,none⟩) (by have:=C.out;dsimp only;omega) (.bool (decide ((0:Int)≤r)))).setCell (p:=⟨wd.heap.size,2,none⟩) (by have:=C.out;dsimp only;omega) (.int .i64 c);have an:=((Bz.set 0 (.int .i64 z1)).set 1 (.bool (decide ((0:Int)≤r)))).set 2 (.int .i64 c);clear ab
      go_wp2
      refine ThenGo.to ⟨⟨⟨_,ad⟩,rfl⟩,?_⟩;refine z0i (by kernel_rfl) ?_;exact⟨rfl,_,⟨r,_,rfl,(by have:=C.out;omega),an,ad⟩,by kernel_rfl⟩
     ·skip;refine z1c 18 _ rfl ?_;have ag:Below wd.heap.size wd (wd.alloc (.cells #[.int .i64 0,.bool false,.int .i64 0] 235)):=by go_grown
      have Bz:=Blk.new wd 235 #[.int .i64 0,.bool false,.int .i64 0];replace hW:=hW.trans (ag.mono hW.size);clear ag
      go_wp2
      refine ThenGo.to ⟨⟨⟨_,hW⟩,rfl⟩,?_⟩;generalize wd.alloc (.cells #[.int .i64 0,.bool false,.int .i64 0] 235)=Y at hW Bz⊢;refine cla 16 (some 47) 230 #[.slice nb d.length nc,.int .i64 z1] 2 (by kernel_rfl) ?_;refine(V _ (hR.below hW)).mono ?_;rintro e w' ⟨rfl,hw⟩;replace hw:=hw.symm;subst hw;refine⟨_,rfl,⟨⟨_,hW⟩,rfl⟩,?_⟩;simp only[Act.put,pgE,pjE];refine sgr [(17,1)] 1 (by kernel_rfl) ⟨⟨_,hW⟩,rfl⟩ ?_;simp only[pkE];repeat go_big_quiet_step (fail)
      refine wpQuiet_nil ?_;refine ona 19 0 rfl (by kernel_rfl) ?_;obtain⟨p0,p1,p2⟩:=Bz.cel3;obtain⟨f0,f1,f2⟩:=Bz.frz3;have ad:=((hW.setCell (p:=⟨wd.heap.size,0,none⟩) (by have:=C.out;dsimp only;omega) (.int .i64 z1)).setCell (p:=⟨wd.heap.size,1,none⟩) (by have:=C.out;dsimp only;omega) (.bool (decide ((0:Int)≤r)))).setCell (p:=⟨wd.heap.size,2,none⟩) (by have:=C.out;dsimp only;omega) (.int .i64 c);have an:=((Bz.set 0 (.int .i64 z1)).set 1 (.bool (decide ((0:Int)≤r)))).set 2 (.int .i64 c);clear ab
      go_wp2
      refine ThenGo.to ⟨⟨⟨_,ad⟩,rfl⟩,?_⟩;refine z0i (by kernel_rfl) ?_;exact⟨rfl,_,⟨r,_,rfl,(by have:=C.out;omega),an,ad⟩,by kernel_rfl⟩
    ·skip;refine z1c 18 _ rfl ?_;have ag:Below wd.heap.size wd (wd.alloc (.cells #[.int .i64 0,.bool false,.int .i64 0] 235)):=by go_grown
     have Bz:=Blk.new wd 235 #[.int .i64 0,.bool false,.int .i64 0];replace hW:=hW.trans (ag.mono hW.size);clear ag
     go_wp2
     refine ThenGo.to ⟨⟨⟨_,hW⟩,rfl⟩,?_⟩;generalize wd.alloc (.cells #[.int .i64 0,.bool false,.int .i64 0] 235)=Y at hW Bz⊢;refine cla 9 (some 40) 267 #[.slice nb d.length nc,.int .i64 z1] 4 (by kernel_rfl) ?_;refine(be _ (hR.below hW)).mono ?_;rintro e w' ⟨r,rfl,rfl,hw⟩;replace hw:=hw.symm;subst hw;refine⟨_,rfl,⟨⟨_,hW⟩,rfl⟩,?_⟩;try simp only[Act.put,pgE,pjE]
     refine sgr [(10,1)] 3 (by kernel_rfl) ⟨⟨_,hW⟩,rfl⟩ ?_;simp only[pkE];repeat go_big_quiet_step (fail)
     refine wpQuiet_nil ?_;refine cla 16 (some 47) 230 #[.slice nb d.length nc,.int .i64 z1] 2 (by kernel_rfl) ?_;refine(V _ (hR.below hW)).mono ?_;rintro e w' ⟨rfl,hw⟩;replace hw:=hw.symm;subst hw;refine⟨_,rfl,⟨⟨_,hW⟩,rfl⟩,?_⟩;simp only[Act.put,pgE,pjE];refine sgr [(17,1)] 1 (by kernel_rfl) ⟨⟨_,hW⟩,rfl⟩ ?_;simp only[pkE];repeat go_big_quiet_step (fail)
     refine wpQuiet_nil ?_;refine ona 19 0 rfl (by kernel_rfl) ?_;obtain⟨p0,p1,p2⟩:=Bz.cel3;obtain⟨f0,f1,f2⟩:=Bz.frz3;have ad:=((hW.setCell (p:=⟨wd.heap.size,0,none⟩) (by have:=C.out;dsimp only;omega) (.int .i64 z1)).setCell (p:=⟨wd.heap.size,1,none⟩) (by have:=C.out;dsimp only;omega) (.bool (decide ((0:Int)≤r)))).setCell (p:=⟨wd.heap.size,2,none⟩) (by have:=C.out;dsimp only;omega) (.int .i64 c);have an:=((Bz.set 0 (.int .i64 z1)).set 1 (.bool (decide ((0:Int)≤r)))).set 2 (.int .i64 c);clear ab
     go_wp2
     refine ThenGo.to ⟨⟨⟨_,ad⟩,rfl⟩,?_⟩;refine z0i (by kernel_rfl) ?_;exact⟨rfl,_,⟨r,_,rfl,(by have:=C.out;omega),an,ad⟩,by kernel_rfl⟩
   rintro vs w6 ⟨r,bx,rfl,bK,Bu,hW⟩;simp only[z1n,Act.put,pjE];clear N V;have aT:b<wr.heap.size:=by omega
   replace J:=(hW.cell (p:=⟨b,y+k*3,none⟩) aT).trans J;replace A:=(hW.cell (p:=⟨b,y+k*3+1,none⟩) aT).trans A;replace T:=(hW.cell (p:=⟨b,y+k*3+2,none⟩) aT).trans T;by_cases hF:actC d ⟨z0,z1,z2⟩=0
   ·obtain⟨aR,bk⟩:=z2S bg HG.out.1 ae.out hF;have X:Hid (Good (actN d ⟨z0,z1,z2⟩)∧z0t (actN d ⟨z0,z1,z2⟩) (zs.drop (k + 1))=z0t xs zs∧unR xs zs=D ++ ((if z0=4 then [] else [unA d ⟨z0,z1,z2⟩]) ++ unR (actN d ⟨z0,z1,z2⟩) (zs.drop (k + 1)))):=⟨bk,by
     have:=HD.out.1;rw[z1I,if_pos hF]at this;exact this,by
     have:=HD.out.2;rw[z9Y]at this;exact this⟩
    rw[hF]at L;clear HD bk HG ae hF;generalize actN d ⟨z0,z1,z2⟩=nx at L X aR;generalize unA d ⟨z0,z1,z2⟩=uu at X Z;have bp:=hW.size
    go_wp2_with fail
    refine(L _ (hR.below hW) J A T).mono ?_;rintro e w7 ⟨b5,n5,c5,rfl,a6,O⟩;obtain⟨rfl,ay,ai,aX⟩:=a6 (by first|trivial|rfl);have bv:b<w6.heap.size:=by omega
    replace J:=(O.cell (p:=⟨b,y+k*3,none⟩) bv).trans J;replace hI:=(hI.below hW).below O;have ax:ItB w7 b5:=by
     rcases aX with e|h
     ·rw[e];exact hI
     ·exact h
    replace Bo:=(Bo.below hW).below O;have bJ:=Bu.lt;replace Bu:=Bu.below O;replace ho:=z0a (z0a ho hW) O;replace hb:=(hb.trans (hW.mono (by omega))).trans (O.mono (by omega));have bH:=O.size;clear aX a6 L hW O hR d3 hI A T;by_cases h4:z0=4
    ·subst h4;have bw:((4:Int) !=4)=false:=by decide
     have aJ:Hid (Good nx∧z0t nx (zs.drop (k+1))=z0t xs zs∧unR xs zs=D++unR nx (zs.drop (k+1))):=⟨X.out.1,X.out.2.1,by simpa using X.out.2.2⟩
     have RR:Hid (_∧_∧_∧_∧_∧_):=⟨ay,ai,ax,Bo,ho,hb⟩
     clear ay ai ax Bo ho hb Bu
     go_wp2
     go_roundw
     case rel=>exact⟨k+1,nx,b5,c5,D,ua,uc,by omega,by go_num,rfl,RR.out.1,RR.out.2.1,RR.out.2.2.1,aR,by omega,aJ,RR.out.2.2.2.1,RR.out.2.2.2.2.1,RR.out.2.2.2.2.2⟩
     case measure=>simp[intOf];omega
    ·have bw:(z0 !=4)=true:=by simpa using h4
     have aJ:Hid (Good nx∧z0t nx (zs.drop (k + 1))=z0t xs zs∧unR xs zs=(D ++ [⟨z1,t,c⟩]) ++ unR nx (zs.drop (k + 1))):=⟨X.out.1,X.out.2.1,by
      have:=X.out.2.2;rw[if_neg h4,Z.out]at this;simpa using this⟩
     clear X Z h4;obtain⟨i0,hi,bA,br,bB⟩:=info_parts z4P;have ak:Below w7.heap.size w7 (w7.alloc (.cells #[.int .i64 z1,.bool t,.int .i64 c] 235)):=by go_grown
     have ar:=z0a ho ak;have aV:=Bo.below ak;have aD:=ay.below ak;have ao:=ax.below ak;have bP:(w7.alloc (.cells #[.int .i64 z1,.bool t,.int .i64 c] 235)).heap.size=w7.heap.size+1:=by simp
     have p2:=Bo.cell 2 _ rfl;obtain⟨q0,q1,q2⟩:=Bu.cel3
     go_wp2_with (at_builtin;refine wpList_append_own _ rfl _ _ 160 rfl (bo+1) 235 i0 (.agg #[.int .i64 0,.bool false,.int .i64 0]) 3 24 Tryz.underlying160 hi bA br bB rfl (by decide) _ D.length (z0m D) rfl ar ⟨w7.heap.size,0,none⟩ 1 1 [.int .i64 z1,.bool t,.int .i64 c] rfl rfl ?c1 ?c2 ?c3 ?c4 ?c5 ?_)
     all_goals try(case c1=>intro j u hj;match j,hj with|0,hj=>simp at hj;subst hj;simp[Addr.add]|1,hj=>simp at hj;subst hj;simp[Addr.add]|2,hj=>simp at hj;subst hj;simp[Addr.add])
     all_goals try(case c2=>first|rfl|exact⟨rfl,rfl,rfl⟩|(intro u hu;simp at hu;rcases hu with rfl|rfl|rfl<;>rfl))
     all_goals try(case c3=>unfold maxLen;omega)
     all_goals try(case c4=>omega)
     all_goals try(case c5=>first|omega|(simp;omega))
     intro v' w8 I U _;obtain⟨a2,c2,rfl⟩:=z0g I;clear p2 q0 q1 q2;have aH:=z9B ar (b:=bo) (Or.inl (by omega));have am:=aV.grown U aH;have bd:Below bo w7 w8:=(ak.mono (by omega)).grown U (by omega) (fun j hj=>by have:=(ar.lt j hj).1;omega);have aQ:∀x y,b5=some ⟨x,y,none⟩→x<(w7.alloc (.cells #[.int .i64 z1,.bool t,.int .i64 c] 235)).heap.size→w8.heap[x]?=(w7.alloc (.cells #[.int .i64 z1,.bool t,.int .i64 c] 235)).heap[x]?:=by
      intro x y e hx;refine U.block x hx ?_;intro e2;obtain⟨cs,W⟩:=ao x y e;rcases ar.2 with⟨hv,_⟩|⟨g',bD,bE,hv,_,hh,_⟩
      ·rw[hv]at e2;simp[Value.ownBlock]at e2
      ·rw[hv]at e2;simp only[Value.ownBlock,Option.some.injEq]at e2;subst e2;rw[W]at hh;simp at hh
     have bb:ItemRow w8 b5 nx:=z5J aD U.size aQ;have aK:ItB w8 b5:=by
      intro x y e;obtain⟨cs,W⟩:=ao x y e;exact⟨cs,(aQ x y e (Array.getElem?_eq_some_iff.1 W).1).trans W⟩
     have al:∀x y,b5=some ⟨x,y,none⟩→x≠bo:=by
      intro x y e e2;obtain⟨cs,W⟩:=aK x y e;subst e2;have:=am;unfold Blk at this;rw[W]at this;simp at this
     have bc:ItemRow (w8.setCell ⟨bo,2,none⟩ (.slice a2 (D.length+1) c2)) b5 nx:=z5J bb (by simp[World.setCell]) (fun x y e hx=>Below.heap_setCell _ _ _ _ (by have:=al x y e;dsimp only;omega));have aY:ItB (w8.setCell ⟨bo,2,none⟩ (.slice a2 (D.length+1) c2)) b5:=by
      intro x y e;obtain⟨cs,W⟩:=aK x y e;exact⟨cs,(Below.heap_setCell _ _ _ _ (by have:=al x y e;dsimp only;omega)).trans W⟩
     have aw:=am.set 2 (.slice a2 (D.length+1) c2);have au:=ownsRow_setCell_below (a:=⟨bo,2,none⟩) I (by dsimp only;omega) (.slice a2 (D.length+1) c2);have bf:=(hb.trans bd).setCell (p:=⟨bo,2,none⟩) (Nat.le_refl _) (.slice a2 (D.length+1) c2);have p2:=am.cell 2 _ rfl;have f2:=am.frozen 2;have RR:Hid (_∧_∧_∧_∧_∧_):=⟨bc,ai,aY,aw,au,bf⟩
     clear bc ai aY aw au bf bb aK ay ax Bo ho hb Bu aV ar aD ao bd aQ al U I am ak aH
     go_wp2
     go_roundw
     case rel=>
      refine⟨k+1,nx,b5,c5,D++[⟨z1,t,c⟩],a2,c2,by omega,by go_num,rfl,RR.out.1,RR.out.2.1,RR.out.2.2.1,aR,by simp;omega,aJ,?_,?_,RR.out.2.2.2.2.2⟩
      ·simpa using RR.out.2.2.2.1
      ·rw[z3d];simpa using RR.out.2.2.2.2.1
     case measure=>simp[intOf];omega
   ·have HE:Hid ((z0t xs zs).1=actC d ⟨z0,z1,z2⟩∧runR xs zs=[]∧runV xs zs=0∧z0L xs zs=[]):=by
     have hh:=HD.out.1;rw[z1I,if_neg hF]at hh;refine⟨by rw[←hh],?_,?_,?_⟩
     ·unfold runR;rw[←hh];exact if_neg hF
     ·unfold runV;rw[←hh];exact if_neg hF
     ·unfold z0L;rw[←hh];exact if_neg hF
    have ab:(actC d ⟨z0,z1,z2⟩ !=0)=true:=by simpa using hF
    clear HD HG ae hF Z Bu;generalize actC d ⟨z0,z1,z2⟩=rc at L HE ab;have bG:=ab;clear ab
    go_wp2_with fail
    refine(L _ (hR.below hW) J A T).mono ?_;rintro e w7 ⟨b5,n5,c5,rfl,_,O⟩;have bp:=hW.size;have aa:=(hb.trans (hW.mono (by omega))).trans (O.mono (by omega));have aj:Blk w7 _ _ _:=(aa.block _ bm).trans B0;have az:Below w.heap.size w w7:=af.trans (aa.mono (by omega));obtain⟨p0,p1,p2,p3⟩:=aj.cel4;obtain⟨f0,f1,f2,f3⟩:=aj.frz4;clear L hb O d3 B0 aj hW aa hR Bo ho
    go_wp2
    refine bodyPost_ret (v:=.agg #[.int .i64 rc,.int .i64 0,.slice none 0 0,.slice none 0 0]) (by simp[results,Tryz.results237,go_sem,p0,p1,p2,p3]) rfl ?_;rw[HE.out.1,HE.out.2.1,HE.out.2.2.1,HE.out.2.2.2];refine⟨_,_,_,_,rfl,⟨OwnS.of (World.ownsRow_nil _ _ _ _),OwnS.of (World.ownsRow_nil _ _ _ _),Or.inl rfl⟩,?_⟩;repeat' (refine Below.setCell ?_ (by dsimp only;omega) _)
    exact az
  ·have bj:k=zs.length:=by omega
   have HC:Hid (z0t xs zs=(0,d)∧unR xs zs=D):=by
    have:=HG.out.2;rw[bj,List.drop_length]at this;exact⟨this.1.symm,by simpa[unR]using this.2⟩
   subst bj;obtain⟨n,hn⟩:∃n,zs.length=n+1:=⟨zs.length-1,by omega⟩
   obtain⟨b,y,rfl,aP⟩:=aI n (by omega);obtain⟨b',bt,e,_,J,A,T⟩:=bq.at n (by omega);simp only[Option.some.injEq,Addr.mk.injEq,and_true]at e;obtain⟨rfl,rfl⟩:=e;replace A:wr.cell? ⟨b,y+n*3+1,none⟩=_:=(hb.cell (p:=⟨b,y+n*3+1,none⟩) (by dsimp only;omega)).trans A;have HL:Hid (z5F zs=(zs.getD n z0d).key):=by
    show _=_;unfold z5F;rw[hn,Nat.add_sub_cancel]
   generalize (zs.getD n z0d).key=kk at A HL;have V:=fun w h=>z2i nb nc d kk w h (by omega)
   have HE:Hid ((z0t xs zs).1=0∧runR xs zs=d∧runV xs zs=valI d kk∧z0L xs zs=D):=by
    have hh:=HC.out.1;refine⟨by rw[hh],?_,?_,?_⟩
    ·unfold runR;rw[hh];exact if_pos rfl
    ·unfold runV;rw[hh,HL.out];exact if_pos rfl
    ·unfold z0L;rw[hh,HC.out.2];exact if_pos rfl
   generalize valI d kk=vv at V HE;have bn:(zs.length:Int)-1=(n:Int):=by omega
   have bL:n<zs.length:=by omega
   have hW:Below wr.heap.size wr wr.drew:=(Below.refl _ _).drew;have ab:Nonempty (Lat wr):=⟨⟨wr,Below.refl _ _⟩⟩
   have k0:=z0f A;have k1:=z0f d3;clear hn J T A HC HG HL c3
   go_wp2_with fail
   refine z4m (S:=fun w'=>∃u:Lat wr,w'=u.val) (R:=fun _ _=>False) 16 (by kernel_rfl) (fun _ _ _ _ h=>h.elim) ?_;refine sgX [(0,9)] 8 (by kernel_rfl) ⟨⟨_,hW⟩,rfl⟩ ?_;simp only[pkE];repeat go_big_quiet_step (fail)
   refine wpQuiet_nil ?_;generalize wr.drew=wd at hW⊢;refine onX 9 7 rfl (by kernel_rfl) ?_
   go_wp2
   refine ThenX.to ⟨Or.inr ⟨⟨_,hW⟩,rfl⟩,?_⟩;refine sgX [(10,4)] 3 (by kernel_rfl) ⟨⟨_,hW⟩,rfl⟩ ?_;simp only[pkE];repeat go_big_quiet_step (fail)
   refine wpQuiet_nil ?_;clear k0 k1 bn;refine clX 14 (some 85) 230 #[.slice nb d.length nc,.int .i64 kk] 2 (by kernel_rfl) rfl ?_;refine(V _ (hR.below hW)).mono ?_;rintro e w' ⟨rfl,hw⟩;replace hw:=hw.symm;subst hw;refine Or.inl ⟨_,rfl,⟨⟨_,hW⟩,rfl⟩,?_⟩;simp only[Act.put,pgE,pjE];refine onX 15 1 rfl (by kernel_rfl) ?_
   go_wp2
   refine ThenX.to ⟨Or.inr ⟨⟨_,hW⟩,rfl⟩,?_⟩;refine onX 16 0 rfl (by kernel_rfl) ?_;replace Bo:=Bo.below hW;replace ho:=z0a ho hW;replace hR:=hR.below hW;replace hI:=hI.below hW;replace hb:=hb.trans (hW.mono (by omega));have p1:=Bo.cell 1 _ rfl;have f1:=Bo.frozen 1
   go_wp2
   refine ThenX.to ⟨Or.inl (by kernel_rfl),?_⟩;refine q3D (by kernel_rfl) ?_;clear p1 f1 hW ab V d3;have al:∀x y,nb=some ⟨x,y,none⟩→x≠bo:=by
    intro x y e e2;obtain⟨cs,W⟩:=hI x y e;subst e2;have:=Bo;unfold Blk at this;rw[W]at this;simp at this
   replace hR:ItemRow (wd.setCell ⟨bo,1,none⟩ (.int .i64 vv)) nb d:=z5J hR (by simp[World.setCell]) (fun x y e hx=>Below.heap_setCell _ _ _ _ (by have:=al x y e;dsimp only;omega));replace Bo:=Bo.set 1 (.int .i64 vv);replace ho:=ownsRow_setCell_below (a:=⟨bo,1,none⟩) ho (by dsimp only;omega) (.int .i64 vv);replace hb:=hb.setCell (p:=⟨bo,1,none⟩) (Nat.le_refl _) (.int .i64 vv);clear hI al;generalize wd.setCell ⟨bo,1,none⟩ (.int .i64 vv)=w5 at hR Bo ho hb⊢;have bN:=Bo.lt;have aN:Below w5.heap.size w5 (w5.alloc (.cells #[] 119)):=by go_grown
   have bl:=World.ownsRow_lit (size:=2) (e:=119) w5 #[] 0 (Nat.le_refl _) (by decide) rfl;have bi:∀ (ops:Array Oper) (rest:List Oper) (o:Oper) (M:Act) (Q:Exit→Act→World→Prop) (aq:o.guard=none) (sx x:Operand) (ho:o.op=.call {callee:=.builtin .append,args:=#[sx,x],argTypes:=#[26,26]}) (hs:M.eval sx=.slice (some ⟨w5.heap.size,0,none⟩) 0 0) (hx:M.eval x=.slice nb d.length nc)
     (hh:∀a' c' w',w'.ownsRow w5.heap.size 119 2 (.slice a' d.length c') d.length (z0c d)→Below w5.heap.size (w5.alloc (.cells #[] 119)) w'→wpList Tryz.prog ops Q rest (M.put o.dst (.slice a' d.length c')) w'),wpList Tryz.prog ops Q (o::rest) M (w5.alloc (.cells #[] 119)):=
    fun ops rest o M Q aq sx x ho hs hx hh=>z0B _ aq sx x ho w5.heap.size w5.heap.size hs bl nb d nc hx (hR.below aN) a8 (by omega) (by simp) hh
   go_wp2_with (at_builtin;refine bi _ _ _ _ _ rfl _ _ rfl rfl rfl ?_)
   intro a7 c7 w7 o7 aF;have aa:Below w5.heap.size w5 w7:=aN.trans aF;have bu:=z6g ho o7 (Nat.le_refl _);replace Bo:=Bo.below aa;replace ho:=z0a ho aa;replace hb:=hb.trans (aa.mono (by omega));have aj:Blk w7 _ _ _:=(hb.block _ bm).trans B0;have az:Below w.heap.size w w7:=af.trans (hb.mono (by omega));have bO:=aa.size;clear bi bl aN aF aa hb hR B0 af;have nU:∀j,(Value.slice ua D.length uc).ownBlock=some j→j≠bo:=fun j hj=>by have:=(ho.lt j hj).1;omega
   have aC:∀j,(Value.slice ua D.length uc).ownBlock=some j→j≠w.heap.size:=fun j hj=>by have:=(ho.lt j hj).1;omega
   have nI:∀j,(Value.slice a7 d.length c7).ownBlock=some j→j≠bo:=fun j hj=>by have:=(o7.lt j hj).1;omega
   have aB:∀j,(Value.slice a7 d.length c7).ownBlock=some j→j≠w.heap.size:=fun j hj=>by have:=(o7.lt j hj).1;omega
   have p3:=Bo.cell 3 _ rfl;have f3:=Bo.frozen 3;obtain⟨q0,q1,q2⟩:=Bo.cel3;have aw:=Bo.set 3 (.slice a7 d.length c7);have av:Blk (w7.setCell ⟨bo,3,none⟩ (.slice a7 d.length c7)) w.heap.size 228 #[.int .i64 0,.int .i64 0,.slice none 0 0,.slice none 0 0]:=(Below.heap_setCell _ _ _ _ (by dsimp only;omega)).trans aj;have au:=z0h (j:=3) (u:=.slice a7 d.length c7) ho nU;have bs:=z0h (j:=3) (u:=.slice a7 d.length c7) o7 nI;have aG:=az.setCell (p:=⟨bo,3,none⟩) (by dsimp only;omega) (.slice a7 d.length c7);obtain⟨r0,r1,r2,r3⟩:=av.cel4;obtain⟨g0,g1,g2,g3⟩:=av.frz4;have bF:=av.lt;have RR:Hid (_∧_∧_):=⟨au,bs,aG⟩
   clear Bo aj ho o7 az av au bs aG aw
   go_wp2
   refine bodyPost_ret (v:=.agg #[.int .i64 0,.int .i64 vv,.slice ua D.length uc,.slice a7 d.length c7]) (by simp[results,Tryz.results237,go_sem,r0,r1,r2,r3]) rfl ?_;rw[HE.out.1,HE.out.2.1,HE.out.2.2.1,HE.out.2.2.2];refine⟨_,_,_,_,rfl,⟨OwnS.of (z0o (z0h (z0h (z0h (z0h RR.out.1 aC) aC) aC) aC) (by omega)),OwnS.of (z0o (z0h (z0h (z0h (z0h RR.out.2.1 aB) aB) aB) aB) (by omega)),bu⟩,?_⟩;refine Below.setCell (Below.setCell (Below.setCell (Below.setCell RR.out.2.2 ?_ _) ?_ _) ?_ _) ?_ _<;>exact Nat.le_refl _
def nextI(xs:List ItemD)(t:TxnD):List ItemD:=if(z0t xs t.acts).1=0 then(z0t xs t.acts).2 else xs
def allI:List ItemD→List TxnD→List ItemD
 |xs,[]=>xs
 |xs,t::r=>allI (nextI xs t) r
def z12:List ItemD→List TxnD→List Int
 |_,[]=>[]
 |xs,t::r=>(z0t xs t.acts).1::z12 (nextI xs t) r
def z13:List ItemD→List TxnD→List Int
 |_,[]=>[]
 |xs,t::r=>runV xs t.acts::z13 (nextI xs t) r
theorem z4B:∀ (ds:List TxnD) (xs:List ItemD),(z12 xs ds).length=ds.length
 |[],_=>rfl
 |t::r,xs=>by simp[z12,z4B r]
theorem z4C:∀ (ds:List TxnD) (xs:List ItemD),(z13 xs ds).length=ds.length
 |[],_=>rfl
 |t::r,xs=>by simp[z13,z4C r]
theorem z1e{xs:List ItemD}{t:TxnD}(hl:xs.length≤8)(g:Good xs)(ht:t.F=0):(nextI xs t).length≤8∧Good (nextI xs t):=by
 unfold nextI;split
 ·rename_i h;exact z9W hl g (z0W ht).2 h
 ·exact⟨hl,g⟩
theorem z1l:∀ {ds:List TxnD} {xs:List ItemD},xs.length≤8→Good xs→(∀t∈ds,t.F=0)→(allI xs ds).length≤8∧Good (allI xs ds)
 |[],xs,hl,g,_=>⟨hl,g⟩
 |t::r,xs,hl,g,ht=>by
  obtain⟨h1,h2⟩:=z1e hl g (ht t (by simp));exact z1l (ds:=r) (xs:=nextI xs t) h1 h2 (fun u hu=>ht u (by simp[hu]))
theorem z8y:∀ {ds:List TxnD},allF ds=0→∀t∈ds,t.F=0
 |[],_,t,h=>by simp at h
 |x::r,h,t,ht=>by
  simp only[allF]at h;by_cases hx:x.F=0
  ·rw[if_pos hx]at h;rcases List.mem_cons.1 ht with rfl|ht
   ·exact hx
   ·exact z8y h t ht
  ·rw[if_neg hx]at h;exact absurd h hx
theorem z7r{ds:List TxnD}(h:idsC ds=0):ds.length≤60∧∀t∈ds,t.F=0:=by
 have h60:=q2U h;unfold idsC at h;rw[if_neg (by omega)]at h;exact⟨h60,z8y h⟩
def eaC(xs:List ItemD)(ds:List TxnD):Int:=if itemsF xs≠0 then itemsF xs else idsC ds
def eaCd(xs:List ItemD)(ds:List TxnD):List Int:=if eaC xs ds=0 then z12 xs ds else []
def eaVl(xs:List ItemD)(ds:List TxnD):List Int:=if eaC xs ds=0 then z13 xs ds else []
def eaI(xs:List ItemD)(ds:List TxnD):List ItemD:=if eaC xs ds=0 then allI xs ds else []
theorem q3T{xs:List ItemD}{ds:List TxnD}(h:itemsF xs≠0):eaC xs ds=itemsF xs∧eaCd xs ds=[]∧eaVl xs ds=[]∧eaI xs ds=[]:=by
 have e:eaC xs ds=itemsF xs:=if_pos h;exact⟨e,by simp[eaCd,e,h],by simp[eaVl,e,h],by simp[eaI,e,h]⟩
theorem q2p{xs:List ItemD}{ds:List TxnD}(h:itemsF xs=0)(h2:idsC ds≠0):eaC xs ds=idsC ds∧eaCd xs ds=[]∧eaVl xs ds=[]∧eaI xs ds=[]:=by
 have e:eaC xs ds=idsC ds:=by simp[eaC,h]
 exact⟨e,by simp[eaCd,e,h2],by simp[eaVl,e,h2],by simp[eaI,e,h2]⟩
theorem q2q{xs:List ItemD}{ds:List TxnD}(h:itemsF xs=0)(h2:idsC ds=0):eaC xs ds=0∧eaCd xs ds=z12 xs ds∧eaVl xs ds=z13 xs ds∧eaI xs ds=allI xs ds:=by
 have e:eaC xs ds=0:=by simp[eaC,h,h2]
 exact⟨e,by simp[eaCd,e],by simp[eaVl,e],by simp[eaI,e]⟩
theorem q56(xs:List ItemD)(ds:List TxnD):(eaCd xs ds).length≤1048576∧(eaVl xs ds).length≤1048576∧(eaI xs ds).length≤1048576:=by
 by_cases h:itemsF xs=0
 ·by_cases h2:idsC ds=0
  ·obtain⟨_,e2,e3,e4⟩:=q2q h h2;obtain⟨h8,g⟩:=z1Z h;obtain⟨h60,hz⟩:=z7r h2;rw[e2,e3,e4,z4B,z4C];have:=(z1l h8 g hz).1;omega
  ·obtain⟨_,e2,e3,e4⟩:=q2p (ds:=ds) h h2;rw[e2,e3,e4];simp
 ·obtain⟨_,e2,e3,e4⟩:=q3T (ds:=ds) h;rw[e2,e3,e4];simp
theorem z9Z{ds:List TxnD}{k:Nat}(h:k<ds.length):ds.drop k=ds.getD k z0k::ds.drop (k+1):=by
 have e:ds.getD k z0k=ds[k]:=by simp[List.getD,h]
 rw[List.drop_eq_getElem_cons h,e]
theorem Apart3.nil:Apart3 (.slice none 0 0) (.slice none 0 0) (.slice none 0 0):=⟨Or.inl rfl,Or.inl rfl,Or.inl rfl⟩
theorem Apart3.grow1{w:World}{s1 s2 s3 s1':Value}(h:Apart3 s1 s2 s3)(hl:s1'.ownBlock=s1.ownBlock∨s1'.ownBlock=some w.heap.size)(h2:∀g,s2.ownBlock=some g→g<w.heap.size)(h3:∀g,s3.ownBlock=some g→g<w.heap.size):Apart3 s1' s2 s3:=by
 rcases hl with e|e
 ·exact⟨by rw[e];exact h.a12,by rw[e];exact h.a13,h.a23⟩
 ·exact⟨Or.inr (by rw[e];intro k;have:=h2 _ k.symm;omega),Or.inr (by rw[e];intro k;have:=h3 _ k.symm;omega),h.a23⟩
theorem Apart3.grow2{w:World}{s1 s2 s3 s2':Value}(h:Apart3 s1 s2 s3)(hl:s2'.ownBlock=s2.ownBlock∨s2'.ownBlock=some w.heap.size)(h1:∀g,s1.ownBlock=some g→g<w.heap.size)(h3:∀g,s3.ownBlock=some g→g<w.heap.size):Apart3 s1 s2' s3:=by
 rcases hl with e|e
 ·exact⟨by rw[e];exact h.a12,h.a13,by rw[e];exact h.a23⟩
 ·refine⟨z3i (Or.inr ?_),h.a13,Or.inr ?_⟩
  ·rw[e];intro k;have:=h1 _ k.symm;omega
  ·rw[e];intro k;have:=h3 _ k.symm;omega
end
def z0I:List ItemD→List TxnD→List (TxnD × Int × Int × List UndoD)
 |_,[]=>[]
 |xs,t::r=>(t,(z0t xs t.acts).1,runV xs t.acts,z0L xs t.acts)::z0I (nextI xs t) r
theorem z2T:∀ (ds:List TxnD) (xs:List ItemD) (t:TxnD),z0I xs (ds++[t])=z0I xs ds++[(t,(z0t (allI xs ds) t.acts).1,runV (allI xs ds) t.acts,z0L (allI xs ds) t.acts)]
 |[],_,_=>rfl
 |d::r,xs,t=>by
  simp only[List.cons_append,z0I,allI];rw[z2T r]
theorem z3N:∀ (ds:List TxnD) (xs:List ItemD) (t:TxnD),allI xs (ds++[t])=nextI (allI xs ds) t
 |[],_,_=>rfl
 |d::r,xs,t=>by
  simp only[List.cons_append,allI];exact z3N r _ t
def DeedQ.t(p:DeedQ):TxnD:=⟨p.i,p.s,p.q,p.acts⟩
def DeedQ.e4(p:DeedQ):TxnD × Int × Int × List UndoD:=(p.t,p.code,p.val,p.us)
theorem du9{xs:List ItemD}{t:TxnD}(hl:xs.length≤8)(g:Good xs)(ht:t.F=0):exC xs t.id t.session t.seq t.acts=(z0t xs t.acts).1∧exV xs t.id t.session t.seq t.acts=runV xs t.acts∧duU xs t.id t.session t.seq t.acts=z0L xs t.acts∧exR xs t.id t.session t.seq t.acts=runR xs t.acts:=by
 have h1:=z8t hl g;have h2:txnF t.id t.session t.seq t.acts=0:=ht;have e:exC xs t.id t.session t.seq t.acts=(z0t xs t.acts).1:=by
  unfold exC;rw[if_neg (by simp[h1]),if_neg (by simp[h2])]
 refine⟨e,?_,?_,?_⟩
 ·unfold exV runV;rw[e]
 ·unfold duU z0L;rw[e]
 ·unfold exR runR;rw[e]
theorem z2F{e n lo hi:Nat}{w:World}{v:Value}{m:Nat}{xs:List Value}(h:OwnS e n lo hi w v m xs):w.ownsRow 0 e n v m xs∧∀k∈blk v,lo≤k:=z0u h.1
theorem z5K:itemsF ([]:List ItemD)=0:=by decide
theorem z3O:Good ([]:List ItemD):=(z1Z z5K).2
theorem q2r(ia:Option Addr)(ic:Nat)(xs:List ItemD)(i s q:Int)(ta:Option Addr)(tc:Nat)(zs:List ActD)(w:World)(h:itemK.At w (.slice ia xs.length ic) xs)(ht:actK.At w (.slice ta zs.length tc) zs)(hl:xs.length≤8)(g:Good xs)(hF:(⟨i,s,q,zs⟩:TxnD).F=0):
  Calls Tryz.prog 161 #[.slice ia xs.length ic,.agg #[.int .i64 i,.int .i64 s,.int .i64 q,.slice ta zs.length tc]] w fun e w'=>∃b c b2 c2,e=.returned (.agg #[.int .i64 (z0t xs zs).1,.int .i64 (runV xs zs),.slice b (z0L xs zs).length c,.slice b2 (runR xs zs).length c2])∧
   undoK.Own w' (.slice b (z0L xs zs).length c) (z0L xs zs)∧itemK.Own w' (.slice b2 (runR xs zs).length c2) (runR xs zs)∧(∀k∈blk (.slice b (z0L xs zs).length c),w.heap.size≤k)∧(∀k∈blk (.slice b2 (runR xs zs).length c2),w.heap.size≤k)∧Below w.heap.size w w':=by
 obtain⟨e1,e2,e3,e4⟩:=du9 (t:=⟨i,s,q,zs⟩) hl g hF;have hz:=(z0W (show txnF i s q zs=0 from hF)).1;have hq:=z6c ia ic xs i s q ta tc zs w (z0Z h).2 (z0T ht).2 (by omega) (by omega);dsimp only at e1 e2 e3 e4;rw[e1,e2,e3,e4]at hq;refine hq.mono ?_;rintro e w' ⟨b,c,b2,c2,rfl,hU,hb⟩;obtain⟨o1,l1⟩:=z2F hU.o1;obtain⟨o2,l2⟩:=z2F hU.o2;exact⟨b,c,b2,c2,rfl,⟨o1,fun _ _=>trivial⟩,⟨o2,fun _ _=>trivial⟩,l1,l2,hb⟩
structure Rec (w:World) (rb B0:Nat) (wr:World) (vN iN vU iU:Value) (ds us:List DeedQ) (xs ys:List ItemD):Prop where
 B:Blk wr rb 157 #[vN,iN,vU,iU]
 oN:wr.ownsRow 0 307 6 vN ds.length ((z5G w).row ds)
 aN:∀p∈ds,actK.At w p.va p.acts
 oU:wr.ownsRow 0 162 7 vU us.length ((z4A w).row us)
 aU:∀p∈us,actK.At w p.va p.acts∧undoK.Own wr p.lv p.us
 jN:itemK.Own wr iN xs
 jU:itemK.Own wr iU ys
 nu:∀k∈blk vN,k∉blk vU
 lN:∀k∈blk vN,B0≤k
 lU:∀k∈blk vU,B0≤k
 d1:∀k∈blk iN,B0≤k∧k∉blk vN∧k∉blk vU
 d2:∀k∈blk iU,B0≤k∧k∉blk vN∧k∉blk vU
 d3:∀p∈us,∀k∈blk p.lv,B0≤k∧k∉blk vN∧k∉blk vU
theorem Rec.below{w:World}{rb B0:Nat}{wr wr':World}{vN iN vU iU:Value}{ds us:List DeedQ}{xs ys:List ItemD}(h:Rec w rb B0 wr vN iN vU iU ds us xs ys)(hb:Below wr.heap.size wr wr'):Rec w rb B0 wr' vN iN vU iU ds us xs ys:=
 ⟨h.B.below hb,z0a h.oN hb,h.aN,z0a h.oU hb,fun p hp=>⟨(h.aU p hp).1,(h.aU p hp).2.below hb⟩,h.jN.below hb,h.jU.below hb,h.nu,h.lN,h.lU,h.d1,h.d2,h.d3⟩
theorem z3n{v v':Value}{H B0:Nat}(h:v'.ownBlock=v.ownBlock∨∃g,v'.ownBlock=some g∧H≤g){k:Nat}(hk:k∈blk v'):k∈blk v∨H≤k:=by
 unfold blk at hk⊢;rcases h with h|⟨g,h,hg⟩
 ·rw[h]at hk;exact Or.inl hk
 ·rw[h]at hk;simp only[Option.toList,List.mem_singleton]at hk;subst hk;exact Or.inr hg
theorem z0z{w:World}{b e n m:Nat}{v:Value}{xs:List Value}(h:w.ownsRow b e n v m xs):∀k∈blk v,k<w.heap.size:=fun k hk=>(h.lt k (by simpa[blk]using hk)).2
theorem Rec.addN{w:World}{rb B0:Nat}{w1 w2:World}{vN iN d':Value}{vU iU i':Value}{ds us:List DeedQ}{xs ys xs':List ItemD}{p:DeedQ}(h:Rec w rb B0 w1 vN iN vU iU ds us xs ys)(hrb:rb<B0)(hB:B0≤w1.heap.size)(hp:actK.At w p.va p.acts)
  (hi:itemK.Own w1 i' xs') (hil:∀k∈blk i',B0≤k∧k∉blk vN∧k∉blk vU)
  (B:Blk w2 rb 157 #[d',i',vU,iU]) (ho:w2.ownsRow 0 307 6 d' (ds.length+1) ((z5G w).row ds++(z5G w).cells p)) (hd:d'.ownBlock=vN.ownBlock∨∃g,d'.ownBlock=some g∧w1.heap.size≤g) (hO:Out (rb::blk vN) w1 w2):
  Rec w rb B0 w2 d' i' vU iU (ds++[p]) us xs' ys:=by
 have nF:∀ {k},B0≤k→k∉blk vN→k∉rb::blk vN:=fun hk hn hm=>by
  rcases List.mem_cons.1 hm with e|e
  ·omega
  ·exact hn e
 have out:∀ {k},(k<w1.heap.size)→k∉blk vN→k∉blk d':=fun hk hn hm=>by
  rcases z3n (B0:=0) hd hm with e|e
  ·exact hn e
  ·omega
 refine⟨B,by rw[List.length_append,List.length_singleton,Kind.row_snoc];exact ho,?_,z0R h.oU hO (fun k hk=>nF (h.lU k hk) (fun e=>h.nu k e hk)),?_,?_,?_,?_,?_,h.lU,?_,?_,?_⟩
 ·intro q hq;rcases List.mem_append.1 hq with hq|hq
  ·exact h.aN q hq
  ·simp only[List.mem_singleton]at hq;subst hq;exact hp
 ·exact fun q hq=>⟨(h.aU q hq).1,(h.aU q hq).2.out hO (fun k hk=>by rw[z0E]at hk;exact nF (h.d3 q hq k hk).1 (h.d3 q hq k hk).2.1)⟩
 ·exact hi.out hO (fun k hk=>by rw[z0l]at hk;exact nF (hil k hk).1 (hil k hk).2.1)
 ·exact h.jU.out hO (fun k hk=>by rw[z0l]at hk;exact nF (h.d2 k hk).1 (h.d2 k hk).2.1)
 ·intro k hk hm;rcases z3n (B0:=0) hd hk with e|e
  ·exact h.nu k e hm
  ·have:=z0z h.oU k hm;omega
 ·intro k hk;rcases z3n (B0:=0) hd hk with e|e
  ·exact h.lN k e
  ·omega
 ·exact fun k hk=>⟨(hil k hk).1,out (z0z hi.1 k hk) (hil k hk).2.1,(hil k hk).2.2⟩
 ·exact fun k hk=>⟨(h.d2 k hk).1,out (z0z h.jU.1 k hk) (h.d2 k hk).2.1,(h.d2 k hk).2.2⟩
 ·exact fun q hq k hk=>⟨(h.d3 q hq k hk).1,out (z0z (h.aU q hq).2.1 k hk) (h.d3 q hq k hk).2.1,(h.d3 q hq k hk).2.2⟩
theorem Rec.addU{w:World}{rb B0:Nat}{w1 w2:World}{vN iN d':Value}{vU iU i':Value}{ds us:List DeedQ}{xs ys z:List ItemD}{p:DeedQ}(h:Rec w rb B0 w1 vN iN vU iU ds us xs ys)(A:rb<B0)(hB:B0≤w1.heap.size)(hp:actK.At w p.va p.acts)(y:undoK.Own w1 p.lv p.us)
  (d:∀k∈blk p.lv,B0≤k∧k∉blk vN∧k∉blk vU)
  (hi:itemK.Own w1 i' z) (c:∀k∈blk i',B0≤k∧k∉blk vN∧k∉blk vU)
  (B:Blk w2 rb 157 #[vN,iN,d',i']) (ho:w2.ownsRow 0 162 7 d' (us.length+1) ((z4A w).row us++(z4A w).cells p)) (hd:d'.ownBlock=vU.ownBlock∨∃g,d'.ownBlock=some g∧w1.heap.size≤g) (hO:Out (rb::blk vU) w1 w2):
  Rec w rb B0 w2 vN iN d' i' ds (us++[p]) xs z:=by
 have nF:∀ {k},B0≤k→k∉blk vU→k∉rb::blk vU:=fun hk hn hm=>by
  rcases List.mem_cons.1 hm with e|e
  ·omega
  ·exact hn e
 have x:∀ {k},(k<w1.heap.size)→k∉blk vU→k∉blk d':=fun hk hn hm=>by
  rcases z3n (B0:=0) hd hm with e|e
  ·exact hn e
  ·omega
 refine⟨B,z0R h.oN hO (fun k hk=>nF (h.lN k hk) (h.nu k hk)),h.aN,by rw[List.length_append,List.length_singleton,Kind.row_snoc];exact ho,?_,?_,?_,?_,h.lN,?_,?_,?_,?_⟩
 ·intro q hq;rcases List.mem_append.1 hq with hq|hq
  ·exact⟨(h.aU q hq).1,(h.aU q hq).2.out hO (fun k hk=>by rw[z0E]at hk;exact nF (h.d3 q hq k hk).1 (h.d3 q hq k hk).2.2)⟩
  ·simp only[List.mem_singleton]at hq;subst hq;exact⟨hp,y.out hO (fun k hk=>by rw[z0E]at hk;exact nF (d k hk).1 (d k hk).2.2)⟩
 ·exact h.jN.out hO (fun k hk=>by rw[z0l]at hk;exact nF (h.d1 k hk).1 (h.d1 k hk).2.2)
 ·exact hi.out hO (fun k hk=>by rw[z0l]at hk;exact nF (c k hk).1 (c k hk).2.2)
 ·intro k hk hm;rcases z3n (B0:=0) hd hm with e|e
  ·exact h.nu k hk e
  ·have:=z0z h.oN k hk;omega
 ·intro k hk;rcases z3n (B0:=0) hd hk with e|e
  ·exact h.lU k e
  ·omega
 ·exact fun k hk=>⟨(h.d1 k hk).1,(h.d1 k hk).2.1,x (z0z h.jN.1 k hk) (h.d1 k hk).2.2⟩
 ·exact fun k hk=>⟨(c k hk).1,(c k hk).2.1,x (z0z hi.1 k hk) (c k hk).2.2⟩
 ·intro q hq k hk;rcases List.mem_append.1 hq with hq|hq
  ·exact⟨(h.d3 q hq k hk).1,(h.d3 q hq k hk).2.1,x (z0z (h.aU q hq).2.1 k hk) (h.d3 q hq k hk).2.2⟩
  ·simp only[List.mem_singleton]at hq;subst hq;exact⟨(d k hk).1,(d k hk).2.1,x (z0z y.1 k hk) (d k hk).2.2⟩
theorem Rec.share{w:World}{rb B0:Nat}{w1:World}{vN iN vU iU:Value}{ds us:List DeedQ}{xs ys:List ItemD}(h:Rec w rb B0 w1 vN iN vU iU ds us xs ys)(hrb:rb<B0):Rec w rb B0 (w1.setCell ⟨rb,3,none⟩ iN) vN iN vU iN ds us xs xs:=by
 have hO:=Out.setCell w1 rb 3 iN;have nF:∀ {k},B0≤k→k∉[rb]:=fun hk hm=>by simp only[List.mem_singleton]at hm;omega
 refine⟨?_,z0R h.oN hO (fun k hk=>nF (h.lN k hk)),h.aN,z0R h.oU hO (fun k hk=>nF (h.lU k hk)),fun p hp=>⟨(h.aU p hp).1,(h.aU p hp).2.out hO (fun k hk=>by rw[z0E]at hk;exact nF (h.d3 p hp k hk).1)⟩,h.jN.out hO (fun k hk=>by rw[z0l]at hk;exact nF (h.d1 k hk).1),h.jN.out hO (fun k hk=>by rw[z0l]at hk;exact nF (h.d1 k hk).1),h.nu,h.lN,h.lU,h.d1,h.d1,h.d3⟩;have:=h.B.set 3 iN;simpa using this
end Go.Proofs.YtlkpdgjnhkjpjaaGreatDoor
