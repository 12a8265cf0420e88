import Derived.Test.YtjjoahhnkpjolaaGreatDoorONBB
set_option linter.unusedVariables false
set_option linter.unusedSimpArgs false
set_option maxRecDepth 100000
set_option maxHeartbeats 8000000
namespace Go.Proofs.YtjjoahhnkpjolaaGreatDoor
open Go.RowKit Go.BigFrame
open Nat renaming le_refl->l
open List renaming mem_singleton->f
open IntKind renaming i64->K
open Value renaming int->G,slice->P
open Go.Proofs.Tryz
section
open Go.Maps
def z0Q(xs:List ItemD)(zs:List ActD):List UndoD:=if(z0z xs zs).1=0 then unR xs zs else []
theorem z59{w w':World}{a:Option Addr}{cs:List Value}(h:Lies w a cs)(hs:w.heap.size≤w'.heap.size)(hb:∀x off,a=some ⟨x,off,none⟩→x<w.heap.size→w'.heap[x]?=w.heap[x]?):Lies w' a cs:=by
 rcases h with h|⟨b,off,ha,hlt,hc⟩
 ·exact Or.inl h
 ·refine Or.inr ⟨b,off,ha,by omega,?_⟩;intro i x hx;have h1:=hc i x hx;have e:=hb b off ha hlt;simp only[World.cell?]at h1⊢;rw[e];exact h1
theorem ItB.below{w w':World}{a:Option Addr}(h:ItB w a)(hb:Below w.heap.size w w'):ItB w' a:=by
 intro x off e;obtain⟨cs,hc⟩:=h x off e;exact⟨cs,(hb.block x (Array.getElem?_eq_some_iff.1 hc).1).trans hc⟩
theorem q4g(a:Option Addr)(cap:Nat)(xs:List ItemD)(tb ag:Nat)(i s q:Int)(ta:Option Addr)(tc:Nat)(zs:List ActD)(w:World)(h:ItemRow w a xs)(hN:z8S a xs.length cap)(hB:Box4 w tb ag (G K i) (G K s) (G K q) (P ta zs.length tc))(ht:ActRow w ta zs)(h8:xs.length≤8)(g:Good xs)(h2:txnF i s q zs=0):
  Calls Tryz.prog 197 #[P a xs.length cap,.pointer (some ⟨tb,ag,none⟩)] w fun e w'=>∃b c b2 c2,e=.returned (.agg #[G K (z0z xs zs).1,G K (runV xs zs),.slice b (z0Q xs zs).length c,.slice b2 (runR xs zs).length c2])∧
   OwnU w.heap.size w'.heap.size w' (.slice b (z0Q xs zs).length c) (.slice b2 (runR xs zs).length c2) (z0Q xs zs) (runR xs zs)∧Below w.heap.size w w':=by
 obtain⟨⟨bq,bP⟩,aD⟩:=z04 h2;have HA:Hid (∀a∈zs,actF a=0):=aD;clear h2 aD;have B0:=Blk.new w 251 #[G K 0,G K 0,P none 0 0,P none 0 0];have aL:Below w.heap.size w ((w.alloc (.cells #[G K 0,G K 0,P none 0 0,P none 0 0] 251)).alloc (.cells #[] 173)):=by go_grown
 have aT:=B0.below (w':=(w.alloc (.cells #[G K 0,G K 0,P none 0 0,P none 0 0] 251)).alloc (.cells #[] 173)) (by go_grown);have aR:=World.ownsRow_lit (size:=2) (e:=173) (w.alloc (.cells #[G K 0,G K 0,P none 0 0,P none 0 0] 251)) #[] 0 (l _) (by decide) rfl;rw[World.size_alloc]at aR;have bg:∀ (ops:Array Oper) (rest:List Oper) (o:Oper) (L:Act) (Q:Exit→Act→World→Prop) (ap:o.guard=none) (sx x:Operand) (ho:o.op=.call {callee:=.builtin .append,args:=#[sx,x],argTypes:=#[53,53]}) (hs:L.eval sx=P (some ⟨w.heap.size+1,0,none⟩) 0 0) (hx:L.eval x=P a xs.length cap)
   (hh:∀a' c' w',w'.ownsRow (w.heap.size+1) 173 2 (P a' xs.length c') xs.length (z0g xs)→Below (w.heap.size+1) ((w.alloc (.cells #[G K 0,G K 0,P none 0 0,P none 0 0] 251)).alloc (.cells #[] 173)) w'→wpList Tryz.prog ops Q rest (L.put o.dst (P a' xs.length c')) w'),wpList Tryz.prog ops Q (o::rest) L ((w.alloc (.cells #[G K 0,G K 0,P none 0 0,P none 0 0] 251)).alloc (.cells #[] 173)):=
  fun ops rest o L Q ap sx x ho hs hx hh=>z0G _ ap sx x ho (w.heap.size+1) (w.heap.size+1) hs aR a xs cap hx (h.below aL) hN (by omega) (by simp) hh
 go_enter func197,ntmps197
 go_wp2_with (at_builtin;refine bg _ _ _ _ _ rfl _ _ rfl rfl rfl ?_)
 intro a1 c1 w2 E aN;have aK:Below w.heap.size w w2:=aL.trans (aN.mono (by omega));replace B0:Blk w2 _ _ _:=(aN.block _ (by omega)).trans aT;clear bg aR aT aL aN;have bl:w.heap.size<w2.heap.size:=B0.lt;have aY:=z3c E;have ao:Below w2.heap.size w2 (w2.alloc (.cells #[G K 0,G K 0,P none 0 0,P none 0 0] 251)):=by go_grown
 have a8:ItemRow (w2.alloc (.cells #[G K 0,G K 0,P none 0 0,P none 0 0] 251)) a1 xs:=Lies.below (Lies.own E) ao;have aV:=(z7L E).below ao;have Bo:=Blk.new w2 251 #[G K 0,G K 0,P none 0 0,P none 0 0];replace B0:=B0.below ao;have ae:Below w.heap.size w (w2.alloc (.cells #[G K 0,G K 0,P none 0 0,P none 0 0] 251)):=aK.trans (ao.mono aK.size);obtain⟨b0,b1,b2,b3⟩:=hB;have bw:tb<w.heap.size:=World.block_lt_of_cell? w ⟨tb,ag,none⟩ b0;have c3:(w2.alloc (.cells #[G K 0,G K 0,P none 0 0,P none 0 0] 251)).cell? ⟨tb,ag+3,none⟩=_:=(ae.cell (p:=⟨tb,ag+3,none⟩) bw).trans b3;have bp:ActRow (w2.alloc (.cells #[G K 0,G K 0,P none 0 0,P none 0 0] 251)) ta zs:=ht.below ae;have aH:∀k,k<zs.length→∃b y,ta=some ⟨b,y,none⟩∧b<w.heap.size:=fun k hk=>by
  obtain⟨b,y,e,aO,_⟩:=ht.at k hk;exact⟨b,y,e,aO⟩
 have bL:(w2.alloc (.cells #[G K 0,G K 0,P none 0 0,P none 0 0] 251)).heap.size=w2.heap.size+1:=by simp
 clear h hN E b0 b1 b2 b3 ht ao aK
 go_wp2
 generalize w2.alloc (.cells #[G K 0,G K 0,P none 0 0,P none 0 0] 251)=w3 at*;generalize w2.heap.size=bo at*;go_loopw [5,7] (fun v j wr=>∃ (k:Nat) (d:List ItemD) (b:Option Addr) (c:Nat) (D:List UndoD) (ua:Option Addr) (uc:Nat),k≤zs.length∧j=G K k∧v=P b d.length c∧ItemRow wr b d∧z8S b d.length c∧ItB wr b∧d.length≤8∧D.length≤k∧Hid (Good d∧z0z d (zs.drop k)=z0z xs zs∧unR xs zs=D ++ unR d (zs.drop k)) ∧
  Blk wr bo 251 #[G K 0,G K 0,P ua D.length uc,P none 0 0]∧wr.ownsRow (bo + 1) 223 3 (P ua D.length uc) D.length (z0n D)∧Below bo w3 wr) (fun _ j _=>zs.length - (intOf j).toNat)
 case atStart=>exact⟨0,xs,a1,c1,[],none,0,Nat.zero_le _,rfl,rfl,a8,aY,aV,h8,Nat.zero_le _,⟨g,by simp,by simp⟩,Bo,World.ownsRow_nil _ _ _ _,Below.refl _ _⟩
 case round=>
  clear a8 aY aV Bo;obtain⟨k,d,nb,nc,D,ua,uc,hk,rfl,rfl,hR,a6,hI,bf,hD,HG,Bo,ho,hb⟩:=hrel;have bH:=Bo.lt;have d3:wr.cell? ⟨tb,ag+3,none⟩=_:=(hb.cell (p:=⟨tb,ag+3,none⟩) (by dsimp only;omega)).trans c3;by_cases az:k<zs.length
  ·obtain⟨b,y,rfl,aO⟩:=aH k az;obtain⟨b',bs,e,_,I,A,O⟩:=bp.at k az;simp only[Option.some.injEq,Addr.mk.injEq,and_true]at e;obtain⟨rfl,rfl⟩:=e;replace I:wr.cell? ⟨b,y+k*3,none⟩=_:=(hb.cell (p:=⟨b,y+k*3,none⟩) (by dsimp only;omega)).trans I;replace A:wr.cell? ⟨b,y+k*3+1,none⟩=_:=(hb.cell (p:=⟨b,y+k*3+1,none⟩) (by dsimp only;omega)).trans A;replace O:wr.cell? ⟨b,y+k*3+2,none⟩=_:=(hb.cell (p:=⟨b,y+k*3+2,none⟩) (by dsimp only;omega)).trans O;have ad:=HA.out (zs.getD k z0e) (by simp[List.getD,az]);have J:=fun w hR c0 c1 c2=>z8T nb nc d b (y+k*3) (zs.getD k z0e).kind (zs.getD k z0e).key (zs.getD k z0e).val w hR a6 bf HG.out.1 ad c0 c1 c2
   change∀w hR c0 c1 c2,Calls _ _ _ _ (z1O w nb d (zs.getD k z0e))at J;unfold z1O at J;have HD:Hid (z0z d (zs.getD k z0e::zs.drop (k+1))=z0z xs zs∧unR xs zs=D++unR d (zs.getD k z0e::zs.drop (k+1))):=by
    have:=HG.out.2;rw[z39 az]at this;exact this
   have X:Hid (unA d (zs.getD k z0e)=⟨(zs.getD k z0e).key,hasI d (zs.getD k z0e).key,valI d (zs.getD k z0e).key⟩):=rfl;have U:=fun w h=>z2s nb nc d (zs.getD k z0e).key w h (by omega)
   have M:=fun w h=>z7K nb nc d (zs.getD k z0e).key w h (by omega)
   generalize zs.getD k z0e=z at I A O J HD ad X U M;obtain⟨z0,z1,z2⟩:=z;dsimp only at I A O J X U M;generalize valI d z1=c at U X M;generalize hasI d z1=t at X M;replace ad:Hid _:=ad
   go_wp2_with fail
   refine z1k [some 31,some 32,some 33,some 34,some 35,some 36,some 37,some 38,some 39,some 40,some 41,some 42,some 43,some 44,some 45,some 46,some 47,some 48,some 9] (fun vs w'=>∃ (r:Int) (bx:Nat),vs=[.pointer (some ⟨b,y+k*3,none⟩),.pointer (some ⟨b,y+k*3,none⟩),.pointer (some ⟨b,y+k*3+1,none⟩),G K z1,P nb d.length nc,.pointer (some ⟨b,y+k*3,none⟩),.pointer (some ⟨b,y+k*3,none⟩),.pointer (some ⟨b,y+k*3+1,none⟩),G K z1,G K r,.bool t,P nb d.length nc,.pointer (some ⟨b,y+k*3,none⟩),.pointer (some ⟨b,y+k*3,none⟩),.pointer (some ⟨b,y+k*3+1,none⟩),G K z1,G K c,.agg #[G K z1,.bool t,G K c],.pointer (some ⟨bx,0,none⟩)]∧wr.heap.size≤bx∧Blk w' bx 223 #[G K z1,.bool t,G K c]∧Below wr.heap.size wr w') ?_ ?_
   ·have bd:∀ (w:World) (h:ItemRow w nb d),Calls Tryz.prog 227 #[P nb d.length nc,G K z1] w fun e w' => ∃ r:Int,e=.returned (G K r)∧decide (0≤r)=t∧w' = w:=fun w h=>(M w h).mono (by
     rintro e w' ⟨r,rfl,⟨rfl,hq,_⟩|⟨j,rfl,_,hq,_⟩,rfl⟩
     ·exact⟨_,rfl,by rw[hq];rfl,rfl⟩
     ·exact ⟨_,rfl,by rw [hq];simp,rfl⟩)
    clear M J HD X ad HG;have hW:Below wr.heap.size wr wr.drew:=(Below.refl _ _).drew;have aa:Nonempty (Lat wr):=⟨⟨wr,Below.refl _ _⟩⟩
    have bB:=z0a A;refine z0d (S:=fun w'=>∃u:Lat wr,w'=u.val) (by kernel_rfl) ?_;refine sgr [(0,9),(11,5)] 6 (by kernel_rfl) ⟨⟨_,hW⟩,rfl⟩ ?_;simp only[pkE];repeat go_big_quiet_step (fail)
    refine wpQuiet_nil ?_;clear bB;have C:Hid (wr.drew.heap.size=wr.heap.size):=(rfl:wr.drew.heap.size=wr.heap.size)
    generalize wr.drew=wd at hW C⊢;refine twa 9 18 5 (by kernel_rfl) ?_ ?_
    ·skip;refine opc 9 (some 40) 227 #[P nb d.length nc,G K z1] (by kernel_rfl) ?_;refine(bd _ (hR.below hW)).mono ?_;rintro e w' ⟨r,rfl,rfl,hw⟩;replace hw:=hw.symm;subst hw;refine⟨_,rfl,⟨⟨_,hW⟩,rfl⟩,?_⟩;try simp only[Act.put,pgE,pjE]
     refine sgr [(10,1)] 4 (by kernel_rfl) ⟨⟨_,hW⟩,rfl⟩ ?_;simp only[pkE];repeat go_big_quiet_step (fail)
     refine wpQuiet_nil ?_;refine twa 16 18 3 (by kernel_rfl) ?_ ?_
     ·skip;refine opc 16 (some 47) 226 #[P nb d.length nc,G K z1] (by kernel_rfl) ?_;refine(U _ (hR.below hW)).mono ?_;rintro e w' ⟨rfl,hw⟩;replace hw:=hw.symm;subst hw;refine⟨_,rfl,⟨⟨_,hW⟩,rfl⟩,?_⟩;simp only[Act.put,pgE,pjE];refine sgr [(17,1)] 2 (by kernel_rfl) ⟨⟨_,hW⟩,rfl⟩ ?_;simp only[pkE];repeat go_big_quiet_step (fail)
      refine wpQuiet_nil ?_;refine ona 18 1 rfl (by kernel_rfl) ?_;have af:Below wd.heap.size wd (wd.alloc (.cells #[G K 0,.bool false,G K 0] 223)):=by go_grown
      have Bz:=Blk.new wd 223 #[G K 0,.bool false,G K 0];replace hW:=hW.trans (af.mono hW.size);clear af
      go_wp2
      refine ThenGo.to ⟨⟨⟨_,hW⟩,rfl⟩,?_⟩;generalize wd.alloc (.cells #[G K 0,.bool false,G K 0] 223)=Y at hW Bz⊢;refine ona 19 0 rfl (by kernel_rfl) ?_;obtain⟨p0,p1,p2⟩:=Bz.cel3;obtain⟨f0,f1,f2⟩:=Bz.frz3;have ab:=((hW.setCell (p:=⟨wd.heap.size,0,none⟩) (by have:=C.out;dsimp only;omega) (G K z1)).setCell (p:=⟨wd.heap.size,1,none⟩) (by have:=C.out;dsimp only;omega) (.bool (decide ((0:Int)≤r)))).setCell (p:=⟨wd.heap.size,2,none⟩) (by have:=C.out;dsimp only;omega) (G K c);have am:=((Bz.set 0 (G K z1)).set 1 (.bool (decide ((0:Int)≤r)))).set 2 (G K c);clear aa
      go_wp2
      refine ThenGo.to ⟨⟨⟨_,ab⟩,rfl⟩,?_⟩;refine z0h (by kernel_rfl) ?_;exact⟨rfl,_,⟨r,_,rfl,(by have:=C.out;omega),am,ab⟩,by kernel_rfl⟩
     ·skip;refine z1P 18 _ rfl ?_;have af:Below wd.heap.size wd (wd.alloc (.cells #[G K 0,.bool false,G K 0] 223)):=by go_grown
      have Bz:=Blk.new wd 223 #[G K 0,.bool false,G K 0];replace hW:=hW.trans (af.mono hW.size);clear af
      go_wp2
      refine ThenGo.to ⟨⟨⟨_,hW⟩,rfl⟩,?_⟩;generalize wd.alloc (.cells #[G K 0,.bool false,G K 0] 223)=Y at hW Bz⊢;refine cla 16 (some 47) 226 #[P nb d.length nc,G K z1] 2 (by kernel_rfl) ?_;refine(U _ (hR.below hW)).mono ?_;rintro e w' ⟨rfl,hw⟩;replace hw:=hw.symm;subst hw;refine⟨_,rfl,⟨⟨_,hW⟩,rfl⟩,?_⟩;simp only[Act.put,pgE,pjE];refine sgr [(17,1)] 1 (by kernel_rfl) ⟨⟨_,hW⟩,rfl⟩ ?_;simp only[pkE];repeat go_big_quiet_step (fail)
      refine wpQuiet_nil ?_;refine ona 19 0 rfl (by kernel_rfl) ?_;obtain⟨p0,p1,p2⟩:=Bz.cel3;obtain⟨f0,f1,f2⟩:=Bz.frz3;have ab:=((hW.setCell (p:=⟨wd.heap.size,0,none⟩) (by have:=C.out;dsimp only;omega) (G K z1)).setCell (p:=⟨wd.heap.size,1,none⟩) (by have:=C.out;dsimp only;omega) (.bool (decide ((0:Int)≤r)))).setCell (p:=⟨wd.heap.size,2,none⟩) (by have:=C.out;dsimp only;omega) (G K c);have am:=((Bz.set 0 (G K z1)).set 1 (.bool (decide ((0:Int)≤r)))).set 2 (G K c);clear aa
      go_wp2
      refine ThenGo.to ⟨⟨⟨_,ab⟩,rfl⟩,?_⟩;refine z0h (by kernel_rfl) ?_;exact⟨rfl,_,⟨r,_,rfl,(by have:=C.out;omega),am,ab⟩,by kernel_rfl⟩
    ·skip;refine z1P 18 _ rfl ?_;have af:Below wd.heap.size wd (wd.alloc (.cells #[G K 0,.bool false,G K 0] 223)):=by go_grown
     have Bz:=Blk.new wd 223 #[G K 0,.bool false,G K 0];replace hW:=hW.trans (af.mono hW.size);clear af
     go_wp2
     refine ThenGo.to ⟨⟨⟨_,hW⟩,rfl⟩,?_⟩;generalize wd.alloc (.cells #[G K 0,.bool false,G K 0] 223)=Y at hW Bz⊢;refine cla 9 (some 40) 227 #[P nb d.length nc,G K z1] 4 (by kernel_rfl) ?_;refine(bd _ (hR.below hW)).mono ?_;rintro e w' ⟨r,rfl,rfl,hw⟩;replace hw:=hw.symm;subst hw;refine⟨_,rfl,⟨⟨_,hW⟩,rfl⟩,?_⟩;try simp only[Act.put,pgE,pjE]
     refine sgr [(10,1)] 3 (by kernel_rfl) ⟨⟨_,hW⟩,rfl⟩ ?_;simp only[pkE];repeat go_big_quiet_step (fail)
     refine wpQuiet_nil ?_;refine cla 16 (some 47) 226 #[P nb d.length nc,G K z1] 2 (by kernel_rfl) ?_;refine(U _ (hR.below hW)).mono ?_;rintro e w' ⟨rfl,hw⟩;replace hw:=hw.symm;subst hw;refine⟨_,rfl,⟨⟨_,hW⟩,rfl⟩,?_⟩;simp only[Act.put,pgE,pjE];refine sgr [(17,1)] 1 (by kernel_rfl) ⟨⟨_,hW⟩,rfl⟩ ?_;simp only[pkE];repeat go_big_quiet_step (fail)
     refine wpQuiet_nil ?_;refine ona 19 0 rfl (by kernel_rfl) ?_;obtain⟨p0,p1,p2⟩:=Bz.cel3;obtain⟨f0,f1,f2⟩:=Bz.frz3;have ab:=((hW.setCell (p:=⟨wd.heap.size,0,none⟩) (by have:=C.out;dsimp only;omega) (G K z1)).setCell (p:=⟨wd.heap.size,1,none⟩) (by have:=C.out;dsimp only;omega) (.bool (decide ((0:Int)≤r)))).setCell (p:=⟨wd.heap.size,2,none⟩) (by have:=C.out;dsimp only;omega) (G K c);have am:=((Bz.set 0 (G K z1)).set 1 (.bool (decide ((0:Int)≤r)))).set 2 (G K c);clear aa
     go_wp2
     refine ThenGo.to ⟨⟨⟨_,ab⟩,rfl⟩,?_⟩;refine z0h (by kernel_rfl) ?_;exact⟨rfl,_,⟨r,_,rfl,(by have:=C.out;omega),am,ab⟩,by kernel_rfl⟩
   rintro vs w6 ⟨r,bx,rfl,bJ,Bu,hW⟩;simp only[z1Q,Act.put,pjE];clear M U;have aS:b<wr.heap.size:=by omega
   replace I:=(hW.cell (p:=⟨b,y+k*3,none⟩) aS).trans I;replace A:=(hW.cell (p:=⟨b,y+k*3+1,none⟩) aS).trans A;replace O:=(hW.cell (p:=⟨b,y+k*3+2,none⟩) aS).trans O;by_cases hF:actC d ⟨z0,z1,z2⟩=0
   ·obtain⟨aQ,bj⟩:=z3b bf HG.out.1 ad.out hF;have W:Hid (Good (actN d ⟨z0,z1,z2⟩)∧z0z (actN d ⟨z0,z1,z2⟩) (zs.drop (k + 1))=z0z xs zs∧unR xs zs=D ++ ((if z0=4 then [] else [unA d ⟨z0,z1,z2⟩]) ++ unR (actN d ⟨z0,z1,z2⟩) (zs.drop (k + 1)))):=⟨bj,by
     have:=HD.out.1;rw[z1V,if_pos hF]at this;exact this,by
     have:=HD.out.2;rw[q0z]at this;exact this⟩
    rw[hF]at J;clear HD bj HG ad hF;generalize actN d ⟨z0,z1,z2⟩=nx at J W aQ;generalize unA d ⟨z0,z1,z2⟩=uu at W X;have bn:=hW.size
    go_wp2_with fail
    refine(J _ (hR.below hW) I A O).mono ?_;rintro e w7 ⟨b5,n5,c5,rfl,aZ,N⟩;obtain⟨rfl,ax,ah,aW⟩:=aZ (by first|trivial|rfl);have bu:b<w6.heap.size:=by omega
    replace I:=(N.cell (p:=⟨b,y+k*3,none⟩) bu).trans I;replace hI:=(hI.below hW).below N;have aw:ItB w7 b5:=by
     rcases aW with e|h
     ·rw[e];exact hI
     ·exact h
    replace Bo:=(Bo.below hW).below N;have bI:=Bu.lt;replace Bu:=Bu.below N;replace ho:=z0c (z0c ho hW) N;replace hb:=(hb.trans (hW.mono (by omega))).trans (N.mono (by omega));have bG:=N.size;clear aW aZ J hW N hR d3 hI A O;by_cases h4:z0=4
    ·subst h4;have bv:((4:Int) !=4)=false:=by decide
     have aI:Hid (Good nx∧z0z nx (zs.drop (k+1))=z0z xs zs∧unR xs zs=D++unR nx (zs.drop (k+1))):=⟨W.out.1,W.out.2.1,by simpa using W.out.2.2⟩
     have RR:Hid (_∧_∧_∧_∧_∧_):=⟨ax,ah,aw,Bo,ho,hb⟩
     clear ax ah aw Bo ho hb Bu
     go_wp2
     go_roundw
     case rel=>exact⟨k+1,nx,b5,c5,D,ua,uc,by omega,by go_num,rfl,RR.out.1,RR.out.2.1,RR.out.2.2.1,aQ,by omega,aI,RR.out.2.2.2.1,RR.out.2.2.2.2.1,RR.out.2.2.2.2.2⟩
     case measure=>simp[intOf];omega
    ·have bv:(z0 !=4)=true:=by simpa using h4
     have aI:Hid (Good nx∧z0z nx (zs.drop (k + 1))=z0z xs zs∧unR xs zs=(D ++ [⟨z1,t,c⟩]) ++ unR nx (zs.drop (k + 1))):=⟨W.out.1,W.out.2.1,by
      have:=W.out.2.2;rw[if_neg h4,X.out]at this;simpa using this⟩
     clear W X h4;obtain⟨i0,hi,bz,bq,bA⟩:=info_parts z5c;have aj:Below w7.heap.size w7 (w7.alloc (.cells #[G K z1,.bool t,G K c] 223)):=by go_grown
     have aq:=z0c ho aj;have aU:=Bo.below aj;have aC:=ax.below aj;have an:=aw.below aj;have bO:(w7.alloc (.cells #[G K z1,.bool t,G K c] 223)).heap.size=w7.heap.size+1:=by simp
     have p2:=Bo.cell 2 _ rfl;obtain⟨q0,q1,q2⟩:=Bu.cel3
     go_wp2_with (at_builtin;refine wpList_append_own _ rfl _ _ 175 rfl (bo+1) 223 i0 (.agg #[G K 0,.bool false,G K 0]) 3 24 Tryz.underlying175 hi bz bq bA rfl (by decide) _ D.length (z0n D) rfl aq ⟨w7.heap.size,0,none⟩ 1 1 [G K z1,.bool t,G K c] rfl rfl ?c1 ?c2 ?c3 ?c4 ?c5 ?_)
     all_goals try(case c1=>intro j u hj;match j,hj with|0,hj=>simp at hj;subst hj;simp[Addr.add]|1,hj=>simp at hj;subst hj;simp[Addr.add]|2,hj=>simp at hj;subst hj;simp[Addr.add])
     all_goals try(case c2=>first|rfl|exact⟨rfl,rfl,rfl⟩|(intro u hu;simp at hu;rcases hu with rfl|rfl|rfl<;>rfl))
     all_goals try(case c3=>unfold maxLen;omega)
     all_goals try(case c4=>omega)
     all_goals try(case c5=>first|omega|(simp;omega))
     intro v' w8 E T _;obtain⟨a2,c2,rfl⟩:=z0f E;clear p2 q0 q1 q2;have aG:=z97 aq (b:=bo) (Or.inl (by omega));have al:=aU.grown T aG;have bc:Below bo w7 w8:=(aj.mono (by omega)).grown T (by omega) (fun j hj=>by have:=(aq.lt j hj).1;omega);have aP:∀x y,b5=some ⟨x,y,none⟩→x<(w7.alloc (.cells #[G K z1,.bool t,G K c] 223)).heap.size→w8.heap[x]?=(w7.alloc (.cells #[G K z1,.bool t,G K c] 223)).heap[x]?:=by
      intro x y e hx;refine T.block x hx ?_;intro e2;obtain⟨cs,V⟩:=an x y e;rcases aq.2 with⟨hv,_⟩|⟨g',bC,bD,hv,_,hh,_⟩
      ·rw[hv]at e2;simp[Value.ownBlock]at e2
      ·rw[hv]at e2;simp only[Value.ownBlock,Option.some.injEq]at e2;subst e2;rw[V]at hh;simp at hh
     have ba:ItemRow w8 b5 nx:=z59 aC T.size aP;have aJ:ItB w8 b5:=by
      intro x y e;obtain⟨cs,V⟩:=an x y e;exact⟨cs,(aP x y e (Array.getElem?_eq_some_iff.1 V).1).trans V⟩
     have ak:∀x y,b5=some ⟨x,y,none⟩→x≠bo:=by
      intro x y e e2;obtain⟨cs,V⟩:=aJ x y e;subst e2;have:=al;unfold Blk at this;rw[V]at this;simp at this
     have bb:ItemRow (w8.setCell ⟨bo,2,none⟩ (P a2 (D.length+1) c2)) b5 nx:=z59 ba (by simp[World.setCell]) (fun x y e hx=>Below.heap_setCell _ _ _ _ (by have:=ak x y e;dsimp only;omega));have aX:ItB (w8.setCell ⟨bo,2,none⟩ (P a2 (D.length+1) c2)) b5:=by
      intro x y e;obtain⟨cs,V⟩:=aJ x y e;exact⟨cs,(Below.heap_setCell _ _ _ _ (by have:=ak x y e;dsimp only;omega)).trans V⟩
     have av:=al.set 2 (P a2 (D.length+1) c2);have ar:=ownsRow_setCell_below (a:=⟨bo,2,none⟩) E (by dsimp only;omega) (P a2 (D.length+1) c2);have be:=(hb.trans bc).setCell (p:=⟨bo,2,none⟩) (l _) (P a2 (D.length+1) c2);have p2:=al.cell 2 _ rfl;have f2:=al.frozen 2;have RR:Hid (_∧_∧_∧_∧_∧_):=⟨bb,ah,aX,av,ar,be⟩
     clear bb ah aX av ar be ba aJ ax aw Bo ho hb Bu aU aq aC an bc aP ak T E al aj aG
     go_wp2
     go_roundw
     case rel=>
      refine⟨k+1,nx,b5,c5,D++[⟨z1,t,c⟩],a2,c2,by omega,by go_num,rfl,RR.out.1,RR.out.2.1,RR.out.2.2.1,aQ,by simp;omega,aI,?_,?_,RR.out.2.2.2.2.2⟩
      ·simpa using RR.out.2.2.2.1
      ·rw[z3s];simpa using RR.out.2.2.2.2.1
     case measure=>simp[intOf];omega
   ·have HE:Hid ((z0z xs zs).1=actC d ⟨z0,z1,z2⟩∧runR xs zs=[]∧runV xs zs=0∧z0Q xs zs=[]):=by
     have hh:=HD.out.1;rw[z1V,if_neg hF]at hh;refine⟨by rw[←hh],?_,?_,?_⟩
     ·unfold runR;rw[←hh];exact if_neg hF
     ·unfold runV;rw[←hh];exact if_neg hF
     ·unfold z0Q;rw[←hh];exact if_neg hF
    have aa:(actC d ⟨z0,z1,z2⟩ !=0)=true:=by simpa using hF
    clear HD HG ad hF X Bu;generalize actC d ⟨z0,z1,z2⟩=rc at J HE aa;have bF:=aa;clear aa
    go_wp2_with fail
    refine(J _ (hR.below hW) I A O).mono ?_;rintro e w7 ⟨b5,n5,c5,rfl,_,N⟩;have bn:=hW.size;have Z:=(hb.trans (hW.mono (by omega))).trans (N.mono (by omega));have ai:Blk w7 _ _ _:=(Z.block _ bl).trans B0;have ay:Below w.heap.size w w7:=ae.trans (Z.mono (by omega));obtain⟨p0,p1,p2,p3⟩:=ai.cel4;obtain⟨f0,f1,f2,f3⟩:=ai.frz4;clear J hb N d3 B0 ai hW Z hR Bo ho
    go_wp2
    refine bodyPost_ret (v:=.agg #[G K rc,G K 0,P none 0 0,P none 0 0]) (by simp[results,results197,go_sem,p0,p1,p2,p3]) rfl ?_;rw[HE.out.1,HE.out.2.1,HE.out.2.2.1,HE.out.2.2.2];refine⟨_,_,_,_,rfl,⟨OwnS.of (World.ownsRow_nil _ _ _ _),OwnS.of (World.ownsRow_nil _ _ _ _),Or.inl rfl⟩,?_⟩;repeat' (refine Below.setCell ?_ (by dsimp only;omega) _)
    exact ay
  ·have bi:k=zs.length:=by omega
   have HC:Hid (z0z xs zs=(0,d)∧unR xs zs=D):=by
    have:=HG.out.2;rw[bi,List.drop_length]at this;exact⟨this.1.symm,by simpa[unR]using this.2⟩
   subst bi;obtain⟨n,hn⟩:∃n,zs.length=n+1:=⟨zs.length-1,by omega⟩
   obtain⟨b,y,rfl,aO⟩:=aH n (by omega);obtain⟨b',bs,e,_,I,A,O⟩:=bp.at n (by omega);simp only[Option.some.injEq,Addr.mk.injEq,and_true]at e;obtain⟨rfl,rfl⟩:=e;replace A:wr.cell? ⟨b,y+n*3+1,none⟩=_:=(hb.cell (p:=⟨b,y+n*3+1,none⟩) (by dsimp only;omega)).trans A;have HL:Hid (z52 zs=(zs.getD n z0e).key):=by
    show _=_;unfold z52;rw[hn,Nat.add_sub_cancel]
   generalize (zs.getD n z0e).key=kk at A HL;have U:=fun w h=>z2s nb nc d kk w h (by omega)
   have HE:Hid ((z0z xs zs).1=0∧runR xs zs=d∧runV xs zs=valI d kk∧z0Q xs zs=D):=by
    have hh:=HC.out.1;refine⟨by rw[hh],?_,?_,?_⟩
    ·unfold runR;rw[hh];exact if_pos rfl
    ·unfold runV;rw[hh,HL.out];exact if_pos rfl
    ·unfold z0Q;rw[hh,HC.out.2];exact if_pos rfl
   generalize valI d kk=vv at U HE;have bm:(zs.length:Int)-1=(n:Int):=by omega
   have bK:n<zs.length:=by omega
   have hW:Below wr.heap.size wr wr.drew:=(Below.refl _ _).drew;have aa:Nonempty (Lat wr):=⟨⟨wr,Below.refl _ _⟩⟩
   have k0:=z0a A;have k1:=z0a d3;clear hn I O A HC HG HL c3
   go_wp2_with fail
   refine z3X (S:=fun w'=>∃u:Lat wr,w'=u.val) (R:=fun _ _=>False) 16 (by kernel_rfl) (fun _ _ _ _ h=>h.elim) ?_;refine sgX [(0,9)] 8 (by kernel_rfl) ⟨⟨_,hW⟩,rfl⟩ ?_;simp only[pkE];repeat go_big_quiet_step (fail)
   refine wpQuiet_nil ?_;generalize wr.drew=wd at hW⊢;refine onX 9 7 rfl (by kernel_rfl) ?_
   go_wp2
   refine ThenX.to ⟨Or.inr ⟨⟨_,hW⟩,rfl⟩,?_⟩;refine sgX [(10,4)] 3 (by kernel_rfl) ⟨⟨_,hW⟩,rfl⟩ ?_;simp only[pkE];repeat go_big_quiet_step (fail)
   refine wpQuiet_nil ?_;clear k0 k1 bm;refine clX 14 (some 85) 226 #[P nb d.length nc,G K kk] 2 (by kernel_rfl) rfl ?_;refine(U _ (hR.below hW)).mono ?_;rintro e w' ⟨rfl,hw⟩;replace hw:=hw.symm;subst hw;refine Or.inl ⟨_,rfl,⟨⟨_,hW⟩,rfl⟩,?_⟩;simp only[Act.put,pgE,pjE];refine onX 15 1 rfl (by kernel_rfl) ?_
   go_wp2
   refine ThenX.to ⟨Or.inr ⟨⟨_,hW⟩,rfl⟩,?_⟩;refine onX 16 0 rfl (by kernel_rfl) ?_;replace Bo:=Bo.below hW;replace ho:=z0c ho hW;replace hR:=hR.below hW;replace hI:=hI.below hW;replace hb:=hb.trans (hW.mono (by omega));have p1:=Bo.cell 1 _ rfl;have f1:=Bo.frozen 1
   go_wp2
   refine ThenX.to ⟨Or.inl (by kernel_rfl),?_⟩;refine q31 (by kernel_rfl) ?_;clear p1 f1 hW aa U d3;have ak:∀x y,nb=some ⟨x,y,none⟩→x≠bo:=by
    intro x y e e2;obtain⟨cs,V⟩:=hI x y e;subst e2;have:=Bo;unfold Blk at this;rw[V]at this;simp at this
   replace hR:ItemRow (wd.setCell ⟨bo,1,none⟩ (G K vv)) nb d:=z59 hR (by simp[World.setCell]) (fun x y e hx=>Below.heap_setCell _ _ _ _ (by have:=ak x y e;dsimp only;omega));replace Bo:=Bo.set 1 (G K vv);replace ho:=ownsRow_setCell_below (a:=⟨bo,1,none⟩) ho (by dsimp only;omega) (G K vv);replace hb:=hb.setCell (p:=⟨bo,1,none⟩) (l _) (G K vv);clear hI ak;generalize wd.setCell ⟨bo,1,none⟩ (G K vv)=w5 at hR Bo ho hb⊢;have bM:=Bo.lt;have aM:Below w5.heap.size w5 (w5.alloc (.cells #[] 173)):=by go_grown
   have bk:=World.ownsRow_lit (size:=2) (e:=173) w5 #[] 0 (l _) (by decide) rfl;have bh:∀ (ops:Array Oper) (rest:List Oper) (o:Oper) (L:Act) (Q:Exit→Act→World→Prop) (ap:o.guard=none) (sx x:Operand) (ho:o.op=.call {callee:=.builtin .append,args:=#[sx,x],argTypes:=#[53,53]}) (hs:L.eval sx=P (some ⟨w5.heap.size,0,none⟩) 0 0) (hx:L.eval x=P nb d.length nc)
     (hh:∀a' c' w',w'.ownsRow w5.heap.size 173 2 (P a' d.length c') d.length (z0g d)→Below w5.heap.size (w5.alloc (.cells #[] 173)) w'→wpList Tryz.prog ops Q rest (L.put o.dst (P a' d.length c')) w'),wpList Tryz.prog ops Q (o::rest) L (w5.alloc (.cells #[] 173)):=
    fun ops rest o L Q ap sx x ho hs hx hh=>z0G _ ap sx x ho w5.heap.size w5.heap.size hs bk nb d nc hx (hR.below aM) a6 (by omega) (by simp) hh
   go_wp2_with (at_builtin;refine bh _ _ _ _ _ rfl _ _ rfl rfl rfl ?_)
   intro a7 c7 w7 o7 aE;have Z:Below w5.heap.size w5 w7:=aM.trans aE;have bt:=z6F ho o7 (l _);replace Bo:=Bo.below Z;replace ho:=z0c ho Z;replace hb:=hb.trans (Z.mono (by omega));have ai:Blk w7 _ _ _:=(hb.block _ bl).trans B0;have ay:Below w.heap.size w w7:=ae.trans (hb.mono (by omega));have bN:=Z.size;clear bh bk aM aE Z hb hR B0 ae;have nU:∀j,(Value.slice ua D.length uc).ownBlock=some j→j≠bo:=fun j hj=>by have:=(ho.lt j hj).1;omega
   have aB:∀j,(Value.slice ua D.length uc).ownBlock=some j→j≠w.heap.size:=fun j hj=>by have:=(ho.lt j hj).1;omega
   have nI:∀j,(Value.slice a7 d.length c7).ownBlock=some j→j≠bo:=fun j hj=>by have:=(o7.lt j hj).1;omega
   have aA:∀j,(Value.slice a7 d.length c7).ownBlock=some j→j≠w.heap.size:=fun j hj=>by have:=(o7.lt j hj).1;omega
   have p3:=Bo.cell 3 _ rfl;have f3:=Bo.frozen 3;obtain⟨q0,q1,q2⟩:=Bo.cel3;have av:=Bo.set 3 (P a7 d.length c7);have au:Blk (w7.setCell ⟨bo,3,none⟩ (P a7 d.length c7)) w.heap.size 251 #[G K 0,G K 0,P none 0 0,P none 0 0]:=(Below.heap_setCell _ _ _ _ (by dsimp only;omega)).trans ai;have ar:=z0i (j:=3) (u:=P a7 d.length c7) ho nU;have br:=z0i (j:=3) (u:=P a7 d.length c7) o7 nI;have aF:=ay.setCell (p:=⟨bo,3,none⟩) (by dsimp only;omega) (P a7 d.length c7);obtain⟨r0,r1,r2,r3⟩:=au.cel4;obtain⟨g0,g1,g2,g3⟩:=au.frz4;have bE:=au.lt;have RR:Hid (_∧_∧_):=⟨ar,br,aF⟩
   clear Bo ai ho o7 ay au ar br aF av
   go_wp2
   refine bodyPost_ret (v:=.agg #[G K 0,G K vv,P ua D.length uc,P a7 d.length c7]) (by simp[results,results197,go_sem,r0,r1,r2,r3]) rfl ?_;rw[HE.out.1,HE.out.2.1,HE.out.2.2.1,HE.out.2.2.2];refine⟨_,_,_,_,rfl,⟨OwnS.of (z0r (z0i (z0i (z0i (z0i RR.out.1 aB) aB) aB) aB) (by omega)),OwnS.of (z0r (z0i (z0i (z0i (z0i RR.out.2.1 aA) aA) aA) aA) (by omega)),bt⟩,?_⟩;refine Below.setCell (Below.setCell (Below.setCell (Below.setCell RR.out.2.2 ?_ _) ?_ _) ?_ _) ?_ _<;>exact l _
def nextI(xs:List ItemD)(t:TxnD):List ItemD:=if(z0z xs t.acts).1=0 then(z0z xs t.acts).2 else xs
def allI:List ItemD→List TxnD→List ItemD
 |xs,[]=>xs
 |xs,t::r=>allI (nextI xs t) r
def z6a:List ItemD→List TxnD→List Int
 |_,[]=>[]
 |xs,t::r=>(z0z xs t.acts).1::z6a (nextI xs t) r
def z6b:List ItemD→List TxnD→List Int
 |_,[]=>[]
 |xs,t::r=>runV xs t.acts::z6b (nextI xs t) r
theorem z1B{xs:List ItemD}{t:TxnD}(hl:xs.length≤8)(g:Good xs)(ht:t.F=0):(nextI xs t).length≤8∧Good (nextI xs t):=by
 unfold nextI;split
 ·rename_i h;exact q0x hl g (z04 ht).2 h
 ·exact⟨hl,g⟩
theorem z1J:∀ {ds:List TxnD} {xs:List ItemD},xs.length≤8→Good xs→(∀t∈ds,t.F=0)→(allI xs ds).length≤8∧Good (allI xs ds)
 |[],xs,hl,g,_=>⟨hl,g⟩
 |t::r,xs,hl,g,ht=>by
  obtain⟨h1,h2⟩:=z1B hl g (ht t (by simp));exact z1J (ds:=r) (xs:=nextI xs t) h1 h2 (fun u hu=>ht u (by simp[hu]))
theorem z8V:∀ {ds:List TxnD},allF ds=0→∀t∈ds,t.F=0
 |[],_,t,h=>by simp at h
 |x::r,h,t,ht=>by
  simp only[allF]at h;by_cases hx:x.F=0
  ·rw[if_pos hx]at h;rcases List.mem_cons.1 ht with rfl|ht
   ·exact hx
   ·exact z8V h t ht
  ·rw[if_neg hx]at h;exact absurd h hx
theorem q4h{ds:List TxnD}(h:z85 ds=0):ds.length≤60∧∀t∈ds,t.F=0:=by
 have h60:=q3I h;unfold z85 at h;rw[if_neg (by omega)]at h;exact⟨h60,z8V h⟩
def eaC(xs:List ItemD)(ds:List TxnD):Int:=if itemsF xs≠0 then itemsF xs else z85 ds
def q5B(xs:List ItemD)(ds:List TxnD):List Int:=if eaC xs ds=0 then z6a xs ds else []
def q5C(xs:List ItemD)(ds:List TxnD):List Int:=if eaC xs ds=0 then z6b xs ds else []
def eaI(xs:List ItemD)(ds:List TxnD):List ItemD:=if eaC xs ds=0 then allI xs ds else []
theorem q6v{xs:List ItemD}{ds:List TxnD}(h:itemsF xs=0)(h2:z85 ds=0):eaC xs ds=0∧q5B xs ds=z6a xs ds∧q5C xs ds=z6b xs ds∧eaI xs ds=allI xs ds:=by
 have e:eaC xs ds=0:=by simp[eaC,h,h2]
 exact⟨e,by simp[q5B,e],by simp[q5C,e],by simp[eaI,e]⟩
theorem q4i{ds:List TxnD}{k:Nat}(h:k<ds.length):ds.drop k=ds.getD k z0m::ds.drop (k+1):=by
 have e:ds.getD k z0m=ds[k]:=by simp[List.getD,h]
 rw[List.drop_eq_getElem_cons h,e]
theorem Apart3.nil:Apart3 (P none 0 0) (P none 0 0) (P none 0 0):=⟨Or.inl rfl,Or.inl rfl,Or.inl rfl⟩
theorem Apart3.grow1{w:World}{s1 s2 s3 s1':Value}(h:Apart3 s1 s2 s3)(hl:s1'.ownBlock=s1.ownBlock∨s1'.ownBlock=some w.heap.size)(h2:∀g,s2.ownBlock=some g→g<w.heap.size)(h3:∀g,s3.ownBlock=some g→g<w.heap.size):Apart3 s1' s2 s3:=by
 rcases hl with e|e
 ·exact⟨by rw[e];exact h.a12,by rw[e];exact h.a13,h.a23⟩
 ·exact⟨Or.inr (by rw[e];intro k;have:=h2 _ k.symm;omega),Or.inr (by rw[e];intro k;have:=h3 _ k.symm;omega),h.a23⟩
theorem Apart3.grow2{w:World}{s1 s2 s3 s2':Value}(h:Apart3 s1 s2 s3)(hl:s2'.ownBlock=s2.ownBlock∨s2'.ownBlock=some w.heap.size)(h1:∀g,s1.ownBlock=some g→g<w.heap.size)(h3:∀g,s3.ownBlock=some g→g<w.heap.size):Apart3 s1 s2' s3:=by
 rcases hl with e|e
 ·exact⟨by rw[e];exact h.a12,h.a13,by rw[e];exact h.a23⟩
 ·refine⟨z7r (Or.inr ?_),h.a13,Or.inr ?_⟩
  ·rw[e];intro k;have:=h1 _ k.symm;omega
  ·rw[e];intro k;have:=h3 _ k.symm;omega
end
def z0O:List ItemD→List TxnD→List (TxnD × Int × Int × List UndoD)
 |_,[]=>[]
 |xs,t::r=>(t,(z0z xs t.acts).1,runV xs t.acts,z0Q xs t.acts)::z0O (nextI xs t) r
theorem z3d:∀ (ds:List TxnD) (xs:List ItemD) (t:TxnD),z0O xs (ds++[t])=z0O xs ds++[(t,(z0z (allI xs ds) t.acts).1,runV (allI xs ds) t.acts,z0Q (allI xs ds) t.acts)]
 |[],_,_=>rfl
 |d::r,xs,t=>by
  simp only[List.cons_append,z0O,allI];rw[z3d r]
theorem z4a:∀ (ds:List TxnD) (xs:List ItemD) (t:TxnD),allI xs (ds++[t])=nextI (allI xs ds) t
 |[],_,_=>rfl
 |d::r,xs,t=>by
  simp only[List.cons_append,allI];exact z4a r _ t
def DeedQ.t(p:DeedQ):TxnD:=⟨p.i,p.s,p.q,p.acts⟩
def DeedQ.e4(p:DeedQ):TxnD × Int × Int × List UndoD:=(p.t,p.code,p.val,p.us)
theorem du9{xs:List ItemD}{t:TxnD}(hl:xs.length≤8)(g:Good xs)(ht:t.F=0):exC xs t.id t.session t.seq t.acts=(z0z xs t.acts).1∧exV xs t.id t.session t.seq t.acts=runV xs t.acts∧duU xs t.id t.session t.seq t.acts=z0Q xs t.acts∧exR xs t.id t.session t.seq t.acts=runR xs t.acts:=by
 have h1:=q20 hl g;have h2:txnF t.id t.session t.seq t.acts=0:=ht;have e:exC xs t.id t.session t.seq t.acts=(z0z xs t.acts).1:=by
  unfold exC;rw[if_neg (by simp[h1]),if_neg (by simp[h2])]
 refine⟨e,?_,?_,?_⟩
 ·unfold exV runV;rw[e]
 ·unfold duU z0Q;rw[e]
 ·unfold exR runR;rw[e]
theorem z2R{e n lo hi:Nat}{w:World}{v:Value}{m:Nat}{xs:List Value}(h:OwnS e n lo hi w v m xs):w.ownsRow 0 e n v m xs∧∀k∈blk v,lo≤k:=z0y h.1
theorem z6c:itemsF ([]:List ItemD)=0:=by decide
theorem z4b:Good ([]:List ItemD):=(z37 z6c).2
theorem q3f(ia:Option Addr)(ic:Nat)(xs:List ItemD)(i s q:Int)(ta:Option Addr)(tc:Nat)(zs:List ActD)(w:World)(h:itemK.At w (P ia xs.length ic) xs)(ht:actK.At w (P ta zs.length tc) zs)(hl:xs.length≤8)(g:Good xs)(hF:(⟨i,s,q,zs⟩:TxnD).F=0):
  Calls Tryz.prog 175 #[P ia xs.length ic,.agg #[G K i,G K s,G K q,P ta zs.length tc]] w fun e w'=>∃b c b2 c2,e=.returned (.agg #[G K (z0z xs zs).1,G K (runV xs zs),.slice b (z0Q xs zs).length c,.slice b2 (runR xs zs).length c2])∧
   undoK.Own w' (.slice b (z0Q xs zs).length c) (z0Q xs zs)∧itemK.Own w' (.slice b2 (runR xs zs).length c2) (runR xs zs)∧(∀k∈blk (.slice b (z0Q xs zs).length c),w.heap.size≤k)∧(∀k∈blk (.slice b2 (runR xs zs).length c2),w.heap.size≤k)∧Below w.heap.size w w':=by
 obtain⟨e1,e2,e3,e4⟩:=du9 (t:=⟨i,s,q,zs⟩) hl g hF;have hz:=(z04 (show txnF i s q zs=0 from hF)).1;have hq:=z6x ia ic xs i s q ta tc zs w (z05 h).2 (z0Z ht).2 (by omega) (by omega);dsimp only at e1 e2 e3 e4;rw[e1,e2,e3,e4]at hq;refine hq.mono ?_;rintro e w' ⟨b,c,b2,c2,rfl,hU,hb⟩;obtain⟨o1,l1⟩:=z2R hU.o1;obtain⟨o2,l2⟩:=z2R hU.o2;exact⟨b,c,b2,c2,rfl,⟨o1,fun _ _=>trivial⟩,⟨o2,fun _ _=>trivial⟩,l1,l2,hb⟩
structure Rec (w:World) (rb B0:Nat) (wr:World) (vN iN vU iU:Value) (ds us:List DeedQ) (xs ys:List ItemD):Prop where
 B:Blk wr rb 149 #[vN,iN,vU,iU]
 oN:wr.ownsRow 0 298 6 vN ds.length ((z55 w).row ds)
 aN:∀p∈ds,actK.At w p.va p.acts
 oU:wr.ownsRow 0 258 7 vU us.length ((z4Y w).row us)
 aU:∀p∈us,actK.At w p.va p.acts∧undoK.Own wr p.lv p.us
 jN:itemK.Own wr iN xs
 jU:itemK.Own wr iU ys
 nu:∀k∈blk vN,k∉blk vU
 lN:∀k∈blk vN,B0≤k
 lU:∀k∈blk vU,B0≤k
 d1:∀k∈blk iN,B0≤k∧k∉blk vN∧k∉blk vU
 d2:∀k∈blk iU,B0≤k∧k∉blk vN∧k∉blk vU
 d3:∀p∈us,∀k∈blk p.lv,B0≤k∧k∉blk vN∧k∉blk vU
theorem Rec.below{w:World}{rb B0:Nat}{wr wr':World}{vN iN vU iU:Value}{ds us:List DeedQ}{xs ys:List ItemD}(h:Rec w rb B0 wr vN iN vU iU ds us xs ys)(hb:Below wr.heap.size wr wr'):Rec w rb B0 wr' vN iN vU iU ds us xs ys:=
 ⟨h.B.below hb,z0c h.oN hb,h.aN,z0c h.oU hb,fun p hp=>⟨(h.aU p hp).1,(h.aU p hp).2.below hb⟩,h.jN.below hb,h.jU.below hb,h.nu,h.lN,h.lU,h.d1,h.d2,h.d3⟩
theorem z3G{v v':Value}{H B0:Nat}(h:v'.ownBlock=v.ownBlock∨∃g,v'.ownBlock=some g∧H≤g){k:Nat}(hk:k∈blk v'):k∈blk v∨H≤k:=by
 unfold blk at hk⊢;rcases h with h|⟨g,h,hg⟩
 ·rw[h]at hk;exact Or.inl hk
 ·rw[h]at hk;simp only[Option.toList,f]at hk;subst hk;exact Or.inr hg
theorem z0D{w:World}{b e n m:Nat}{v:Value}{xs:List Value}(h:w.ownsRow b e n v m xs):∀k∈blk v,k<w.heap.size:=fun k hk=>(h.lt k (by simpa[blk]using hk)).2
theorem Rec.addN{w:World}{rb B0:Nat}{w1 w2:World}{vN iN d':Value}{vU iU i':Value}{ds us:List DeedQ}{xs ys xs':List ItemD}{p:DeedQ}(h:Rec w rb B0 w1 vN iN vU iU ds us xs ys)(hrb:rb<B0)(hB:B0≤w1.heap.size)(hp:actK.At w p.va p.acts)
  (hi:itemK.Own w1 i' xs') (hil:∀k∈blk i',B0≤k∧k∉blk vN∧k∉blk vU)
  (B:Blk w2 rb 149 #[d',i',vU,iU]) (ho:w2.ownsRow 0 298 6 d' (ds.length+1) ((z55 w).row ds++(z55 w).cells p)) (hd:d'.ownBlock=vN.ownBlock∨∃g,d'.ownBlock=some g∧w1.heap.size≤g) (hO:Out (rb::blk vN) w1 w2):
  Rec w rb B0 w2 d' i' vU iU (ds++[p]) us xs' ys:=by
 have nF:∀ {k},B0≤k→k∉blk vN→k∉rb::blk vN:=fun hk hn hm=>by
  rcases List.mem_cons.1 hm with e|e
  ·omega
  ·exact hn e
 have out:∀ {k},(k<w1.heap.size)→k∉blk vN→k∉blk d':=fun hk hn hm=>by
  rcases z3G (B0:=0) hd hm with e|e
  ·exact hn e
  ·omega
 refine⟨B,by rw[List.length_append,List.length_singleton,Kind.row_snoc];exact ho,?_,z0X h.oU hO (fun k hk=>nF (h.lU k hk) (fun e=>h.nu k e hk)),?_,?_,?_,?_,?_,h.lU,?_,?_,?_⟩
 ·intro q hq;rcases List.mem_append.1 hq with hq|hq
  ·exact h.aN q hq
  ·simp only[f]at hq;subst hq;exact hp
 ·exact fun q hq=>⟨(h.aU q hq).1,(h.aU q hq).2.out hO (fun k hk=>by rw[z0K]at hk;exact nF (h.d3 q hq k hk).1 (h.d3 q hq k hk).2.1)⟩
 ·exact hi.out hO (fun k hk=>by rw[z0q]at hk;exact nF (hil k hk).1 (hil k hk).2.1)
 ·exact h.jU.out hO (fun k hk=>by rw[z0q]at hk;exact nF (h.d2 k hk).1 (h.d2 k hk).2.1)
 ·intro k hk hm;rcases z3G (B0:=0) hd hk with e|e
  ·exact h.nu k e hm
  ·have:=z0D h.oU k hm;omega
 ·intro k hk;rcases z3G (B0:=0) hd hk with e|e
  ·exact h.lN k e
  ·omega
 ·exact fun k hk=>⟨(hil k hk).1,out (z0D hi.1 k hk) (hil k hk).2.1,(hil k hk).2.2⟩
 ·exact fun k hk=>⟨(h.d2 k hk).1,out (z0D h.jU.1 k hk) (h.d2 k hk).2.1,(h.d2 k hk).2.2⟩
 ·exact fun q hq k hk=>⟨(h.d3 q hq k hk).1,out (z0D (h.aU q hq).2.1 k hk) (h.d3 q hq k hk).2.1,(h.d3 q hq k hk).2.2⟩
theorem Rec.addU{w:World}{rb B0:Nat}{w1 w2:World}{vN iN d':Value}{vU iU i':Value}{ds us:List DeedQ}{xs ys z:List ItemD}{p:DeedQ}(h:Rec w rb B0 w1 vN iN vU iU ds us xs ys)(A:rb<B0)(hB:B0≤w1.heap.size)(hp:actK.At w p.va p.acts)(y:undoK.Own w1 p.lv p.us)
  (d:∀k∈blk p.lv,B0≤k∧k∉blk vN∧k∉blk vU)
  (hi:itemK.Own w1 i' z) (c:∀k∈blk i',B0≤k∧k∉blk vN∧k∉blk vU)
  (B:Blk w2 rb 149 #[vN,iN,d',i']) (ho:w2.ownsRow 0 258 7 d' (us.length+1) ((z4Y w).row us++(z4Y w).cells p)) (hd:d'.ownBlock=vU.ownBlock∨∃g,d'.ownBlock=some g∧w1.heap.size≤g) (hO:Out (rb::blk vU) w1 w2):
  Rec w rb B0 w2 vN iN d' i' ds (us++[p]) xs z:=by
 have nF:∀ {k},B0≤k→k∉blk vU→k∉rb::blk vU:=fun hk hn hm=>by
  rcases List.mem_cons.1 hm with e|e
  ·omega
  ·exact hn e
 have x:∀ {k},(k<w1.heap.size)→k∉blk vU→k∉blk d':=fun hk hn hm=>by
  rcases z3G (B0:=0) hd hm with e|e
  ·exact hn e
  ·omega
 refine⟨B,z0X h.oN hO (fun k hk=>nF (h.lN k hk) (h.nu k hk)),h.aN,by rw[List.length_append,List.length_singleton,Kind.row_snoc];exact ho,?_,?_,?_,?_,h.lN,?_,?_,?_,?_⟩
 ·intro q hq;rcases List.mem_append.1 hq with hq|hq
  ·exact⟨(h.aU q hq).1,(h.aU q hq).2.out hO (fun k hk=>by rw[z0K]at hk;exact nF (h.d3 q hq k hk).1 (h.d3 q hq k hk).2.2)⟩
  ·simp only[f]at hq;subst hq;exact⟨hp,y.out hO (fun k hk=>by rw[z0K]at hk;exact nF (d k hk).1 (d k hk).2.2)⟩
 ·exact h.jN.out hO (fun k hk=>by rw[z0q]at hk;exact nF (h.d1 k hk).1 (h.d1 k hk).2.2)
 ·exact hi.out hO (fun k hk=>by rw[z0q]at hk;exact nF (c k hk).1 (c k hk).2.2)
 ·intro k hk hm;rcases z3G (B0:=0) hd hm with e|e
  ·exact h.nu k hk e
  ·have:=z0D h.oN k hk;omega
 ·intro k hk;rcases z3G (B0:=0) hd hk with e|e
  ·exact h.lU k e
  ·omega
 ·exact fun k hk=>⟨(h.d1 k hk).1,(h.d1 k hk).2.1,x (z0D h.jN.1 k hk) (h.d1 k hk).2.2⟩
 ·exact fun k hk=>⟨(c k hk).1,(c k hk).2.1,x (z0D hi.1 k hk) (c k hk).2.2⟩
 ·intro q hq k hk;rcases List.mem_append.1 hq with hq|hq
  ·exact⟨(h.d3 q hq k hk).1,(h.d3 q hq k hk).2.1,x (z0D (h.aU q hq).2.1 k hk) (h.d3 q hq k hk).2.2⟩
  ·simp only[f]at hq;subst hq;exact⟨(d k hk).1,(d k hk).2.1,x (z0D y.1 k hk) (d k hk).2.2⟩
theorem Rec.share{w:World}{rb B0:Nat}{w1:World}{vN iN vU iU:Value}{ds us:List DeedQ}{xs ys:List ItemD}(h:Rec w rb B0 w1 vN iN vU iU ds us xs ys)(hrb:rb<B0):Rec w rb B0 (w1.setCell ⟨rb,3,none⟩ iN) vN iN vU iN ds us xs xs:=by
 have hO:=Out.setCell w1 rb 3 iN;have nF:∀ {k},B0≤k→k∉[rb]:=fun hk hm=>by simp only[f]at hm;omega
 refine⟨?_,z0X h.oN hO (fun k hk=>nF (h.lN k hk)),h.aN,z0X h.oU hO (fun k hk=>nF (h.lU k hk)),fun p hp=>⟨(h.aU p hp).1,(h.aU p hp).2.out hO (fun k hk=>by rw[z0K]at hk;exact nF (h.d3 p hp k hk).1)⟩,h.jN.out hO (fun k hk=>by rw[z0q]at hk;exact nF (h.d1 k hk).1),h.jN.out hO (fun k hk=>by rw[z0q]at hk;exact nF (h.d1 k hk).1),h.nu,h.lN,h.lU,h.d1,h.d1,h.d3⟩;have:=h.B.set 3 iN;simpa using this
end Go.Proofs.YtjjoahhnkpjolaaGreatDoor
