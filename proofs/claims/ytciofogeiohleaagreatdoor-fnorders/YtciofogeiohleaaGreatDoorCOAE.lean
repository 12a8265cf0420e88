/- Texts joined,with what the laws reach alone. -/
import Derived.Test.YtciofogeiohleaaGreatDoorCOAD
import Derived.Maps.AppendAt
set_option linter.unusedVariables false
set_option linter.unusedSimpArgs false
set_option maxRecDepth 100000
set_option maxHeartbeats 8000000
namespace Go.Proofs.YtciofogeiohleaaGreatDoor
open Go.RowKit Go.BigFrame
def brd0:List Value:=brdC false (.slice none 0 0) [] [0,0,0]
theorem z2C{fn:Func}{p q:Tmp}{ty:TypeId}(h:fn.results=#[.cell p ty,.tmp q])(tmps:Array Value)(w:World)(g:Nat)(cs:Array Value)(v:Value)
  (hp:tmps.getD p undef=.pointer (some ⟨g,0,none⟩)) (hq:tmps.getD q undef=v) (hld:(loadVar ty ⟨g,0,none⟩).run Tryz.prog w=.ok (.agg cs) w):
  (results fn tmps).run Tryz.prog w=.ok (.tuple #[.agg cs,v]) w:=by
 have hp':tmps[p]?.getD undef=.pointer (some ⟨g,0,none⟩):=by simpa using hp
 have hq':tmps[q]?.getD undef=v:=by simpa using hq
 simp[results,h,hp',hq',asAddr,hld]
theorem z8i{w:World}{g:Nat}{t:TypeId}{L:List Value}(hB:Blk w g t L.toArray)(hl:L.length=30):(loadVar 155 ⟨g,0,none⟩).run Tryz.prog w=.ok (.agg L.toArray) w:=
 run_loadVar_mid w g 0 155 L _ (rng hB L (fun j v hv=>by rw[Nat.zero_add,List.getElem?_toArray];exact hv)) Tryz.underlying155 rfl (by rw[hl];exact z2M)
theorem z9G{rs:List RoundE}(h:z0K rs=0):Wel rs:=fun r hr=>by
 obtain⟨k,hk,rfl⟩:=List.getElem_of_mem hr;have:=z1g h k hk;have e:rs.getD k rnd0=rs[k]:=by simp[List.getD,hk]
 rw[e]at this;exact⟨z0A this.1,z0A this.2⟩
theorem z9h{rs:List RoundE}(h:Wel rs)(k:Nat):Wel (rs.take k):=fun r hr=>h r (List.mem_of_mem_take hr)
theorem q0V{x:InstE}(h:shpF x=0):insF x=if z88 x then 0 else 10:=if_pos h
theorem z4h(p:InstQ)(w:World)(hG:Rul w)(h:instK.rd w p)(hl:p.n≤1048576):
  Calls Tryz.prog 100 #[.agg #[.bool p.has,p.vb,p.vr,p.vd]] w fun e w'=>e=.returned (.tuple #[.agg (if insF p.e=0 then brdC p.has p.vb p.e.rounds p.dec else brd0).toArray,.int .i64 (insF p.e)])∧Below w.heap.size w w':=by
 have ar:=fun w h=>z5a p w h hl
 have aw:=fun(w':World) hb=>instK.rd_below (w':=w') h hb
 generalize hC:insF p.e=C;generalize aF:(if C=0 then brdC p.has p.vb p.e.rounds p.dec else brd0)=BD;have HC:Hid (insF p.e=C∧(if C=0 then brdC p.has p.vb p.e.rounds p.dec else brd0)=BD):=And.intro hC aF;clear hC aF;obtain⟨has,vb,d,vr,c,vd,dec⟩:=p;obtain⟨hT,hR,hD⟩:txnK.At w vb d∧roundK.At w vr c∧intK.At w vd dec:=h;obtain⟨ba,bk,rfl⟩:=hT.shape;obtain⟨va,vk,rfl⟩:=hR.shape;obtain⟨da,dk,rfl⟩:=hD.shape;dsimp only at ar aw;have B:=(Blk.new w 49 #[.bool has,.slice ba d.length bk,.slice va c.length vk,.slice da dec.length dk]).below (w':=(w.alloc (.cells #[.bool has,.slice ba d.length bk,.slice va c.length vk,.slice da dec.length dk] 49)).alloc (.cells brd0.toArray 155)) (by go_grown);have Rb:=Blk.new (w.alloc (.cells #[.bool has,.slice ba d.length bk,.slice va c.length vk,.slice da dec.length dk] 49)) 155 brd0.toArray;simp only[World.size_alloc]at Rb;have hB:Below w.heap.size w ((w.alloc (.cells #[.bool has,.slice ba d.length bk,.slice va c.length vk,.slice da dec.length dk] 49)).alloc (.cells brd0.toArray 155)):=by go_grown
 have bd:(Tryz.prog.info? 155).map (·.size)=some brd0.toArray.size:=by kernel_rfl
 have a2:brd0.toArray.size=brd0.toArray.size:=rfl;have am:(Tryz.prog.info? 155).map (·.size)=some (#[.int .i64 0,.int .i64 0,.int .i64 0,.int .i64 0,.int .i64 0,.int .i64 0,.int .i64 0,.int .i64 0,.int .i64 0,.int .i64 0,.int .i64 0,.int .i64 0,.int .i64 0,.int .i64 0,.int .i64 0,.int .i64 0,.int .i64 0,.int .i64 0,.int .i64 0,.int .i64 0,.int .i64 0,.int .i64 0,.int .i64 0,.int .i64 0,.int .i64 0,.bool false,.slice none 0 0,.int .i64 0,.int .i64 0,.int .i64 0]:Array Value).size:=by kernel_rfl
 have O:brd0.toArray.size=(#[.int .i64 0,.int .i64 0,.int .i64 0,.int .i64 0,.int .i64 0,.int .i64 0,.int .i64 0,.int .i64 0,.int .i64 0,.int .i64 0,.int .i64 0,.int .i64 0,.int .i64 0,.int .i64 0,.int .i64 0,.int .i64 0,.int .i64 0,.int .i64 0,.int .i64 0,.int .i64 0,.int .i64 0,.int .i64 0,.int .i64 0,.int .i64 0,.int .i64 0,.bool false,.slice none 0 0,.int .i64 0,.int .i64 0,.int .i64 0]:Array Value).size:=rfl;have T:(#[.int .i64 0,.int .i64 0,.int .i64 0,.int .i64 0,.int .i64 0,.int .i64 0,.int .i64 0,.int .i64 0,.int .i64 0,.int .i64 0,.int .i64 0,.int .i64 0,.int .i64 0,.int .i64 0,.int .i64 0,.int .i64 0,.int .i64 0,.int .i64 0,.int .i64 0,.int .i64 0,.int .i64 0,.int .i64 0,.int .i64 0,.int .i64 0,.int .i64 0,.bool false,.slice none 0 0,.int .i64 0,.int .i64 0,.int .i64 0]:Array Value).all (·.oneCell')=true:=by kernel_rfl
 have a6:brd0.toArray.all (·.oneCell')=true:=by kernel_rfl
 have be:#[.int .i64 0,.int .i64 0,.int .i64 0,.int .i64 0,.int .i64 0,.int .i64 0,.int .i64 0,.int .i64 0,.int .i64 0,.int .i64 0,.int .i64 0,.int .i64 0,.int .i64 0,.int .i64 0,.int .i64 0,.int .i64 0,.int .i64 0,.int .i64 0,.int .i64 0,.int .i64 0,.int .i64 0,.int .i64 0,.int .i64 0,.int .i64 0,.int .i64 0,.bool false,.slice none 0 0,.int .i64 0,.int .i64 0,.int .i64 0]=brd0.toArray:=rfl;go_enter Tryz.func100,Tryz.ntmps100
 go_wp2_with fail
 generalize (w.alloc (.cells #[.bool has,.slice ba d.length bk,.slice va c.length vk,.slice da dec.length dk] 49)).alloc (.cells brd0.toArray 155)=W at*;refine(ar W (aw W hB)).mono ?_;rintro e w1 ⟨rfl,ag⟩;have Bx:=B.below ag;replace Rb:=Rb.below ag;replace hB:=hB.trans (ag.mono hB.size);have bo:w.heap.size+1<w1.heap.size:=Rb.lt;clear ar aw ag B;by_cases h0:shpF (InstQ.e ⟨has,.slice ba d.length bk,d,.slice va c.length vk,c,.slice da dec.length dk,dec⟩)=0
 ·obtain⟨⟨h1,h4⟩,hF,an,_,_⟩:=z05 h0;have aG:=q0V h0;replace hF:z0K (c.map RoundQ.e)=0:=hF;replace an:vf dec 1=0:=an;replace h1:1≤(c.map RoundQ.e).length:=h1;replace h4:(c.map RoundQ.e).length≤4:=h4;rw[List.length_map]at h1 h4;have ad:Hid (C=if(List.range (c.map RoundQ.e).length).all (z7N has (c.map RoundQ.e)) && z4C (c.map RoundQ.e) dec then 0 else 10):=HC.out.1.symm.trans aG;have ab:Hid ((if C=0 then brdC has (.slice ba d.length bk) (c.map RoundQ.e) dec else brd0)=BD):=HC.out.2;rw[h0];clear h0 aG HC;have aY:=z0A an;obtain⟨d0,d1,d2,rfl⟩:=z4D aY;have af:=(z0y (hD.below hB)).2;obtain⟨db,L,aZ,_,_⟩:=af 0 (by simp);subst aZ;have ax:=fun b ay cap w h h3=>z5V b ay cap [d0,d1,d2] w h h3
  have U:=fun zs b ay cap w h h3=>z5V b ay cap zs w h h3
  have aX:[d0,d1,d2].length=3:=rfl;rw[aX]at Bx
  go_wp2_with fail
  refine z0T [some 14,some 15,some 16,some 17,some 18,some 19,some 20,some 21,some 5] (fun vs w'=>∃g:Nat,vs=[.pointer (some ⟨w.heap.size,0,none⟩),.bool has,.pointer (some ⟨w.heap.size,1,none⟩),.slice ba d.length bk,.pointer (some ⟨w.heap.size,3,none⟩),.slice (some ⟨db,L,none⟩) 3 dk,.agg #[iv d0,iv d1,iv d2],.agg (brdC has (.slice ba d.length bk) [] [d0,d1,d2]).toArray,.pointer (some ⟨g,0,none⟩)]∧w1.heap.size≤g∧Blk w' g 155 (brdC has (.slice ba d.length bk) [] [d0,d1,d2]).toArray∧Below w1.heap.size w1 w') ?_ ?_
  ·have hW:Below w1.heap.size w1 w1.drew:=(Below.refl _ _).drew;have aJ:Nonempty (Lat w1):=⟨⟨w1,Below.refl _ _⟩⟩
   obtain⟨p0,p1⟩:=Bx.lts2;have p3:=Bx.lat 3 _ rfl;have y:(Tryz.prog.info? 155).map (·.size)=some (brdC has (.slice ba d.length bk) [] [d0,d1,d2]).toArray.size:=by kernel_rfl
   have ak:brd0.toArray.size=(brdC has (.slice ba d.length bk) [] [d0,d1,d2]).toArray.size:=rfl;have al:(brdC has (.slice ba d.length bk) [] [d0,d1,d2]).toArray.all (·.oneCell')=true:=by kernel_rfl
   refine z0b (S:=fun w'=>∃u:Lat w1,w'=u.val) (by kernel_rfl) ?_;refine sgr [(0,6)] 4 (by kernel_rfl) ⟨⟨_,hW⟩,rfl⟩ ?_;simp only[pkE];repeat go_big_quiet_step (fail)
   refine wpQuiet_nil ?_;clear p0 p1 p3;generalize w1.drew=wd at hW⊢;refine twa 6 8 3 (by kernel_rfl) ?_ ?_
   ·refine opc 6 (some 20) 158 #[.slice (some ⟨db,L,none⟩) 3 dk] (by kernel_rfl) ?_;refine(ax db L dk _ (af.below hW) rfl).mono ?_;rintro e w8 ⟨rfl,s⟩;replace hW:=hW.trans (s.mono hW.size);clear s;refine⟨_,rfl,⟨⟨_,hW⟩,rfl⟩,?_⟩;simp only[Act.put,pgE,pjE];refine qta 7 (some 21) (.agg (brdC has (.slice ba d.length bk) [] [d0,d1,d2]).toArray) 2 (by kernel_rfl) (fun u _=>by kernel_rfl) ⟨⟨_,hW⟩,rfl⟩ ?_;simp only[Act.put,pgE,pjE];refine ona 8 1 rfl (by kernel_rfl) ?_;have Bz:=Blk.new w8 155 brd0.toArray;have I:w1.heap.size≤w8.heap.size:=hW.size;replace hW:=hW.alloc hW.size (.cells brd0.toArray 155)
    go_wp2
    refine ThenGo.to ⟨⟨⟨_,hW⟩,rfl⟩,?_⟩;generalize w8.alloc (.cells brd0.toArray 155)=Z8 at Bz hW⊢;refine ona 9 0 rfl (by kernel_rfl) ?_;refine z0d (by kernel_rfl) 155 _ _ rfl _ (brdC has (.slice ba d.length bk) [] [d0,d1,d2]).toArray rfl rfl 155 _ Bz y ak al ?_;refine ThenGo.to ⟨⟨⟨_,z0c hW I _⟩,rfl⟩,?_⟩;refine z0e (by kernel_rfl) ?_;refine⟨rfl,_,⟨w8.heap.size,rfl,I,Bz.row _,z0c hW I _⟩,?_⟩;simp only[z01,Act.put,pgE,pjE];try rfl
   ·refine z4R 8 _ rfl ?_;have Bz:=Blk.new wd 155 brd0.toArray;have I:w1.heap.size≤wd.heap.size:=hW.size;replace hW:=hW.alloc hW.size (.cells brd0.toArray 155)
    go_wp2
    refine ThenGo.to ⟨⟨⟨_,hW⟩,rfl⟩,?_⟩;generalize wd.alloc (.cells brd0.toArray 155)=Z8 at Bz hW⊢;refine cla 6 (some 20) 158 #[.slice (some ⟨db,L,none⟩) 3 dk] 2 (by kernel_rfl) ?_;refine(ax db L dk _ (af.below hW) rfl).mono ?_;rintro e w8 ⟨rfl,s⟩;replace hW:=hW.trans (s.mono hW.size);replace Bz:=Bz.below s;clear s;refine⟨_,rfl,⟨⟨_,hW⟩,rfl⟩,?_⟩;simp only[Act.put,pgE,pjE];refine qta 7 (some 21) (.agg (brdC has (.slice ba d.length bk) [] [d0,d1,d2]).toArray) 1 (by kernel_rfl) (fun u _=>by kernel_rfl) ⟨⟨_,hW⟩,rfl⟩ ?_;simp only[Act.put,pgE,pjE];refine ona 9 0 rfl (by kernel_rfl) ?_;refine z0d (by kernel_rfl) 155 _ _ rfl _ (brdC has (.slice ba d.length bk) [] [d0,d1,d2]).toArray rfl rfl 155 _ Bz y ak al ?_;refine ThenGo.to ⟨⟨⟨_,z0c hW I _⟩,rfl⟩,?_⟩;refine z0e (by kernel_rfl) ?_;refine⟨rfl,_,⟨wd.heap.size,rfl,I,Bz.row _,z0c hW I _⟩,?_⟩;simp only[z01,Act.put,pgE,pjE];try rfl
  rintro vs X ⟨g,rfl,hg,Bg,hX⟩;simp only[z01,Act.put,pjE];have ae:Below w.heap.size w X:=hB.trans (hX.mono hB.size);have aC:=Rb.below hX;have aS:=Bx.below hX;have bm:w.heap.size+1<g:=by omega
  have bh:=hR.below ae;have bg:=hG.below ae;have p2:=aS.cell 2 _ rfl;clear hX hB Rb Bx ax af
  go_wp2
  clear p2;generalize aL:c.map RoundQ.e=rs at*;have aa:=z9G hF;have G:rs.length=c.length:=by rw[←aL,List.length_map]
  go_loopw[25] (fun j wr=>∃k:Nat,k≤c.length∧j=.int .i64 k∧Hid (Blk wr g 155 (brdC has (.slice ba d.length bk) (rs.take k) [d0,d1,d2]).toArray)∧Hid (Out [g] X wr)) (fun j _=>c.length-(intOf j).toNat)
  case atStart=>exact⟨0,Nat.zero_le _,rfl,Bg,Out.refl _ _⟩
  case round=>
   obtain⟨k,hk,rfl,HB,HO⟩:=hrel;have q:Below w.heap.size w wr:=Out.keep ae HO.out ae.size (fun k hk=>by simp only[List.mem_singleton]at hk;omega);by_cases E:k<c.length
   ·obtain⟨rb,ro,a7,bj,hc,a8⟩:=(hR.below q).cell (by decide) k E;have aq:∀j x,(roundK.cells c[k])[j]?=some x→wr.cell? ⟨rb,ro+k*2+j,none⟩=some x:=hc;have r0:=aq 0 (c[k].vr) rfl;have r1:=aq 1 (c[k].vp) rfl;have ao:rs.getD k rnd0=RoundQ.e c[k]:=by rw[←aL];exact z0X c k E
    obtain⟨V,Z⟩:=z1g hF k (by rw[G];exact E);rw[ao]at V Z;replace V:vf c[k].rep 1=0:=V;replace Z:vf c[k].pro 2=0:=Z;have aH:rs[k]'(by rw[G];exact E)=RoundQ.e c[k]:=by rw[←ao];simp[List.getD,show k<rs.length by rw[G];exact E]
    have aB:Hid (rs.take (k+1)=rs.take k++[RoundE.mk c[k].rep c[k].pro]):=by
     rw[List.take_succ_eq_append_getElem (show k<rs.length by rw[G];exact E),aH];exact(rfl:_=_)
    have aK:roundK.rd w c[k]:=by
     obtain⟨_,_,_,_,_,hx⟩:=hR.cell (by decide) k E;exact hx
    obtain⟨aD,aE⟩:intK.At w c[k].vr c[k].rep∧intK.At w c[k].vp c[k].pro:=aK;clear hc aq ao aH a8;generalize c[k].vr=qv at*;generalize c[k].rep=qr at*;generalize c[k].vp=qw at*;generalize c[k].pro=qp at*;obtain⟨xa,xc,xb,xo,rfl,bb,_,aQ⟩:=z2d aD V 0 (by omega);obtain⟨ya,yc,yb,yo,rfl,bc,_,aR⟩:=z2d aE Z 0 (by omega);subst a7 bb bc;obtain⟨x0,x1,x2,rfl⟩:=z4D (z0A V);obtain⟨y0,y1,y2,rfl⟩:=z4D (z0A Z);have By:=Blk.new wr 172 #[.slice (some ⟨xb,xo,none⟩) 3 xc,.slice (some ⟨yb,yo,none⟩) 3 yc];have ah:Below wr.heap.size wr (wr.alloc (.cells #[.slice (some ⟨xb,xo,none⟩) 3 xc,.slice (some ⟨yb,yo,none⟩) 3 yc] 172)):=by go_grown
    have aA:Hid (Out [g] X (wr.alloc (.cells #[.slice (some ⟨xb,xo,none⟩) 3 xc,.slice (some ⟨yb,yo,none⟩) 3 yc] 172))):=HO.out.call ah;have az:Hid (Blk (wr.alloc (.cells #[.slice (some ⟨xb,xo,none⟩) 3 xc,.slice (some ⟨yb,yo,none⟩) 3 yc] 172)) g 155 (brdC has (.slice ba d.length bk) (rs.take k) [d0,d1,d2]).toArray):=HB.out.below ah;have bn:g<wr.heap.size:=HB.out.lt;have aN:wr.heap.size≠g:=by omega
    replace q:=q.trans (ah.mono q.size);rw[Nat.add_zero]at r0;clear HB HO ah aD aE
    go_wp2_with fail
    clear r0 r1;generalize wr.alloc (.cells #[.slice (some ⟨xb,xo,none⟩) 3 xc,.slice (some ⟨yb,yo,none⟩) 3 yc] 172)=Y at*;have D:∀W',Out [g] Y W'→Below w.heap.size w W':=fun W' aW=>Out.keep q aW q.size (fun k hk=>by simp only[List.mem_singleton]at hk;omega)
    have aj:=fun w' aV=>z3D g 155 (rs.take k) ([.bool has,.slice ba d.length bk]++[d0,d1,d2].map iv) ⟨[x0,x1,x2],[y0,y1,y2]⟩ w' aV (z9h aa k) ⟨rfl,rfl⟩ (by rw[List.length_take];omega)
    have aJ:Nonempty (LatO [g] Y):=⟨⟨Y,Out.refl _ _⟩⟩
    have hW:Out [g] Y Y.drew:=Out.of_below ((Below.refl _ _).drew);have p0:=z0g (F:=[g]) (By.cell 0 _ rfl) (by simp only[List.mem_singleton];exact aN);have p1:=z0g (F:=[g]) (By.cell 1 _ rfl) (by simp only[List.mem_singleton];exact aN);have J:=az.out.below (w':=Y.drew) ((Below.refl _ _).drew);refine z0b (S:=fun w'=>∃u:LatO [g] Y,w'=u.val) (by kernel_rfl) ?_;refine sgr [(0,3),(4,2)] 4 (by kernel_rfl) ⟨⟨_,hW⟩,rfl⟩ ?_;simp only[pkE];repeat go_big_quiet_step (fail)
    refine wpQuiet_nil ?_;refine cla 3 (some 32) 158 #[.slice (some ⟨xb,xo,none⟩) 3 xc] 3 (by kernel_rfl) ?_;refine(U _ xb xo xc _ (aQ.below (D _ hW)) rfl).mono ?_;rintro e w8 ⟨rfl,s⟩;replace hW:=hW.call s;replace J:=J.below s;clear s;refine⟨_,rfl,⟨⟨_,hW⟩,rfl⟩,?_⟩;simp only[Act.put,pjE];refine cla 6 (some 35) 158 #[.slice (some ⟨yb,yo,none⟩) 3 yc] 2 (by kernel_rfl) ?_;refine(U _ yb yo yc _ (aR.below (D _ hW)) rfl).mono ?_;rintro e w9 ⟨rfl,ap⟩;replace hW:=hW.call ap;replace J:=J.below ap;clear ap;refine⟨_,rfl,⟨⟨_,hW⟩,rfl⟩,?_⟩;simp only[Act.put,pjE];refine qta 7 (some 36) (.agg (z02 ⟨[x0,x1,x2],[y0,y1,y2]⟩).toArray) 1 (by kernel_rfl) (fun u _=>by kernel_rfl) ⟨⟨_,hW⟩,rfl⟩ ?_;simp only[Act.put,pjE];refine cla 8 (some 37) 152 #[.pointer (some ⟨g,0,none⟩),.agg (z02 ⟨[x0,x1,x2],[y0,y1,y2]⟩).toArray] 0 (by kernel_rfl) ?_;refine(aj w9 J).mono ?_;rintro e aP ⟨rfl,ai,aO⟩;replace hW:=hW.trans aO;clear aO;refine⟨_,rfl,⟨⟨_,hW⟩,rfl⟩,?_⟩;simp only[Act.put,pjE];refine z0e (by kernel_rfl) ?_;have aT:Hid (Blk aP g 155 (brdC has (.slice ba d.length bk) (rs.take (k+1)) [d0,d1,d2]).toArray):=by rw[aB.out];exact ai
    have aU:Hid (Out [g] X aP):=aA.out.trans hW;clear ai hW aj az aA p0 p1 aJ D aB
    go_wp2
    go_roundw
    case rel=>exact⟨k+1,by omega,by go_num,aT.out,aU.out⟩
    case measure=>simp[intOf];omega
   ·have a1:k=c.length:=by omega
    subst a1;have Bw:=HB.out;rw[←G,List.take_length]at Bw;have Rw:Blk wr (w.heap.size+1) 155 brd0.toArray:=(HO.out.block _ aC.lt (by simp only[List.mem_singleton];omega)).trans aC;have N:=z2z (has:=has) (vb:=.slice ba d.length bk) (dec:=[d0,d1,d2]) aa (by rw[G];exact h4) rfl;have aI:=z6u has (.slice ba d.length bk) rs [d0,d1,d2] wr (hG.below q) aa (by rw[G];exact h4) rfl;have A:=rng Bw (brdC has (.slice ba d.length bk) rs [d0,d1,d2]) (o:=0) (fun j v hv=>by rw[Nat.zero_add,List.getElem?_toArray];exact hv);have y:(Tryz.prog.info? 155).map (·.size)=some (brdC has (.slice ba d.length bk) rs [d0,d1,d2]).length:=by rw[N];exact z2M
    have av:(brdC has (.slice ba d.length bk) rs [d0,d1,d2]).toArray.all (·.oneCell')=true:=all_oneCell_toArray (fun v hv=>by
     simp only[brdC,rndC,z28,List.mem_append,List.mem_cons,List.mem_flatMap,List.mem_replicate,List.mem_map,z02,List.not_mem_nil,or_false]at hv;rcases hv with (rfl | ⟨r,_,z,_,rfl⟩ | ⟨_,rfl⟩) | (rfl | rfl) | ⟨z,_,rfl⟩ <;> rfl)
    clear HB HO U;generalize bi:((List.range rs.length).all (z7N has rs) && z4C rs [d0,d1,d2])=XX at*;generalize bl:brdC has (.slice ba d.length bk) rs [d0,d1,d2]=cs at*
    go_wp2_with (refine z5b (by kernel_rfl) 155 _ rfl _ _ rfl cs _ A Tryz.underlying155 rfl y ?_)
    refine aI.mono ?_;rintro e w5 ⟨rfl,M⟩;replace Rw:=Rw.below M;replace Bw:=Bw.below M;replace q:=q.trans (M.mono q.size);replace A:=z2e A M;clear aI M
    cases XX with
    |false=>
     have E1:Hid (C=10):=by rw[ad.out];exact(rfl:_=_)
     have E2:Hid (BD=brd0):=by
      have:=ab.out;rw[E1.out,if_neg (by decide)]at this;exact this.symm
     clear ad ab A
     go_wp2_with (refine z0d (by kernel_rfl) 155 _ _ rfl _ #[.int .i64 0,.int .i64 0,.int .i64 0,.int .i64 0,.int .i64 0,.int .i64 0,.int .i64 0,.int .i64 0,.int .i64 0,.int .i64 0,.int .i64 0,.int .i64 0,.int .i64 0,.int .i64 0,.int .i64 0,.int .i64 0,.int .i64 0,.int .i64 0,.int .i64 0,.int .i64 0,.int .i64 0,.int .i64 0,.int .i64 0,.int .i64 0,.int .i64 0,.bool false,.slice none 0 0,.int .i64 0,.int .i64 0,.int .i64 0] rfl rfl 155 _ Rw am O T ?_)
     rw[E2.out,E1.out];exact bodyPost_ret (v:=.tuple #[.agg brd0.toArray,.int .i64 10]) (z2C Tryz.results100 _ _ (w.heap.size+1) brd0.toArray _ rfl rfl (z8i (Rw.row _) rfl)) rfl ⟨rfl,z0c q (by omega) _⟩
    |true=>
     have E1:Hid (C=0):=by rw[ad.out];exact(rfl:_=_)
     have E2:Hid (BD=cs):=by
      have:=ab.out;rw[E1.out,if_pos rfl]at this;exact this.symm
     have aM:(Tryz.prog.info? 155).map (·.size)=some cs.toArray.size:=y;have au:brd0.toArray.size=cs.toArray.size:=(show 30=cs.length from N.symm)
     clear ad ab
     go_wp2_with (first|(refine z5b (by kernel_rfl) 155 _ rfl _ _ rfl cs _ A Tryz.underlying155 rfl y ?_)|(refine z0d (by kernel_rfl) 155 _ _ rfl _ cs.toArray rfl rfl 155 _ Rw aM au av ?_))
     rw[E2.out,E1.out];exact bodyPost_ret (v:=.tuple #[.agg cs.toArray,.int .i64 0]) (z2C Tryz.results100 _ _ (w.heap.size+1) cs.toArray _ rfl rfl (z8i (Rw.row _) N)) rfl ⟨rfl,z0c q (by omega) _⟩
 ·have hC:C≠0∧C=shpF (InstQ.e ⟨has,.slice ba d.length bk,d,.slice va c.length vk,c,.slice da dec.length dk,dec⟩):=by
   have:=HC.out.1;unfold insF at this;rw[if_neg h0]at this;exact⟨by rw[←this];exact h0,this.symm⟩
  have E2:Hid (BD=brd0):=by
   have:=HC.out.2;rw[if_neg hC.1]at this;exact this.symm
  rw[←hC.2];have bf:(C !=0)=true:=by simpa using hC.1
  clear HC h0 hC hR hT hD
  go_wp2_with (refine z0d (by kernel_rfl) 155 _ _ rfl _ #[.int .i64 0,.int .i64 0,.int .i64 0,.int .i64 0,.int .i64 0,.int .i64 0,.int .i64 0,.int .i64 0,.int .i64 0,.int .i64 0,.int .i64 0,.int .i64 0,.int .i64 0,.int .i64 0,.int .i64 0,.int .i64 0,.int .i64 0,.int .i64 0,.int .i64 0,.int .i64 0,.int .i64 0,.int .i64 0,.int .i64 0,.int .i64 0,.int .i64 0,.bool false,.slice none 0 0,.int .i64 0,.int .i64 0,.int .i64 0] rfl rfl 155 _ Rb am O T ?_)
  rw[E2.out];exact bodyPost_ret (v:=.tuple #[.agg brd0.toArray,.int .i64 C]) (z2C Tryz.results100 _ _ (w.heap.size+1) brd0.toArray _ rfl rfl (z8i (Rb.row _) rfl)) rfl ⟨rfl,z0c hB (by omega) _⟩
def bdOf(p:InstQ):List Value:=if insF p.e=0 then brdC p.has p.vb p.e.rounds p.dec else brd0
theorem z1p{x:InstE}(h:insF x=0):shpF x=0∧z88 x=true:=by
 unfold insF at h;by_cases h0:shpF x=0
 ·rw[if_pos h0]at h;refine⟨h0,?_⟩;by_cases h1:z88 x=true
  ·exact h1
  ·rw[if_neg h1]at h;simp at h
 ·rw[if_neg h0]at h;exact absurd h h0
theorem z2r{x:InstE}(h:insF x=0):Wel x.rounds∧(1≤x.rounds.length∧x.rounds.length≤4)∧x.dec.length=3∧z0K x.rounds=0∧vf x.dec 1=0:=by
 obtain⟨h0,_⟩:=z1p h;obtain⟨h1,h2,h3,_⟩:=z05 h0;exact⟨z9G h2,h1,z0A h3,h2,h3⟩
theorem q0a {has:Bool} {vb:Value} {rs:List RoundE} {dec:List Int} (hv:vb.oneCell' = true):(brdC has vb rs dec).toArray.all (·.oneCell')=true:=all_oneCell_toArray (fun v hm=>by
 simp only[brdC,rndC,z28,List.mem_append,List.mem_cons,List.mem_flatMap,List.mem_replicate,List.mem_map,z02,List.not_mem_nil,or_false]at hm;rcases hm with (rfl | ⟨r,_,z,_,rfl⟩ | ⟨_,rfl⟩) | (rfl | rfl) | ⟨z,_,rfl⟩ <;> first | rfl | exact hv)
theorem q0W{w:World}{p:InstQ}(h:instK.rd w p):(bdOf p).length=30∧(bdOf p).toArray.all (·.oneCell')=true:=by
 unfold bdOf;by_cases h0:insF p.e=0
 ·rw[if_pos h0];obtain⟨h1,h2,h3,_⟩:=z2r h0;refine⟨z2z h1 h2.2 h3,q0a ?_⟩;obtain⟨a,c,e⟩:=h.1.shape;rw[e];rfl
 ·rw[if_neg h0];exact⟨rfl,by kernel_rfl⟩
theorem z1i(p:InstQ)(w:World)(hG:Rul w)(h:instK.rd w p)(hl:p.n≤1048576):
  Calls Tryz.prog 51 #[.agg #[.bool p.has,p.vb,p.vr,p.vd]] w fun e w'=>e=.returned (.int .i64 (insF p.e))∧Below w.heap.size w w':=by
 obtain⟨s,A⟩:=q0W h;have r:=fun w hG h=>z4h p w hG h hl
 have x:=fun(w':World) hb=>instK.rd_below (w':=w') h hb
 change∀w hG h,Calls _ _ _ _ fun e w'=>e=.returned (.tuple #[.agg (bdOf p).toArray,_])∧_ at r
 generalize bdOf p=BD at*;generalize insF p.e=C at*;obtain⟨has,vb,q,vr,d,vd,dec⟩:=p;obtain⟨ba,bk,rfl⟩:∃a c,vb=.slice a q.length c:=h.1.shape;obtain⟨va,vk,rfl⟩:∃a c,vr=.slice a d.length c:=h.2.1.shape;obtain⟨da,dk,rfl⟩:∃a c,vd=.slice a dec.length c:=h.2.2.shape;dsimp only at r x;have hB:Below w.heap.size w (w.alloc (.cells #[.bool has,.slice ba q.length bk,.slice va d.length vk,.slice da dec.length dk] 49)):=by go_grown
 have D:(Tryz.prog.info? 155).map (·.size)=some BD.toArray.size:=by rw[List.size_toArray,s];exact z2M
 have z:(#[.int .i64 0,.int .i64 0,.int .i64 0,.int .i64 0,.int .i64 0,.int .i64 0,.int .i64 0,.int .i64 0,.int .i64 0,.int .i64 0,.int .i64 0,.int .i64 0,.int .i64 0,.int .i64 0,.int .i64 0,.int .i64 0,.int .i64 0,.int .i64 0,.int .i64 0,.int .i64 0,.int .i64 0,.int .i64 0,.int .i64 0,.int .i64 0,.int .i64 0,.bool false,.slice none 0 0,.int .i64 0,.int .i64 0,.int .i64 0]:Array Value).size=BD.toArray.size:=(show 30=BD.length from s.symm)
 go_enter Tryz.func51,Tryz.ntmps51
 go_wp2_with fail
 generalize w.alloc (.cells #[.bool has,.slice ba q.length bk,.slice va d.length vk,.slice da dec.length dk] 49)=W at*;refine(r W (hG.below hB) (x W hB)).mono ?_;rintro e w1 ⟨rfl,y⟩;replace hB:=hB.trans (y.mono hB.size);have Bz:=Blk.new w1 155 #[.int .i64 0,.int .i64 0,.int .i64 0,.int .i64 0,.int .i64 0,.int .i64 0,.int .i64 0,.int .i64 0,.int .i64 0,.int .i64 0,.int .i64 0,.int .i64 0,.int .i64 0,.int .i64 0,.int .i64 0,.int .i64 0,.int .i64 0,.int .i64 0,.int .i64 0,.int .i64 0,.int .i64 0,.int .i64 0,.int .i64 0,.int .i64 0,.int .i64 0,.bool false,.slice none 0 0,.int .i64 0,.int .i64 0,.int .i64 0];have E:=z0c (hB.alloc hB.size (.cells #[.int .i64 0,.int .i64 0,.int .i64 0,.int .i64 0,.int .i64 0,.int .i64 0,.int .i64 0,.int .i64 0,.int .i64 0,.int .i64 0,.int .i64 0,.int .i64 0,.int .i64 0,.int .i64 0,.int .i64 0,.int .i64 0,.int .i64 0,.int .i64 0,.int .i64 0,.int .i64 0,.int .i64 0,.int .i64 0,.int .i64 0,.int .i64 0,.int .i64 0,.bool false,.slice none 0 0,.int .i64 0,.int .i64 0,.int .i64 0] 155)) (g:=w1.heap.size) hB.size BD.toArray;clear r x y
 go_wp2_with (refine z0d (by kernel_rfl) 155 _ _ rfl _ BD.toArray rfl rfl 155 _ Bz D z A ?_)
 go_ret;exact⟨rfl,E⟩
def outV:List Int→Int
 |[]=>3
 |x::r=>if x=3 then outV r else x
theorem z8j(L:List Int):∀k,(∀j,j<k→L.getD j 0=3)→k<L.length→L.getD k 0≠3→outV L=L.getD k 0:=by
 induction L with
 |nil=>intro k _ h;simp at h
 |cons x r ih=>
  intro k h0 hk hne
  cases k with
  |zero=>simp[List.getD]at hne⊢;simp[outV,hne]
  |succ k=>
   have hx:x=3:=by simpa[List.getD]using h0 0 (by omega)
   have:=ih k (fun j hj=>by simpa[List.getD]using h0 (j+1) (by omega)) (by simpa using hk) (by simpa[List.getD]using hne);simp only[outV,hx,if_true];rw[this];simp[List.getD]
theorem z5W(L:List Int)(h:∀j,j<L.length→L.getD j 0=3):outV L=3:=by
 induction L with
 |nil=>rfl
 |cons x r ih=>
  have hx:x=3:=by simpa[List.getD]using h 0 (by simp)
  simp only[outV,hx,if_true];exact ih (fun j hj=>by simpa[List.getD]using h (j+1) (by simpa using hj))
def ocC(x:InstE):Int:=if insF x=0 then(if outV x.dec=3 then 4 else 0)else insF x
def ocV(x:InstE):Int:=if insF x=0 then(if outV x.dec=3 then 0 else outV x.dec)else 0
theorem z2g(p:InstQ)(w:World)(hG:Rul w)(h:instK.rd w p)(hl:p.n≤1048576):
  Calls Tryz.prog 93 #[.agg #[.bool p.has,p.vb,p.vr,p.vd]] w fun e w'=>e=.returned (.agg #[.int .i64 (ocC p.e),.int .i64 (ocV p.e)])∧Below w.heap.size w w':=by
 obtain⟨I,L⟩:=q0W h;have G:=fun w hG h=>z4h p w hG h hl
 have O:=fun(w':World) hb=>instK.rd_below (w':=w') h hb
 change∀w hG h,Calls _ _ _ _ fun e w'=>e=.returned (.tuple #[.agg (bdOf p).toArray,_])∧_ at G
 have z:Hid (insF p.e=0→bdOf p=brdC p.has p.vb p.e.rounds p.dec∧Wel p.e.rounds∧p.e.rounds.length≤4∧p.dec.length=3):=fun h0=>by
  obtain⟨h1,h2,h3,_⟩:=z2r h0;exact⟨if_pos h0,h1,h2.2,h3⟩
 obtain⟨D,hD⟩:∃D,ocC p.e=D:=⟨_,rfl⟩
 obtain⟨E,hE⟩:∃E,ocV p.e=E:=⟨_,rfl⟩
 have s:Hid ((insF p.e=0→(D=if outV p.dec=3 then 4 else 0)∧(E=if outV p.dec=3 then 0 else outV p.dec))∧(insF p.e≠0→D=insF p.e∧E=0)):=by
  refine⟨fun h0=>⟨?_,?_⟩,fun h0=>⟨?_,?_⟩⟩
  ·rw[←hD];exact if_pos h0
  ·rw[←hE];exact if_pos h0
  ·rw[←hD];exact if_neg h0
  ·rw[←hE];exact if_neg h0
 rw[hD,hE];clear hD hE;generalize bdOf p=BD at*;generalize insF p.e=C at*;generalize p.e.rounds=rs at*;obtain⟨has,vb,q,vr,d,vd,dec⟩:=p;obtain⟨ba,bk,rfl⟩:∃a c,vb=.slice a q.length c:=h.1.shape;obtain⟨va,vk,rfl⟩:∃a c,vr=.slice a d.length c:=h.2.1.shape;obtain⟨da,dk,rfl⟩:∃a c,vd=.slice a dec.length c:=h.2.2.shape;dsimp only at G O z s;have hB:Below w.heap.size w ((w.alloc (.cells #[.bool has,.slice ba q.length bk,.slice va d.length vk,.slice da dec.length dk] 49)).alloc (.cells #[.int .i64 0,.int .i64 0] 38)):=by go_grown
 have Rb:=Blk.new (w.alloc (.cells #[.bool has,.slice ba q.length bk,.slice va d.length vk,.slice da dec.length dk] 49)) 38 #[.int .i64 0,.int .i64 0];simp only[World.size_alloc]at Rb;have M:(Tryz.prog.info? 155).map (·.size)=some BD.toArray.size:=by rw[List.size_toArray,I];exact z2M
 have J:(#[.int .i64 0,.int .i64 0,.int .i64 0,.int .i64 0,.int .i64 0,.int .i64 0,.int .i64 0,.int .i64 0,.int .i64 0,.int .i64 0,.int .i64 0,.int .i64 0,.int .i64 0,.int .i64 0,.int .i64 0,.int .i64 0,.int .i64 0,.int .i64 0,.int .i64 0,.int .i64 0,.int .i64 0,.int .i64 0,.int .i64 0,.int .i64 0,.int .i64 0,.bool false,.slice none 0 0,.int .i64 0,.int .i64 0,.int .i64 0]:Array Value).size=BD.toArray.size:=(show 30=BD.length from I.symm)
 go_enter Tryz.func93,Tryz.ntmps93
 go_wp2_with fail
 generalize (w.alloc (.cells #[.bool has,.slice ba q.length bk,.slice va d.length vk,.slice da dec.length dk] 49)).alloc (.cells #[.int .i64 0,.int .i64 0] 38)=W at*;refine(G W (hG.below hB) (O W hB)).mono ?_;rintro e w1 ⟨rfl,N⟩;replace hB:=hB.trans (N.mono hB.size);replace Rb:=Rb.below N;have Bz:=Blk.new w1 155 #[.int .i64 0,.int .i64 0,.int .i64 0,.int .i64 0,.int .i64 0,.int .i64 0,.int .i64 0,.int .i64 0,.int .i64 0,.int .i64 0,.int .i64 0,.int .i64 0,.int .i64 0,.int .i64 0,.int .i64 0,.int .i64 0,.int .i64 0,.int .i64 0,.int .i64 0,.int .i64 0,.int .i64 0,.int .i64 0,.int .i64 0,.int .i64 0,.int .i64 0,.bool false,.slice none 0 0,.int .i64 0,.int .i64 0,.int .i64 0];have A:=z0c (hB.alloc hB.size (.cells #[.int .i64 0,.int .i64 0,.int .i64 0,.int .i64 0,.int .i64 0,.int .i64 0,.int .i64 0,.int .i64 0,.int .i64 0,.int .i64 0,.int .i64 0,.int .i64 0,.int .i64 0,.int .i64 0,.int .i64 0,.int .i64 0,.int .i64 0,.int .i64 0,.int .i64 0,.int .i64 0,.int .i64 0,.int .i64 0,.int .i64 0,.int .i64 0,.int .i64 0,.bool false,.slice none 0 0,.int .i64 0,.int .i64 0,.int .i64 0] 155)) (g:=w1.heap.size) hB.size BD.toArray;have x:Blk ((w1.alloc (.cells #[.int .i64 0,.int .i64 0,.int .i64 0,.int .i64 0,.int .i64 0,.int .i64 0,.int .i64 0,.int .i64 0,.int .i64 0,.int .i64 0,.int .i64 0,.int .i64 0,.int .i64 0,.int .i64 0,.int .i64 0,.int .i64 0,.int .i64 0,.int .i64 0,.int .i64 0,.int .i64 0,.int .i64 0,.int .i64 0,.int .i64 0,.int .i64 0,.int .i64 0,.bool false,.slice none 0 0,.int .i64 0,.int .i64 0,.int .i64 0] 155)).setRow w1.heap.size BD.toArray) (w.heap.size+1) 38 #[.int .i64 0,.int .i64 0]:=(setRow_other _ _ _ _ (by have:=Rb.lt;omega)).trans (Rb.below ((Below.refl _ _).alloc (Nat.le_refl _) _));have B2:=Bz.row BD.toArray;clear G O N Rb;by_cases h0:C=0
 ·obtain⟨T,Y,h4,y⟩:=z.out h0;have HD:Hid (D=if outV dec=3 then 4 else 0):=(s.out.1 h0).1;have HV:Hid (E=if outV dec=3 then 0 else outV dec):=(s.out.1 h0).2;subst h0;have U:=rng B2 (dec.map iv) (o:=27) (fun j v hv=>by
   obtain⟨hj,rfl⟩:=row_get y hv;rw[List.getElem?_toArray,T];exact z6r Y h4 y j hj)
  have V:(Tryz.prog.info? 148).map (·.size)=some (dec.map iv).length:=by rw[List.length_map,y];exact z1K
  clear z s T
  go_wp2_with (first|(refine z0d (by kernel_rfl) 155 _ _ rfl _ BD.toArray rfl rfl 155 _ Bz M J L ?_)|(refine z5b (by kernel_rfl) 148 _ rfl _ _ rfl (dec.map iv) _ U Tryz.underlying148 rfl V ?_))
  clear U Bz;generalize (w1.alloc (.cells #[.int .i64 0,.int .i64 0,.int .i64 0,.int .i64 0,.int .i64 0,.int .i64 0,.int .i64 0,.int .i64 0,.int .i64 0,.int .i64 0,.int .i64 0,.int .i64 0,.int .i64 0,.int .i64 0,.int .i64 0,.int .i64 0,.int .i64 0,.int .i64 0,.int .i64 0,.int .i64 0,.int .i64 0,.int .i64 0,.int .i64 0,.int .i64 0,.int .i64 0,.bool false,.slice none 0 0,.int .i64 0,.int .i64 0,.int .i64 0] 155)).setRow w1.heap.size BD.toArray=X at*;go_loopw[18] (fun j wr=>∃m:Nat,m≤3∧j=.int .i64 m∧Hid (∀j,j<m→dec.getD j 0=3)∧wr=X) (fun j _=>3-(intOf j).toNat)
  case atStart=>exact⟨0,Nat.zero_le _,rfl,fun j hj=>absurd hj (Nat.not_lt_zero _),rfl⟩
  case round=>
   obtain⟨m,hm,rfl,HA,rfl⟩:=hrel;obtain⟨q0,q1⟩:=x.cel2;obtain⟨f0,f1⟩:=x.frz2;by_cases aa:m<3
   ·have ae:(m:Int)<3:=by omega
    have ag:=fun w=>z8g y m aa w
    have HY:Hid (dec.getD m 0≠3→outV dec=dec.getD m 0):=fun hx=>z8j dec m HA.out (by omega) hx
    have HN:Hid (dec.getD m 0=3→∀j,j<m+1→dec.getD j 0=3):=fun hx j hj=>by
     by_cases Z:j=m
     ·subst Z;exact hx
     ·exact HA.out j (by omega)
    clear HA;generalize dec.getD m 0=v at*;by_cases hv:v=3
    ·have ad:(v !=3)=false:=by simp[hv]
     have R:=HN.out hv;have HR:Hid _:=R;clear HY HN R hv
     go_wp2
     go_roundw
     case rel=>exact⟨m+1,by omega,by go_num,HR.out,by first|rfl|trivial⟩
     case measure=>simp[intOf];omega
    ·have ad:(v !=3)=true:=by simpa using hv
     have r:=HY.out hv;have E1:Hid (D=0∧E=v):=by
      refine⟨?_,?_⟩
      ·rw[HD.out,r,if_neg hv]
      ·rw[HV.out,r,if_neg hv]
     clear HY HN HD HV r hv
     go_wp2
     exact bodyPost_ret (v:=.agg #[.int .i64 0,.int .i64 v]) (by simp[results,Tryz.results93,go_sem,q0,q1]) rfl ⟨by rw[E1.out.1,E1.out.2],(A.setCell (p:=⟨w.heap.size+1,0,none⟩) (by show w.heap.size≤w.heap.size+1;omega) _).setCell (p:=⟨w.heap.size+1,1,none⟩) (by show w.heap.size≤w.heap.size+1;omega) _⟩
   ·have ab:m=3:=by omega
    subst ab;have r:=z5W dec (by rw[y];exact HA.out);have E1:Hid (D=4∧E=0):=by
     refine⟨?_,?_⟩
     ·rw[HD.out,r,if_pos rfl]
     ·rw[HV.out,r,if_pos rfl]
    clear HA HD HV r
    go_wp2
    exact bodyPost_ret (v:=.agg #[.int .i64 4,.int .i64 0]) (by simp[results,Tryz.results93,go_sem,q0,q1]) rfl ⟨by rw[E1.out.1,E1.out.2],(A.setCell (p:=⟨w.heap.size+1,0,none⟩) (by show w.heap.size≤w.heap.size+1;omega) _).setCell (p:=⟨w.heap.size+1,1,none⟩) (by show w.heap.size≤w.heap.size+1;omega) _⟩
 ·have E1:Hid (D=C∧E=0):=s.out.2 h0;have af:(C !=0)=true:=by simpa using h0
  obtain⟨q0,q1⟩:=x.cel2;obtain⟨f0,f1⟩:=x.frz2;clear s z h0 B2 x;generalize hX:(w1.alloc (.cells #[.int .i64 0,.int .i64 0,.int .i64 0,.int .i64 0,.int .i64 0,.int .i64 0,.int .i64 0,.int .i64 0,.int .i64 0,.int .i64 0,.int .i64 0,.int .i64 0,.int .i64 0,.int .i64 0,.int .i64 0,.int .i64 0,.int .i64 0,.int .i64 0,.int .i64 0,.int .i64 0,.int .i64 0,.int .i64 0,.int .i64 0,.int .i64 0,.int .i64 0,.bool false,.slice none 0 0,.int .i64 0,.int .i64 0,.int .i64 0] 155)).setRow w1.heap.size BD.toArray=X at q0 q1 f0 f1 A
  go_wp2_with (refine z0d (by kernel_rfl) 155 _ _ rfl _ BD.toArray rfl rfl 155 _ Bz M J L ?_)
  exact bodyPost_ret (v:=.agg #[.int .i64 C,.int .i64 0]) (by simp[results,Tryz.results93,go_sem,q0,q1]) rfl ⟨by rw[E1.out.1,E1.out.2],(A.setCell (p:=⟨w.heap.size+1,0,none⟩) (by show w.heap.size≤w.heap.size+1;omega) _).setCell (p:=⟨w.heap.size+1,1,none⟩) (by show w.heap.size≤w.heap.size+1;omega) _⟩
theorem z0U(b o:Nat)(p:InstQ)(w:World)(hP:InstP w b o p)(hl:p.n≤1048576):
  Calls Tryz.prog 98 #[.pointer (some ⟨b,o,none⟩)] w fun e w'=>e=.returned (.int .i64 (outV p.dec))∧w'=w:=by
 obtain⟨has,vb,batch,vr,rounds,vd,dec⟩:=p;have hD:intK.At w vd dec:=hP.dec;obtain⟨da,dk,rfl⟩:=hD.shape;have hRow:=(z0y hD).2;obtain⟨c0,c1,c2,c3⟩:=hP.box;dsimp only[InstQ.n]at c0 c1 c2 c3 hl⊢;generalize hE:outV dec=E;have HE:Hid (outV dec=E):=hE;clear hE;go_enter Tryz.func98,Tryz.ntmps98
 go_wp2
 go_loop[3] (fun j=>∃k:Nat,k≤dec.length∧j=.int .i64 k∧Hid (∀j,j<k→dec.getD j 0=3)) (fun j=>dec.length-(intOf j).toNat)
 case atStart=>exact⟨0,Nat.zero_le _,rfl,fun j hj=>absurd hj (Nat.not_lt_zero _)⟩
 case round=>
  obtain⟨k,hk,rfl,HA⟩:=hrel;by_cases hlt:k<dec.length
  ·obtain⟨bb,off,rfl,hbs,hc⟩:=hRow k hlt;have HY:Hid (dec.getD k 0≠3→E=dec.getD k 0):=fun hx=>by rw[←HE.out];exact z8j dec k HA.out hlt hx
   have HN:Hid (dec.getD k 0=3→∀j,j<k+1→dec.getD j 0=3):=fun hx j hj=>by
    by_cases hjm:j=k
    ·subst hjm;exact hx
    ·exact HA.out j (by omega)
   clear HA;generalize dec.getD k 0=v at*;by_cases hv:v=3
   ·have hv':(v !=3)=false:=by simp[hv]
    have R:=HN.out hv;have HR:Hid _:=R;clear HY HN R hv
    go_wp2
    go_round
    case rel=>exact⟨k+1,by omega,by go_num,HR.out⟩
    case measure=>simp[intOf];omega
   ·have hv':(v !=3)=true:=by simpa using hv
    have E1:Hid (E=v):=HY.out hv;clear HY HN hv
    go_wp2
    go_ret;exact⟨by rw[E1.out];rfl,rfl⟩
  ·have hkl:k=dec.length:=by omega
   subst hkl;have E1:Hid (E=3):=by rw[←HE.out];exact z5W dec HA.out
   clear HA HE
   go_wp2
   go_ret;exact⟨by rw[E1.out];rfl,rfl⟩
section
variable {P:Type} {K:Kind P} {w w':World} {v v':Value} {ps:List P} {p:P} {B:Nat}
theorem Kind.row_snoc(ps:List P)(p:P):K.row (ps++[p])=K.row ps++K.cells p:=by simp[Kind.row]
theorem Kind.Own.snoc(h:K.Own w v ps)(G:(K.fp v ps).Nodup)(z:∀k∈K.fp v ps,B≤k)(hp:K.own w p)(I:(K.foot p).Nodup)(x:∀k∈K.foot p,k∉K.fp v ps)(A:∀k∈K.foot p,B≤k)(hB:B≤w.heap.size)
  (D:w'.ownsRow 0 K.ty K.size v' (ps.length+1) (K.row ps++K.cells p)) (hg:w.grownBy w' v.ownBlock) (c:v'.ownBlock=v.ownBlock∨v'.ownBlock=some w.heap.size):
  K.Own w' v' (ps++[p])∧(K.fp v' (ps++[p])).Nodup∧(∀k∈K.fp v' (ps++[p]),B≤k)∧Out (blk v) w w':=by
 have hO:Out (blk v) w w':=Out.of_grown hg;have d:=List.nodup_append.1 G;have E:=h.lt;have C:=K.own_lt hp;have y:(ps++[p]).flatMap K.foot=ps.flatMap K.foot++K.foot p:=by simp
 refine⟨⟨?_,?_⟩,?_,?_,hO⟩
 ·rw[List.length_append,List.length_singleton,Kind.row_snoc];exact D
 ·intro q hq;rcases List.mem_append.1 hq with hq|hq
  ·exact K.own_out (h.2 q hq) hO (fun k hk s=>d.2.2 k s k (List.mem_flatMap.2 ⟨q,hq,hk⟩) rfl)
  ·simp only[List.mem_singleton]at hq;subst hq;exact K.own_out hp hO (fun k hk s=>x k hk (by simp only[Kind.fp,List.mem_append];exact Or.inl s))
 ·unfold Kind.fp;rw[y];have r:(ps.flatMap K.foot++K.foot p).Nodup:=List.nodup_append.2 ⟨d.2.1,I,fun a ha b hb e=>x b hb (by simp only[Kind.fp,List.mem_append];exact Or.inr (e▸ha))⟩;rcases c with c|c
  ·have e:blk v'=blk v:=by unfold blk;rw[c]
   rw[e];refine List.nodup_append.2 ⟨d.1,r,fun a ha b hb e=>?_⟩;subst e;rcases List.mem_append.1 hb with hb|hb
   ·exact d.2.2 a ha a hb rfl
   ·exact x a hb (by simp only[Kind.fp,List.mem_append];exact Or.inl ha)
  ·have e:blk v'=[w.heap.size]:=by unfold blk;rw[c];rfl
   rw[e];refine List.nodup_append.2 ⟨by simp,r,fun a ha b hb e=>?_⟩;simp only[List.mem_singleton]at ha;subst e ha;rcases List.mem_append.1 hb with hb|hb
   ·have:=E _ (show w.heap.size∈K.fp v ps by simp only[Kind.fp,List.mem_append];exact Or.inr hb);omega
   ·have:=C _ hb;omega
 ·intro k hk;unfold Kind.fp at hk;rw[y]at hk;rcases List.mem_append.1 hk with hk|hk
  ·rcases c with c|c
   ·exact z k (by simp only[Kind.fp,List.mem_append];left;unfold blk at hk⊢;rw[c]at hk;exact hk)
   ·unfold blk at hk;rw[c]at hk;simp only[Option.toList,List.mem_singleton]at hk;omega
  ·rcases List.mem_append.1 hk with hk|hk
   ·exact z k (by simp only[Kind.fp,List.mem_append];exact Or.inr hk)
   ·exact A k hk
theorem Kind.own_nil(w:World):K.Own w (.slice none 0 0) ([]:List P)∧(K.fp (.slice none 0 0) ([]:List P))=[]:=⟨⟨World.ownsRow_nil _ _ _ _,fun p hp=>by simp at hp⟩,by simp[Kind.fp,blk,Value.ownBlock]⟩
end
theorem z1W(v:Value)(ps:List TxnQ)(w:World)(h:txnK.At w v ps)(av:∀p∈ps,0<p.acts.length)(hl:ps.length+nmL TxnQ.n ps≤1048576):
  Calls Tryz.prog 39 #[v] w fun e w'=>∃v' qs,e=.returned v'∧qs.map TxnQ.e=ps.map TxnQ.e∧txnK.Own w' v' qs∧(txnK.fp v' qs).Nodup∧(∀k∈txnK.fp v' qs,w.heap.size≤k)∧Below w.heap.size w w':=by
 obtain⟨a,cap,rfl⟩:=h.shape;obtain⟨i0,hi,az,aA,aB⟩:=info_parts z1G;obtain⟨ag,ah⟩:=Kind.own_nil (K:=txnK) w;have V:Hid ((txnK.fp (.slice none 0 0) ([]:List TxnQ)).Nodup∧∀k∈txnK.fp (.slice none 0 0) ([]:List TxnQ),w.heap.size≤k):=by
  rw[ah];exact⟨by simp,by simp⟩
 clear ah;go_enter Tryz.func39,Tryz.ntmps39
 go_wp2
 go_loopw[3,8] (fun v j wr=>∃ (k:Nat) (qs:List TxnQ),k≤ps.length∧j=.int .i64 k∧Hid (qs.map TxnQ.e=(ps.take k).map TxnQ.e)∧txnK.Own wr v qs∧Hid ((txnK.fp v qs).Nodup∧∀k∈txnK.fp v qs,w.heap.size≤k)∧Below w.heap.size w wr) (fun _ j _=>ps.length-(intOf j).toNat)
 case atStart=>exact⟨0,[],Nat.zero_le _,rfl,(rfl:_=_),ag,V,Below.refl _ _⟩
 case round=>
  clear V ag;obtain⟨k,qs,hk,rfl,HE,hO,HN,hb⟩:=hrel;obtain⟨sa,sc,rfl⟩:=hO.shape;have X:Hid (qs.length=k):=by
   have:=congrArg List.length HE.out;rw[List.length_map,List.length_map,List.length_take]at this;show qs.length=k;omega
  by_cases J:k<ps.length
  ·obtain⟨b,aC,rfl,aE,hc,d⟩:=(h.below hb).cell (by decide) k J;have z:∀j x,(txnK.cells ps[k])[j]?=some x→wr.cell? ⟨b,aC+k*4+j,none⟩=some x:=hc;have c0:=z 0 (.int .i64 ps[k].i) rfl;have c1:=z 1 (.int .i64 ps[k].s) rfl;have c2:=z 2 (.int .i64 ps[k].q) rfl;have c3:=z 3 (ps[k].va) rfl;have T:=z2J TxnQ.n ps k J;have C:=av _ (List.getElem_mem J);have W:Hid (∀p':TxnQ,p'.e=TxnQ.e ps[k]→(qs++[p']).map TxnQ.e=(ps.take (k+1)).map TxnQ.e):=fun p' aw=>by
    rw[List.take_succ_eq_append_getElem J,List.map_append,List.map_append,HE.out,List.map_singleton,List.map_singleton,aw]
   clear hc z;generalize ps[k]=p at*;obtain⟨i,s,q,va,c⟩:=p;replace d:actK.At wr va c:=d;replace T:c.length≤nmL TxnQ.n ps:=T;obtain⟨aa,ac,rfl⟩:=d.shape;dsimp only at c0 c1 c2 c3 C;obtain⟨ab,ao,aq⟩:∃ab ao,aa=some ⟨ab,ao,none⟩:=by
    rcases(z2x d).2 with h0|⟨ab,ao,e,_⟩
    ·have:=z0J c;rw[h0]at this;simp at this;omega
    ·exact⟨ab,ao,e⟩
   subst aq;have I:Below wr.heap.size wr (wr.alloc (.cells #[.int .i64 i,.int .i64 s,.int .i64 q,.slice (some ⟨ab,ao,none⟩) c.length ac] 44)):=by go_grown
   have ae:=z5Q i s q ab ao ac c _ ((z2x d).2.below I) C (by omega);rw[Nat.add_zero]at c0;replace hO:=hO.below I;replace hb:=hb.trans (I.mono hb.size);clear HE I
   go_wp2_with fail
   clear c0 c1 c2 c3;generalize wr.alloc (.cells #[.int .i64 i,.int .i64 s,.int .i64 q,.slice (some ⟨ab,ao,none⟩) c.length ac] 44)=Y at*;have aD:w.heap.size≤Y.heap.size:=hb.size;refine ae.mono ?_;rintro e w2 ⟨a2,c2,rfl,ak,E⟩;have U:=hO.lt;replace hO:=hO.below E;replace hb:=hb.trans (E.mono hb.size);obtain⟨o2,af⟩:=z04 ak;have hP:txnK.own w2 ⟨i,s,q,.slice a2 c.length c2,c⟩:=⟨o2,fun _ _=>trivial⟩
   have r:∀x∈txnK.foot ⟨i,s,q,.slice a2 c.length c2,c⟩,Y.heap.size≤x:=fun x hx=>af x (by rw[←z2y (.slice a2 c.length c2) c];exact hx)
   have ad:(txnK.foot ⟨i,s,q,.slice a2 c.length c2,c⟩).Nodup:=by
    show(actK.fp _ _).Nodup;rw[z2y];exact z1h _
   have y:Below w2.heap.size w2 (w2.alloc (.cells #[.int .i64 i,.int .i64 s,.int .i64 q,.slice a2 c.length c2] 44)):=by go_grown
   have N:=hO.below y;have Z:=txnK.own_out (F:=[]) hP (Out.of_below y) (fun _ _=>by simp);have G:=hb.trans (y.mono hb.size);clear ae ak hO hP af;have D:=N.1
   go_wp2_with (at_builtin;refine wpList_append_own_at _ rfl _ _ 27 rfl 0 44 i0 (.agg #[.int .i64 0,.int .i64 0,.int .i64 0,.slice none 0 0]) 4 48 Tryz.underlying27 hi az aA aB rfl (by decide) _ qs.length (txnK.row qs) rfl D ⟨w2.heap.size,0,none⟩ 1 1 [.int .i64 i,.int .i64 s,.int .i64 q,.slice a2 c.length c2] rfl rfl ?c1 ?c2 ?c3 ?c4 ?c5 ?_)
   all_goals try(case c1=>intro j u hj;match j,hj with|0,hj=>simp at hj;subst hj;simp[Addr.add]|1,hj=>simp at hj;subst hj;simp[Addr.add]|2,hj=>simp at hj;subst hj;simp[Addr.add]|3,hj=>simp at hj;subst hj;simp[Addr.add])
   all_goals try(case c2=>intro u hu;simp at hu;rcases hu with rfl|rfl|rfl|rfl<;>rfl)
   all_goals try(case c3=>have:=X.out;unfold maxLen;omega)
   all_goals try(case c4=>have:=X.out;omega)
   all_goals try(case c5=>first|omega|simp)
   intro v' w5 M A aj O;clear aj D;rw[show w2.heap.size+1=(w2.alloc (.cells #[.int .i64 i,.int .i64 s,.int .i64 q,.slice a2 c.length c2] 44)).heap.size from(World.size_alloc _ _).symm]at O;generalize ax:w2.alloc (.cells #[.int .i64 i,.int .i64 s,.int .i64 q,.slice a2 c.length c2] 44)=WA at*;clear ax;have aF:Y.heap.size≤WA.heap.size:=by have:=E.size;have:=y.size;omega
   obtain⟨ap,ai,L,al⟩:=N.snoc HN.out.1 HN.out.2 Z ad (fun x hx ay=>by have:=U x ay;have:=r x hx;omega) (fun x hx=>by have:=r x hx;omega) G.size M A O;have ar:Below w.heap.size w w5:=Out.keep G al G.size (fun x hx=>HN.out.2 x (by simp only[Kind.fp,List.mem_append];exact Or.inl hx));have am:Hid ((qs++[(⟨i,s,q,.slice a2 c.length c2,c⟩:TxnQ)]).map TxnQ.e=(ps.take (k+1)).map TxnQ.e):=W.out _ rfl;have an:Hid ((txnK.fp v' (qs++[(⟨i,s,q,.slice a2 c.length c2,c⟩:TxnQ)])).Nodup∧∀k∈txnK.fp v' (qs++[(⟨i,s,q,.slice a2 c.length c2,c⟩:TxnQ)]),w.heap.size≤k):=⟨ai,L⟩
   clear W HN U r ad Z N G M A O al ai L d hb y E T C
   go_wp2
   go_roundw
   case rel=>exact⟨k+1,_,by omega,by go_num,am,ap,an,ar⟩
   case measure=>simp[intOf];omega
  ·have au:k=ps.length:=by omega
   subst au;have hE:=HE.out;rw[List.take_length]at hE;clear HE
   go_wp2
   go_ret;exact⟨_,qs,rfl,hE,hO,HN.out.1,HN.out.2,hb⟩
theorem z0z(v:Value)(zs:List Int):(intK.fp v zs).Nodup:=by
 rw[z71];exact z1h v
theorem z0f(w:World)(g:Nat)(cs:Array Value):Out [g] w (w.setRow g cs):=
 ⟨rfl,rfl,rfl,by rw[setRow_size];exact Nat.le_refl _,fun k _ hn=>setRow_other w g k cs (by simpa using hn)⟩
theorem z0l:(Tryz.prog.info? 49).map (·.size)=some 4:=by kernel_rfl
theorem z7r(b r cap:Nat)(zs:List Int)(w:World)(h:Row .i64 w (some ⟨b,r,none⟩) zs)(h0:0<zs.length)(hl:zs.length≤1048576):
  Calls Tryz.prog 121 #[.slice (some ⟨b,r,none⟩) zs.length cap] w fun e w'=>∃a c,e=.returned (.slice a zs.length c)∧
   w'.ownsRow w.heap.size 2 1 (.slice a zs.length c) zs.length (zs.map iv)∧Below w.heap.size w w':=by
 obtain⟨i0,hi,y,A,C⟩:=info_parts z79;have hs:=z2H (Lies.below (z2w h) (w':=w.alloc (.cells #[] 2)) (by go_grown));have x:(zs.map iv).length=zs.length*1:=by simp
 have ho:=World.ownsRow_lit (e:=2) (size:=1) w #[] 0 (Nat.le_refl _) (by decide) rfl;have HS:Hid (∀j u,(zs.map iv)[j]?=some u→_):=hs;clear hs;go_enter Tryz.func121,Tryz.ntmps121
 go_wp2_with (at_builtin;refine wpList_append_own _ rfl _ _ 47 rfl w.heap.size 2 i0 (.int .i64 0) 1 8 Tryz.underlying47 hi y A C rfl (by decide) _ 0 [] rfl ho ⟨b,r,none⟩ zs.length cap (zs.map iv) rfl x HS.out ?c2 ?c3 ?c4 ?c5 ?_)
 all_goals try(case c2=>first|(intro u hu;obtain⟨z,_,rfl⟩:=List.mem_map.1 hu;rfl)|(intro u hu;rfl))
 all_goals try(case c3=>unfold maxLen;omega)
 all_goals try(case c4=>omega)
 all_goals try(case c5=>simp)
 intro v' w2 q d _;obtain⟨a2,c2,rfl⟩:=z0p q;have s:Below w.heap.size w w2:=((Below.refl _ _).alloc (Nat.le_refl _) _).grown d (by simp) (fun k hk=>by simp[Value.ownBlock]at hk;omega);try simp only[Nat.zero_add]at q
 clear d HS ho
 go_wp2
 go_ret;exact⟨a2,c2,rfl,by simpa using q,s⟩
theorem z3b(v:Value)(zs:List Int)(w:World)(h:intK.At w v zs)(h0:0<zs.length)(hl:zs.length≤1048576):
  Calls Tryz.prog 121 #[v] w fun e w'=>∃a c,e=.returned (.slice a zs.length c)∧intK.Own w' (.slice a zs.length c) zs∧(∀k∈intK.fp (.slice a zs.length c) zs,w.heap.size≤k)∧Below w.heap.size w w':=by
 obtain⟨a,cap,rfl⟩:=h.shape;have hR:=(z0y h).2;obtain⟨b,off,rfl,_⟩:=hR 0 h0;refine(z7r b off cap zs w hR h0 hl).mono ?_;rintro e w2 ⟨a2,c2,rfl,ho,hb⟩;obtain⟨O,G⟩:=z3P rfl ho;exact⟨a2,c2,rfl,O,G,hb⟩
theorem z1X(v:Value)(ps:List TxnQ)(w:World)(h:txnK.At w v ps)(ar:∀p∈ps,0<p.acts.length)(hl:ps.length+nmL TxnQ.n ps≤1048576):
  Calls Tryz.prog 45 #[v] w fun e w'=>∃v' qs,e=.returned v'∧qs.map TxnQ.e=ps.map TxnQ.e∧txnK.Own w' v' qs∧(txnK.fp v' qs).Nodup∧(∀k∈txnK.fp v' qs,w.heap.size≤k)∧Below w.heap.size w w':=by
 obtain⟨a,cap,rfl⟩:=h.shape;obtain⟨i0,hi,ax,ay,az⟩:=info_parts z1G;have ho:=World.ownsRow_lit (e:=44) (size:=4) w #[] 0 (Nat.le_refl _) (by decide) rfl;have ae:txnK.Own (w.alloc (.cells #[] 44)) (.slice (some ⟨w.heap.size,0,none⟩) 0 0) ([]:List TxnQ):=⟨(z04 ho).1,fun p hp=>by simp at hp⟩
 have ag:Below w.heap.size w (w.alloc (.cells #[] 44)):=by go_grown
 have U:Hid ((txnK.fp (.slice (some ⟨w.heap.size,0,none⟩) 0 0) ([]:List TxnQ)).Nodup∧∀k∈txnK.fp (.slice (some ⟨w.heap.size,0,none⟩) 0 0) ([]:List TxnQ),w.heap.size≤k):=by
  refine⟨?_,?_⟩
  ·simp[Kind.fp,blk,Value.ownBlock]
  ·simp[Kind.fp,blk,Value.ownBlock]
 clear ho;go_enter Tryz.func45,Tryz.ntmps45
 go_wp2
 go_loopw[3,4] (fun v j wr=>∃ (k:Nat) (qs:List TxnQ),k≤ps.length∧j=.int .i64 k∧Hid (qs.map TxnQ.e=(ps.take k).map TxnQ.e)∧txnK.Own wr v qs∧Hid ((txnK.fp v qs).Nodup∧∀k∈txnK.fp v qs,w.heap.size≤k)∧Below w.heap.size w wr) (fun _ j _=>ps.length-(intOf j).toNat)
 case atStart=>exact⟨0,[],Nat.zero_le _,rfl,(rfl:_=_),ae,U,ag⟩
 case round=>
  clear U ae ag;obtain⟨k,qs,hk,rfl,HE,hO,HN,hb⟩:=hrel;obtain⟨sa,sc,rfl⟩:=hO.shape;have W:Hid (qs.length=k):=by
   have:=congrArg List.length HE.out;rw[List.length_map,List.length_map,List.length_take]at this;show qs.length=k;omega
  by_cases I:k<ps.length
  ·obtain⟨b,aA,rfl,aC,hc,d⟩:=(h.below hb).cell (by decide) k I;have z:∀j x,(txnK.cells ps[k])[j]?=some x→wr.cell? ⟨b,aA+k*4+j,none⟩=some x:=hc;have c0:=z 0 (.int .i64 ps[k].i) rfl;have c1:=z 1 (.int .i64 ps[k].s) rfl;have c2:=z 2 (.int .i64 ps[k].q) rfl;have c3:=z 3 (ps[k].va) rfl;have O:=z2J TxnQ.n ps k I;have C:=ar _ (List.getElem_mem I);have V:Hid (∀p':TxnQ,p'.e=TxnQ.e ps[k]→(qs++[p']).map TxnQ.e=(ps.take (k+1)).map TxnQ.e):=fun p' au=>by
    rw[List.take_succ_eq_append_getElem I,List.map_append,List.map_append,HE.out,List.map_singleton,List.map_singleton,au]
   clear hc z;generalize ps[k]=p at*;obtain⟨i,s,q,va,c⟩:=p;replace d:actK.At wr va c:=d;replace O:c.length≤nmL TxnQ.n ps:=O;obtain⟨aa,ac,rfl⟩:=d.shape;dsimp only at c0 c1 c2 c3 C;obtain⟨ab,ao,an⟩:∃ab ao,aa=some ⟨ab,ao,none⟩:=by
    rcases(z2x d).2 with h0|⟨ab,ao,e,_⟩
    ·have:=z0J c;rw[h0]at this;simp at this;omega
    ·exact⟨ab,ao,e⟩
   subst an;have Z:=z4Q i s q ab ao ac c _ (z2x d).2 C (by omega);rw[Nat.add_zero]at c0;clear HE
   go_wp2_with fail
   clear c0 c1 c2 c3;have aB:w.heap.size≤wr.heap.size:=hb.size;refine Z.mono ?_;rintro e w2 ⟨a2,c2,rfl,ai,E⟩;have T:=hO.lt;replace hO:=hO.below E;replace hb:=hb.trans (E.mono hb.size);obtain⟨o2,ad⟩:=z04 ai;have hP:txnK.own w2 ⟨i,s,q,.slice a2 c.length c2,c⟩:=⟨o2,fun _ _=>trivial⟩
   have r:∀x∈txnK.foot ⟨i,s,q,.slice a2 c.length c2,c⟩,wr.heap.size≤x:=fun x hx=>ad x (by rw[←z2y (.slice a2 c.length c2) c];exact hx)
   have Y:(txnK.foot ⟨i,s,q,.slice a2 c.length c2,c⟩).Nodup:=by
    show(actK.fp _ _).Nodup;rw[z2y];exact z1h _
   have y:Below w2.heap.size w2 (w2.alloc (.cells #[.int .i64 i,.int .i64 s,.int .i64 q,.slice a2 c.length c2] 44)):=by go_grown
   have M:=hO.below y;have X:=txnK.own_out (F:=[]) hP (Out.of_below y) (fun _ _=>by simp);have G:=hb.trans (y.mono hb.size);clear Z ai hO hP ad;have D:=M.1
   go_wp2_with (at_builtin;refine wpList_append_own_at _ rfl _ _ 27 rfl 0 44 i0 (.agg #[.int .i64 0,.int .i64 0,.int .i64 0,.slice none 0 0]) 4 48 Tryz.underlying27 hi ax ay az rfl (by decide) _ qs.length (txnK.row qs) rfl D ⟨w2.heap.size,0,none⟩ 1 1 [.int .i64 i,.int .i64 s,.int .i64 q,.slice a2 c.length c2] rfl rfl ?c1 ?c2 ?c3 ?c4 ?c5 ?_)
   all_goals try(case c1=>intro j u hj;match j,hj with|0,hj=>simp at hj;subst hj;simp[Addr.add]|1,hj=>simp at hj;subst hj;simp[Addr.add]|2,hj=>simp at hj;subst hj;simp[Addr.add]|3,hj=>simp at hj;subst hj;simp[Addr.add])
   all_goals try(case c2=>intro u hu;simp at hu;rcases hu with rfl|rfl|rfl|rfl<;>rfl)
   all_goals try(case c3=>have:=W.out;unfold maxLen;omega)
   all_goals try(case c4=>have:=W.out;omega)
   all_goals try(case c5=>first|omega|simp)
   intro v' w5 L A ah N;clear ah D;rw[show w2.heap.size+1=(w2.alloc (.cells #[.int .i64 i,.int .i64 s,.int .i64 q,.slice a2 c.length c2] 44)).heap.size from(World.size_alloc _ _).symm]at N;generalize av:w2.alloc (.cells #[.int .i64 i,.int .i64 s,.int .i64 q,.slice a2 c.length c2] 44)=WA at*;clear av;have aD:wr.heap.size≤WA.heap.size:=by have:=E.size;have:=y.size;omega
   obtain⟨am,af,J,aj⟩:=M.snoc HN.out.1 HN.out.2 X Y (fun x hx aw=>by have:=T x aw;have:=r x hx;omega) (fun x hx=>by have:=r x hx;omega) G.size L A N;have ap:Below w.heap.size w w5:=Out.keep G aj G.size (fun x hx=>HN.out.2 x (by simp only[Kind.fp,List.mem_append];exact Or.inl hx));have ak:Hid ((qs++[(⟨i,s,q,.slice a2 c.length c2,c⟩:TxnQ)]).map TxnQ.e=(ps.take (k+1)).map TxnQ.e):=V.out _ rfl;have al:Hid ((txnK.fp v' (qs++[(⟨i,s,q,.slice a2 c.length c2,c⟩:TxnQ)])).Nodup∧∀k∈txnK.fp v' (qs++[(⟨i,s,q,.slice a2 c.length c2,c⟩:TxnQ)]),w.heap.size≤k):=⟨af,J⟩
   clear V HN T r Y X M G L A N aj af J d hb y E O C
   go_wp2
   go_roundw
   case rel=>exact⟨k+1,_,by omega,by go_num,ak,am,al,ap⟩
   case measure=>simp[intOf];omega
  ·have aq:k=ps.length:=by omega
   subst aq;have hE:=HE.out;rw[List.take_length]at hE;clear HE
   go_wp2
   go_ret;exact⟨_,qs,rfl,hE,hO,HN.out.1,HN.out.2,hb⟩
abbrev q0E(code cc:Int)(cd ck:Bool)(cx:Int)(p:InstQ):Array Value:=#[.int .i64 code,.int .i64 cc,.bool cd,.bool ck,.int .i64 cx,.bool p.has,p.vb,p.vr,p.vd]
def z1l:InstQ:=⟨false,.slice none 0 0,[],.slice none 0 0,[],.slice none 0 0,[]⟩
def z1L:InstE:=⟨false,[],[],[]⟩
theorem z0r(w:World):instK.own w z1l:=⟨(Kind.own_nil w).1,(Kind.own_nil w).1,(Kind.own_nil w).1⟩
theorem z0x:instK.foot z1l=[]:=by
 show txnK.fp _ _++(roundK.fp _ _++intK.fp _ _)=[]
 simp[z1l,Kind.fp,blk,Value.ownBlock]
theorem z0C:(instK.foot z1l).Nodup:=by rw[z0x];simp
theorem z0v:(Tryz.prog.info? 83).map (·.size)=some 9:=by kernel_rfl
def sbC(x:InstE)(ds:List TxnD):Int:=if insF x=0 then(if x.has then 6 else batF ds)else insF x
def sbI(x:InstE)(ds:List TxnD):InstE:=if sbC x ds=0 then⟨true,ds,x.rounds,x.dec⟩else z1L
theorem z9i(i s q:Int):txnF i s q []≠0:=by
 unfold txnF;split<;>simp
theorem z8k{bt:List TxnQ}(h:batF (bt.map TxnQ.e)=0):∀p∈bt,0<p.acts.length:=by
 intro p hp;have ha:allF (bt.map TxnQ.e)=0:=by
  unfold batF at h;split at h
  ·omega
  ·split at h
   ·assumption
   ·exact h
 have hz:∀ (ds:List TxnD),allF ds=0→∀d∈ds,d.F=0:=by
  intro ds;induction ds with
  |nil=>intro _ d hd;simp at hd
  |cons x r ih=>
   intro h d hd;simp only[allF]at h;by_cases hx:x.F=0
   ·rw[if_pos hx]at h;rcases List.mem_cons.1 hd with rfl|hd
    ·exact hx
    ·exact ih h d hd
   ·rw[if_neg hx]at h;exact absurd h hx
 have hf:=hz _ ha p.e (List.mem_map.2 ⟨p,hp,rfl⟩);show 0<p.acts.length;have hf':txnF p.i p.s p.q p.acts=0:=hf;rcases Nat.eq_zero_or_pos p.acts.length with h0|h0
 ·exfalso
  have:p.acts=[]:=List.eq_nil_of_length_eq_zero h0;rw[this]at hf';exact z9i _ _ _ hf'
 ·exact h0
structure KeepP (p:World→Prop) where
 val:World
 isP:p val
section
variable {P:Program} {ops:Array Oper} {Q:Exit→Act→World→Prop} {S:World→Prop} {st:Nat}
def z09(P:Program)(ops:Array Oper)(Q:Exit→Act→World→Prop)(S:World→Prop)(st:Nat):Nat→Array Bool→Act→World→Prop
 |0,listed,a,w=>Region.ready .any ops listed=[]∧Q .normal a w
 |fuel+1,listed,a,w=>
  (Region.ready .any ops listed=[]→Q .normal a w)∧
  ∀i∈Region.ready .any ops listed,wpOp P ops Q i (fun a' w'=>((listed.setIfInBounds i true).getD st true=true∨S w')∧z09 P ops Q S st fuel (listed.setIfInBounds i true) a' w') a w
theorem z4T:∀ (fuel:Nat) (listed:Array Bool) (a:Act) (w:World),z09 P ops Q S st fuel listed a w→wpAny P .any ops Q fuel listed a w
 |0,_,_,_,h=>h
 |fuel+1,_,_,_,h=>⟨h.1,fun i hi=>wpOp_mono (fun a' w' h'=>z4T fuel _ a' w' h'.2) (h.2 i hi)⟩
theorem z3E{i:Nat}{oi:Oper}{v:Value}(hi:ops[i]?=some oi)(D:∀ (j:Nat) (o:Oper) cs b,ops[j]?=some o→o.op≠.select cs b)
  (hQ:∀c a w,Q (.panic c) (a.put oi.dst v) w→Q (.panic c) a w) (I:i≠st) (V:∀o,ops[st]?=some o→∃e∈o.after,Region.binds .any e=true∧e.on=i):
  ∀ (q:Nat) (d:Array Bool) (a:Act) (w:World),
   (∀j oj,ops[j]?=some oj→j≠i→d.getD j true=false→(∀e∈oj.after,Region.binds .any e=true→e.on≠i)→oi.apart ops oj=true)→
   i∈Region.ready .any ops d→YieldsIf P ops S oi v a→S w→d.getD st true=false→
   z09 P ops Q S st q (d.setIfInBounds i true) (a.put oi.dst v) w→z09 P ops Q S st (q+1) d a w:=by
 intro q;induction q with
 |zero=>
  intro d a w _ hr hy hS hl H;refine⟨fun h=>(by rw[h]at hr;cases hr),fun j hj=>?_⟩;by_cases r:j=i
  ·subst r;exact hy.wpOp hi hS ⟨Or.inr hS,H⟩
  ·have:=ready_mono hj r;rw[H.1]at this
   cases this
 |succ q ih=>
  intro d a w s hr hy hS hl H;refine⟨fun h=>(by rw[h]at hr;cases hr),fun j hj=>?_⟩;by_cases r:j=i
  ·subst r;exact hy.wpOp hi hS ⟨Or.inr hS,H⟩
  ·have h1:=H.2 j (ready_mono hj r);obtain⟨A,oj,y,G⟩:=mem_ready.1 hj;have C:∀e∈oj.after,Region.binds .any e=true→e.on≠i:=fun e he hb M=>by
    have h1:=G e he hb;have h0:=(mem_ready.1 hr).1;rw[M]at h1;rcases Nat.lt_or_ge i d.size with h'|h'
    ·simp[h']at h0 h1;rw[h0]at h1;cases h1
    ·simp[Array.getElem?_eq_none h']at h1
   have z:j≠st:=by
    intro e;subst e;obtain⟨e,he,hb,U⟩:=V oj y;exact C e he hb U
   have h2:=wpOp_putIf y (s j oj y r A C) (fun cs b=>D i oi cs b hi) (fun cs b=>D j oj cs b y) hQ hy h1;have x:∀k ok,ops[k]?=some ok→k≠i→(d.setIfInBounds j true).getD k true=false→
     (∀e∈ok.after,Region.binds .any e=true→e.on≠i)→oi.apart ops ok=true:=fun k ok hk N L T=>by
    refine s k ok hk N ?_ T;by_cases J:j=k
    ·subst J;exact A
    ·rw[getD_set_ne true J]at L;exact L
   have O:(d.setIfInBounds j true).getD st true=false:=by rw[getD_set_ne true z];exact hl
   refine wpOp_mono (fun a' w' h3=>?_) h2;have E:S w':=by
    rcases h3.2.1 with h4|h4
    ·rw[getD_set_ne true z,getD_set_ne true I,hl]at h4
     cases h4
    ·exact h4
   refine⟨Or.inr E,ih (d.setIfInBounds j true) a' w' x (ready_mono hr (Ne.symm r)) h3.1 E O ?_⟩;rw[Array.setIfInBounds_comm _ _ r];exact h3.2.2
def PanTo(Q:Exit→Act→World→Prop)(R:List PanicEntry→World→Prop):Exit→Act→World→Prop
 | .panic c,a,w=>a.defers=[]∧R c w
 |e,a,w=>Q e a w
theorem z5e(a:Act)(d:Option Tmp)(v:Value):(a.put d v).defers=a.defers:=by cases d<;>rfl
theorem PanTo.put{R:List PanicEntry→World→Prop}:∀c (a:Act) (d:Option Tmp) (v:Value) w,PanTo Q R (.panic c) (a.put d v) w→PanTo Q R (.panic c) a w:=fun c a d v w h=>⟨(z5e a d v)▸h.1,h.2⟩
variable {R:List PanicEntry→World→Prop}
theorem PanTo.imp(hR:∀c a w,a.defers=[]→R c w→Q (.panic c) a w):∀ (e:Exit) (a:Act) (w:World),PanTo Q R e a w→Q e a w:=fun e a w h=>by
 cases e<;>first|exact h|exact hR _ _ _ h.1 h.2
theorem z4i{id:Nat}{a:Act}{w:World}(st:Nat)(hm:P.follows .mixedOrders=true)(hR:∀c a w,a.defers=[]→R c w→Q (.panic c) a w)
  (h:z09 P ops (PanTo Q R) S st ops.size (Array.replicate ops.size false) a w.drew):(Code.region id ops true).wp P Q a w:=
 Code.wp_mono (PanTo.imp hR) (wp_region_any hm (z4T _ _ _ _ h))
def z8l(ops:Array Oper)(st i:Nat):Bool:=match ops[st]? with
 |some o=>o.after.any (fun e=>Region.binds .any e && e.on==i)
 |none=>true
theorem z6Z{i:Nat}(h:z8l ops st i=true):∀o,ops[st]?=some o→∃e∈o.after,Region.binds .any e=true∧e.on=i:=by
 intro o ho;unfold z8l at h;rw[ho]at h;obtain⟨k,hk,_,_,hb⟩:=Array.any_iff_exists.1 h;simp only[Bool.and_eq_true,beq_iff_eq]at hb;exact⟨o.after[k],Array.getElem_mem hk,hb⟩
def z5X(ops:Array Oper)(st:Nat):List Nat→Array Bool→Bool
 |[],_=>true
 |i::r,l=>Region.free .any ops l i && (Region.ready .any ops l).contains i && (i !=st) && z8l ops st i && !(l.getD st true) && z5X ops st r (l.setIfInBounds i true)
theorem z7s(hs:Region.noSelect ops=true):
  ∀ (s:List Nat) (os:List Oper) (l:Array Bool) (a:Act) (w:World) (q:Nat),s.map (ops[·]?)=os.map some→os.all (fun o=>z3s o.op)=true→z5X ops st s l=true→S w→
   wpQuiet P ops S (fun a'=>z09 P ops (PanTo Q R) S st q (z21 s l) a' w) os a→z09 P ops (PanTo Q R) S st (q+s.length) l a w:=by
 intro s;induction s with
 |nil=>
  intro os l a w q d _ _ _ h
  cases os with
  |nil=>exact h
  |cons o os=>simp at d
 |cons i r ih=>
  intro os l a w q d y C hS h
  cases os with
  |nil=>simp at d
  |cons o os=>
   simp only[List.map_cons,List.cons.injEq]at d;simp only[List.all_cons,Bool.and_eq_true]at y;simp only[z5X,Bool.and_eq_true,bne_iff_ne,ne_eq,Bool.not_eq_true']at C;obtain⟨⟨⟨⟨⟨hf,hr⟩,A⟩,D⟩,hl⟩,z⟩:=C;simp only[wpQuiet]at h;by_cases hw:Region.wanted o (yielded ops a.tmps)=true
   ·rw[if_pos hw]at h;obtain⟨v,hv,hk⟩:=h;refine z3E (i:=i) (oi:=o) (v:=v) d.1 (Region.noSelect_spec hs) (fun c a w h=>PanTo.put c a _ _ w h) A (z6Z D) _ l a w (Region.free_spec d.1 hf) (by simpa using hr) (Or.inl ⟨hw,fun u hu=>?_⟩) hS hl (ih os _ _ w q d.2 y.2 z hS hk);have hq:=hv u hu;unfold Oper.quietAt at hq
    cases hrun:(execOp a.eval o).run P u with
    |ok n u'=>
     obtain⟨x,rfl⟩:=z3Z y.1 hrun;rw[hrun]at hq;obtain⟨e1,e2⟩:=hq;rw[e1,e2]
    |halt x u'=>
     rw[hrun]at hq;exact hq.elim
   ·rw[if_neg hw]at h;have E:Region.wanted o (yielded ops a.tmps)=false:=by simpa using hw
    exact z3E (i:=i) (oi:=o) (v:=undef) d.1 (Region.noSelect_spec hs) (fun c a w h=>PanTo.put c a _ _ w h) A (z6Z D) _ l a w (Region.free_spec d.1 hf) (by simpa using hr) (Or.inr ⟨E,rfl⟩) hS hl (ih os _ _ w q d.2 y.2 z hS h)
theorem segX(rs:List (Nat × Nat))(fuel:Nat){F:Nat}{l:Array Bool}{a:Act}{w:World}(hF:F=fuel+(z5x rs).length)(hs:Region.noSelect ops=true)(hm:(z5x rs).map (ops[·]?)=(z24 ops.toList rs).map some)
  (hp:(z24 ops.toList rs).all (fun o=>z3s o.op)=true) (hok:z5X ops st (z5x rs) l=true) (hS:S w)
  (h:wpQuiet P ops S (fun a'=>z09 P ops (PanTo Q R) S st fuel (z21 (z5x rs) l) a' w) (z24 ops.toList rs) a):z09 P ops (PanTo Q R) S st F l a w:=by
 subst hF;exact z7s hs (z5x rs) _ l a w fuel hm hp hok hS h
theorem q1A(i:Nat)(d:Option Tmp)(f:Nat)(args:Array Value)(fuel:Nat){F:Nat}{l:Array Bool}{a:Act}{w:World}(hF:F=fuel+1)
  (hd:(ops[i]?).map (·.dst)=some d) (hr:Region.ready .any ops l=[i]) (hw:(ops[i]?).map (fun o=>Region.wanted o (yielded ops a.tmps))=some true)
  (hrun:(ops[i]?).map (fun o=>(execOp a.eval o).run P w)=some (.ok (.enter f args) w))
  (hdf:a.defers=[]) (hc:Calls P f args w (fun e w'=>(∃v,e=.returned v∧S w'∧z09 P ops (PanTo Q R) S st fuel (z21 [i] l) (a.put d v) w')∨∃c,e=.panicked c∧R c w')):z09 P ops (PanTo Q R) S st F l a w:=by
 subst hF
 cases ho:ops[i]? with
 |none=>rw[ho]at hd;simp at hd
 |some o=>
  rw[ho]at hd hw hrun;simp only[Option.map_some,Option.some.injEq]at hd hw hrun;subst hd;refine⟨fun h0=>(by rw[hr]at h0;cases h0),fun j hj=>?_⟩;rw[hr]at hj;simp only[List.mem_singleton]at hj;subst hj;unfold wpOp;simp only[ho,hw,if_true];refine .inl ?_;unfold Oper.wp;rw[hrun];simp only[Oper.upon];refine hc.mono fun e w' he=>?_
  rcases he with⟨v,rfl,h1,h2⟩|⟨c,rfl,h1⟩
  ·exact⟨Or.inr h1,h2⟩
  ·exact⟨hdf,h1⟩
def ThenX(Q:Exit→Act→World→Prop)(R:List PanicEntry→World→Prop)(K:Act→World→Prop):Exit→Act→World→Prop
 | .normal,a,w=>K a w
 |e,a,w=>PanTo Q R e a w
theorem ThenX.to{K:Act→World→Prop}{a:Act}{w:World}(h:K a w):ThenX Q R K .normal a w:=h
theorem oneX(i:Nat)(o:Oper)(fuel:Nat){F:Nat}{l:Array Bool}{a:Act}{w:World}(hF:F=fuel+1)(ho:ops[i]?=some o)(hr:Region.ready .any ops l=[i])
  (h:wpList P ops (ThenX Q R (fun a' w'=>((z21 [i] l).getD st true=true∨S w')∧z09 P ops (PanTo Q R) S st fuel (z21 [i] l) a' w')) [o] a w):z09 P ops (PanTo Q R) S st F l a w:=by
 subst hF;refine⟨fun h0=>(by rw[hr]at h0;cases h0),fun j hj=>?_⟩;rw[hr]at hj;simp only[List.mem_singleton]at hj;subst hj;unfold wpOp;simp only[ho];simp only[wpList]at h;split at h
 ·rename_i hw
  rw[if_pos hw];rcases h with h|⟨h1,h2⟩
  ·left;unfold Oper.wp at h⊢;revert h;generalize (execOp a.eval o).run P w=r;intro h;unfold Oper.upon at h⊢;split at h
   ·exact h
   ·exact h
   ·exact h
   ·refine Calls.mono h fun e w' he=>?_
    cases e<;>exact he
   ·exact h
   ·exact h
   ·exact h
  ·exact Or.inr ⟨h1,h2⟩
 ·rename_i hw
  rw[if_neg hw];exact h
theorem q0b{F:Nat}{l:Array Bool}{a:Act}{w:World}(hr:Region.ready .any ops l=[])(h:Q .normal a w):z09 P ops (PanTo Q R) S st F l a w:=by
 cases F with
 |zero=>exact⟨hr,h⟩
 |succ F=>exact⟨fun _=>h,by rw[hr];simp⟩
theorem sgX(rs:List (Nat × Nat))(fuel:Nat){F:Nat}{l:Array Bool}{a:Act}{w:World}(h5:(F,Region.noSelect ops,(z5x rs).map (ops[·]?),(z24 ops.toList rs).all (fun o=>z3s o.op),z5X ops st (z5x rs) l)=(fuel+(z5x rs).length,true,(z24 ops.toList rs).map some,true,true))(hS:S w)
  (h:wpQuiet P ops S (fun a'=>z09 P ops (PanTo Q R) S st fuel (z21 (z5x rs) l) a' w) (z24 ops.toList rs) a):z09 P ops (PanTo Q R) S st F l a w:=by
 simp only[Prod.mk.injEq]at h5;exact segX rs fuel h5.1 h5.2.1 h5.2.2.1 h5.2.2.2.1 h5.2.2.2.2 hS h
theorem clX(i:Nat)(d:Option Tmp)(f:Nat)(args:Array Value)(fuel:Nat){F:Nat}{l:Array Bool}{a:Act}{w:World}(h5:(F,(ops[i]?).map (·.dst),Region.ready .any ops l,(ops[i]?).map (fun o=>Region.wanted o (yielded ops a.tmps)),(ops[i]?).map (fun o=>(execOp a.eval o).run P w))=(fuel+1,some d,[i],some true,some (.ok (.enter f args) w)))
  (hdf:a.defers=[]) (hc:Calls P f args w (fun e w'=>(∃v,e=.returned v∧S w'∧z09 P ops (PanTo Q R) S st fuel (z21 [i] l) (a.put d v) w')∨∃c,e=.panicked c∧R c w')):z09 P ops (PanTo Q R) S st F l a w:=by
 simp only[Prod.mk.injEq]at h5;exact q1A i d f args fuel h5.1 h5.2.1 h5.2.2.1 h5.2.2.2.1 h5.2.2.2.2 hdf hc
theorem onX(i:Nat){o:Oper}(fuel:Nat){F:Nat}{l:Array Bool}{a:Act}{w:World}(ho:ops[i]?=some o)(h2:(F,Region.ready .any ops l)=(fuel+1,[i]))
  (h:wpList P ops (ThenX Q R (fun a' w'=>((z21 [i] l).getD st true=true∨S w')∧z09 P ops (PanTo Q R) S st fuel (z21 [i] l) a' w')) [o] a w):z09 P ops (PanTo Q R) S st F l a w:=by
 simp only[Prod.mk.injEq]at h2;exact oneX i o fuel h2.1 ho h2.2 h
end
end Go.Proofs.YtciofogeiohleaaGreatDoor
