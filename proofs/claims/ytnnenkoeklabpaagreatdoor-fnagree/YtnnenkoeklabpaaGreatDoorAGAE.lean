/- Texts joined, with what the laws reach alone. -/
import Derived.Test.YtnnenkoeklabpaaGreatDoorAGAD
import Derived.Maps.AppendAt
set_option linter.unusedVariables false
set_option linter.unusedSimpArgs false
namespace Go.Proofs.YtnnenkoeklabpaaGreatDoor
open Go.RowKit
open Go.BigFrame
set_option maxRecDepth 100000
/-- No board. -/
def brd0:List Value:=brdC false (.slice none 0 0) [] [0,0,0]

/-- An answer of two: the first one lies in a block. -/
theorem results_two {fn:Func} {p q:Tmp} {ty:TypeId} (h:fn.results=#[.cell p ty,.tmp q]) (tmps:Array Value) (w:World) (g:Nat) (cs:Array Value) (v:Value)
  (hp:tmps.getD p undef=.pointer (some ⟨g,0,none⟩)) (hq:tmps.getD q undef=v) (hld:(loadVar ty ⟨g,0,none⟩).run Tryz.prog w=.ok (.agg cs) w) :
  (results fn tmps).run Tryz.prog w=.ok (.tuple #[.agg cs,v]) w:=by
 have hp' : tmps[p]?.getD undef=.pointer (some ⟨g,0,none⟩):=by simpa using hp
 have hq' : tmps[q]?.getD undef=v:=by simpa using hq
 simp [results,h,hp',hq',asAddr,hld]

theorem ld_brd {w:World} {g:Nat} {t:TypeId} {L:List Value} (hB:Blk w g t L.toArray) (hl:L.length=30):(loadVar 46 ⟨g,0,none⟩).run Tryz.prog w=.ok (.agg L.toArray) w:=
 run_loadVar_mid w g 0 46 L _ (rng hB L (fun j v hv=>by rw [Nat.zero_add,List.getElem?_toArray];exact hv)) Tryz.underlying46 rfl (by rw [hl];exact sz_board)

theorem wel_of {rs:List RoundE} (h:rndsF rs=0):Wel rs:=fun r hr=>by
 obtain ⟨k,hk,rfl⟩:=List.getElem_of_mem hr
 have:=rndsF_at h k hk
 have e:rs.getD k rnd0=rs[k]:=by simp [List.getD,hk]
 rw [e] at this
 exact ⟨vf_len this.1,vf_len this.2⟩

theorem wel_take {rs:List RoundE} (h:Wel rs) (k:Nat):Wel (rs.take k):=fun r hr=>h r (List.mem_of_mem_take hr)

theorem insF_I {x:InstE} (h:shpF x=0):insF x=if rgtI x then 0 else 10:=if_pos h

set_option maxHeartbeats 8000000 in
theorem boardOf_any (p:InstQ) (w:World) (hG:Rul w) (h:instK.rd w p) (hl:p.n≤1048576) :
  Calls Tryz.prog 14 #[.agg #[.bool p.has,p.vb,p.vr,p.vd]] w fun e w' => e=.returned (.tuple #[.agg (if insF p.e=0 then brdC p.has p.vb p.e.rounds p.dec else brd0).toArray,.int .i64 (insF p.e)])∧Below w.heap.size w w' := by
 have hff:=fun w h=>formFault_any p w h hl
 have hrb:=fun (w' : World) hb=>instK.rd_below (w' := w') h hb
 generalize hC:insF p.e=C
 generalize hBD:(if C=0 then brdC p.has p.vb p.e.rounds p.dec else brd0)=BD
 have HC:Hid (insF p.e=C∧(if C=0 then brdC p.has p.vb p.e.rounds p.dec else brd0)=BD):=And.intro hC hBD
 clear hC hBD
 obtain ⟨has,vb,batch,vr,rounds,vd,dec⟩:=p
 obtain ⟨hT,hR,hD⟩:txnK.At w vb batch∧roundK.At w vr rounds∧intK.At w vd dec:=h
 obtain ⟨ba,bk,rfl⟩:=hT.shape
 obtain ⟨va,vk,rfl⟩:=hR.shape
 obtain ⟨da,dk,rfl⟩:=hD.shape
 dsimp only at hff hrb
 have B:=(Blk.new w 28 #[.bool has,.slice ba batch.length bk,.slice va rounds.length vk,.slice da dec.length dk]).below (w' := (w.alloc (.cells #[.bool has,.slice ba batch.length bk,.slice va rounds.length vk,.slice da dec.length dk] 28)).alloc (.cells brd0.toArray 46)) (by go_grown)
 have Rb:=Blk.new (w.alloc (.cells #[.bool has,.slice ba batch.length bk,.slice va rounds.length vk,.slice da dec.length dk] 28)) 46 brd0.toArray
 simp only [World.size_alloc] at Rb
 have hB:Below w.heap.size w ((w.alloc (.cells #[.bool has,.slice ba batch.length bk,.slice va rounds.length vk,.slice da dec.length dk] 28)).alloc (.cells brd0.toArray 46)):=by go_grown
 have hsz0:(Tryz.prog.info? 46).map (·.size)=some brd0.toArray.size:=by kernel_rfl
 have hold0:brd0.toArray.size=brd0.toArray.size:=rfl
 have hszZ:(Tryz.prog.info? 46).map (·.size)=some (#[.int .i64 0,.int .i64 0,.int .i64 0,.int .i64 0,.int .i64 0,.int .i64 0,.int .i64 0,.int .i64 0,.int .i64 0,.int .i64 0,.int .i64 0,.int .i64 0,.int .i64 0,.int .i64 0,.int .i64 0,.int .i64 0,.int .i64 0,.int .i64 0,.int .i64 0,.int .i64 0,.int .i64 0,.int .i64 0,.int .i64 0,.int .i64 0,.int .i64 0,.bool false,.slice none 0 0,.int .i64 0,.int .i64 0,.int .i64 0]:Array Value).size:=by kernel_rfl
 have holdZ:brd0.toArray.size=(#[.int .i64 0,.int .i64 0,.int .i64 0,.int .i64 0,.int .i64 0,.int .i64 0,.int .i64 0,.int .i64 0,.int .i64 0,.int .i64 0,.int .i64 0,.int .i64 0,.int .i64 0,.int .i64 0,.int .i64 0,.int .i64 0,.int .i64 0,.int .i64 0,.int .i64 0,.int .i64 0,.int .i64 0,.int .i64 0,.int .i64 0,.int .i64 0,.int .i64 0,.bool false,.slice none 0 0,.int .i64 0,.int .i64 0,.int .i64 0]:Array Value).size:=rfl
 have honeZ:(#[.int .i64 0,.int .i64 0,.int .i64 0,.int .i64 0,.int .i64 0,.int .i64 0,.int .i64 0,.int .i64 0,.int .i64 0,.int .i64 0,.int .i64 0,.int .i64 0,.int .i64 0,.int .i64 0,.int .i64 0,.int .i64 0,.int .i64 0,.int .i64 0,.int .i64 0,.int .i64 0,.int .i64 0,.int .i64 0,.int .i64 0,.int .i64 0,.int .i64 0,.bool false,.slice none 0 0,.int .i64 0,.int .i64 0,.int .i64 0]:Array Value).all (·.oneCell')=true:=by kernel_rfl
 have hone0:brd0.toArray.all (·.oneCell')=true:=by kernel_rfl
 have hz30:#[.int .i64 0,.int .i64 0,.int .i64 0,.int .i64 0,.int .i64 0,.int .i64 0,.int .i64 0,.int .i64 0,.int .i64 0,.int .i64 0,.int .i64 0,.int .i64 0,.int .i64 0,.int .i64 0,.int .i64 0,.int .i64 0,.int .i64 0,.int .i64 0,.int .i64 0,.int .i64 0,.int .i64 0,.int .i64 0,.int .i64 0,.int .i64 0,.int .i64 0,.bool false,.slice none 0 0,.int .i64 0,.int .i64 0,.int .i64 0]=brd0.toArray:=rfl
 go_enter Tryz.func14,Tryz.ntmps14
 go_wp2_with fail
 generalize (w.alloc (.cells #[.bool has,.slice ba batch.length bk,.slice va rounds.length vk,.slice da dec.length dk] 28)).alloc (.cells brd0.toArray 46)=W at *
 refine (hff W (hrb W hB)).mono ?_
 rintro e w1 ⟨rfl,hb1⟩
 have Bx:=B.below hb1
 replace Rb:=Rb.below hb1
 replace hB:=hB.trans (hb1.mono hB.size)
 have hs1:w.heap.size + 1 < w1.heap.size:=Rb.lt
 clear hff hrb hb1 B
 by_cases h0:shpF (InstQ.e ⟨has,.slice ba batch.length bk,batch,.slice va rounds.length vk,rounds,.slice da dec.length dk,dec⟩)=0
 ·obtain ⟨⟨h1,h4⟩,hF,hDv,_,_⟩:=shp_zero h0
  have hCI:=insF_I h0
  replace hF:rndsF (rounds.map RoundQ.e)=0:=hF
  replace hDv:vf dec 1=0:=hDv
  replace h1:1≤(rounds.map RoundQ.e).length:=h1
  replace h4:(rounds.map RoundQ.e).length≤4:=h4
  rw [List.length_map] at h1 h4
  have HCI:Hid (C=if (List.range (rounds.map RoundQ.e).length).all (allI has (rounds.map RoundQ.e)) && endA (rounds.map RoundQ.e) dec then 0 else 10):=HC.out.1.symm.trans hCI
  have HBD:Hid ((if C=0 then brdC has (.slice ba batch.length bk) (rounds.map RoundQ.e) dec else brd0)=BD):=HC.out.2
  rw [h0]
  clear h0 hCI HC
  have hd3:=vf_len hDv
  obtain ⟨d0,d1,d2,rfl⟩:=three hd3
  have hDR:=(intK_at (hD.below hB)).2
  obtain ⟨db,dof,hda,_,_⟩:=hDR 0 (by simp)
  subst hda
  have hro:=fun b off cap w h h3=>rowOf_any b off cap [d0,d1,d2] w h h3
  have hroR:=fun zs b off cap w h h3=>rowOf_any b off cap zs w h h3
  have hW3:[d0,d1,d2].length=3:=rfl
  rw [hW3] at Bx
  go_wp2_with fail
  refine region_vals [some 14,some 15,some 16,some 17,some 18,some 19,some 20,some 21,some 5] (fun vs w' => ∃ g:Nat,vs=[.pointer (some ⟨w.heap.size,0,none⟩),.bool has,.pointer (some ⟨w.heap.size,1,none⟩),.slice ba batch.length bk,.pointer (some ⟨w.heap.size,3,none⟩),.slice (some ⟨db,dof,none⟩) 3 dk,.agg #[iv d0,iv d1,iv d2],.agg (brdC has (.slice ba batch.length bk) [] [d0,d1,d2]).toArray,.pointer (some ⟨g,0,none⟩)]∧w1.heap.size≤g∧Blk w' g 46 (brdC has (.slice ba batch.length bk) [] [d0,d1,d2]).toArray∧Below w1.heap.size w1 w') ?_ ?_
  ·have hW:Below w1.heap.size w1 w1.drew:=(Below.refl _ _).drew
   have hnn:Nonempty (Lat w1):=⟨⟨w1,Below.refl _ _⟩⟩
   obtain ⟨p0,p1⟩:=Bx.lts2
   have p3:=Bx.lat 3 _ rfl
   have hszB:(Tryz.prog.info? 46).map (·.size)=some (brdC has (.slice ba batch.length bk) [] [d0,d1,d2]).toArray.size:=by kernel_rfl
   have hold:brd0.toArray.size=(brdC has (.slice ba batch.length bk) [] [d0,d1,d2]).toArray.size:=rfl
   have hone:(brdC has (.slice ba batch.length bk) [] [d0,d1,d2]).toArray.all (·.oneCell')=true:=by kernel_rfl
   refine text_begin (S:=fun w' => ∃ u:Lat w1,w' = u.val) (by kernel_rfl) ?_
   refine sgr [(0,6)] 4 (by kernel_rfl) ⟨⟨_,hW⟩,rfl⟩ ?_
   simp only [pkE]
   repeat go_big_quiet_step (fail)
   refine wpQuiet_nil ?_
   clear p0 p1 p3
   generalize w1.drew=wd at hW ⊢
   refine twa 6 8 3 (by kernel_rfl) ?_ ?_
   ·refine opc 6 (some 20) 26 #[.slice (some ⟨db,dof,none⟩) 3 dk] (by kernel_rfl) ?_
    refine (hro db dof dk _ (hDR.below hW) rfl).mono ?_
    rintro e w8 ⟨rfl,hb8⟩
    replace hW:=hW.trans (hb8.mono hW.size)
    clear hb8
    refine ⟨_,rfl,⟨⟨_,hW⟩,rfl⟩,?_⟩
    simp only [Act.put,pgE,pjE]
    refine qta 7 (some 21) (.agg (brdC has (.slice ba batch.length bk) [] [d0,d1,d2]).toArray) 2 (by kernel_rfl) (fun u _=>by kernel_rfl) ⟨⟨_,hW⟩,rfl⟩ ?_
    simp only [Act.put,pgE,pjE]
    refine ona 8 1 rfl (by kernel_rfl) ?_
    have Bz:=Blk.new w8 46 brd0.toArray
    have hzz:w1.heap.size≤w8.heap.size:=hW.size
    replace hW:=hW.alloc hW.size (.cells brd0.toArray 46)
    go_wp2
    refine ThenGo.to ⟨⟨⟨_,hW⟩,rfl⟩,?_⟩
    generalize w8.alloc (.cells brd0.toArray 46)=Z8 at Bz hW ⊢
    refine ona 9 0 rfl (by kernel_rfl) ?_
    refine st_row (by kernel_rfl) 46 _ _ rfl _ (brdC has (.slice ba batch.length bk) [] [d0,d1,d2]).toArray rfl rfl 46 _ Bz hszB hold hone ?_
    refine ThenGo.to ⟨⟨⟨_,below_row hW hzz _⟩,rfl⟩,?_⟩
    refine text_end (by kernel_rfl) ?_
    refine ⟨rfl,_,⟨w8.heap.size,rfl,hzz,Bz.row _,below_row hW hzz _⟩,?_⟩
    simp only [putAll,Act.put,pgE,pjE]
    try rfl
   ·refine op_one 8 _ rfl ?_
    have Bz:=Blk.new wd 46 brd0.toArray
    have hzz:w1.heap.size≤wd.heap.size:=hW.size
    replace hW:=hW.alloc hW.size (.cells brd0.toArray 46)
    go_wp2
    refine ThenGo.to ⟨⟨⟨_,hW⟩,rfl⟩,?_⟩
    generalize wd.alloc (.cells brd0.toArray 46)=Z8 at Bz hW ⊢
    refine cla 6 (some 20) 26 #[.slice (some ⟨db,dof,none⟩) 3 dk] 2 (by kernel_rfl) ?_
    refine (hro db dof dk _ (hDR.below hW) rfl).mono ?_
    rintro e w8 ⟨rfl,hb8⟩
    replace hW:=hW.trans (hb8.mono hW.size)
    replace Bz:=Bz.below hb8
    clear hb8
    refine ⟨_,rfl,⟨⟨_,hW⟩,rfl⟩,?_⟩
    simp only [Act.put,pgE,pjE]
    refine qta 7 (some 21) (.agg (brdC has (.slice ba batch.length bk) [] [d0,d1,d2]).toArray) 1 (by kernel_rfl) (fun u _=>by kernel_rfl) ⟨⟨_,hW⟩,rfl⟩ ?_
    simp only [Act.put,pgE,pjE]
    refine ona 9 0 rfl (by kernel_rfl) ?_
    refine st_row (by kernel_rfl) 46 _ _ rfl _ (brdC has (.slice ba batch.length bk) [] [d0,d1,d2]).toArray rfl rfl 46 _ Bz hszB hold hone ?_
    refine ThenGo.to ⟨⟨⟨_,below_row hW hzz _⟩,rfl⟩,?_⟩
    refine text_end (by kernel_rfl) ?_
    refine ⟨rfl,_,⟨wd.heap.size,rfl,hzz,Bz.row _,below_row hW hzz _⟩,?_⟩
    simp only [putAll,Act.put,pgE,pjE]
    try rfl
  rintro vs X ⟨g,rfl,hg,Bg,hX⟩
  simp only [putAll,Act.put,pjE]
  have hBX:Below w.heap.size w X:=hB.trans (hX.mono hB.size)
  have RbX:=Rb.below hX
  have BxX:=Bx.below hX
  have hgs:w.heap.size + 1 < g:=by omega
  have hRX:=hR.below hBX
  have hGX:=hG.below hBX
  have p2:=BxX.cell 2 _ rfl
  clear hX hB Rb Bx hro hDR
  go_wp2
  clear p2
  generalize hrs:rounds.map RoundQ.e=rs at *
  have hwel:=wel_of hF
  have hrl:rs.length=rounds.length:=by rw [← hrs,List.length_map]
  go_loopw [25] (fun j wr=>∃ k:Nat,k≤rounds.length∧j=.int .i64 k∧Hid (Blk wr g 46 (brdC has (.slice ba batch.length bk) (rs.take k) [d0,d1,d2]).toArray)∧Hid (Out [g] X wr)) (fun j _=>rounds.length - (intOf j).toNat)
  case atStart=>exact ⟨0,Nat.zero_le _,rfl,Bg,Out.refl _ _⟩
  case round=>
   obtain ⟨k,hk,rfl,HB,HO⟩:=hrel
   have hBr:Below w.heap.size w wr:=Out.keep hBX HO.out hBX.size (fun k hk=>by simp only [List.mem_singleton] at hk;omega)
   by_cases hlt:k < rounds.length
   ·obtain ⟨rb,ro,hra,hbs,hc,hrd⟩:=(hR.below hBr).cell (by decide) k hlt
    have hc' : ∀ j x,(roundK.cells rounds[k])[j]? = some x→wr.cell? ⟨rb,ro + k * 2 + j,none⟩=some x:=hc
    have r0:=hc' 0 (rounds[k].vr) rfl
    have r1:=hc' 1 (rounds[k].vp) rfl
    have hat:rs.getD k rnd0=RoundQ.e rounds[k]:=by rw [← hrs];exact rnd_at rounds k hlt
    obtain ⟨hv1,hv2⟩:=rndsF_at hF k (by rw [hrl];exact hlt)
    rw [hat] at hv1 hv2
    replace hv1:vf rounds[k].rep 1=0:=hv1
    replace hv2:vf rounds[k].pro 2=0:=hv2
    have hgk:rs[k]'(by rw [hrl];exact hlt)=RoundQ.e rounds[k]:=by rw [← hat];simp [List.getD,show k < rs.length by rw [hrl];exact hlt]
    have HTK:Hid (rs.take (k + 1)=rs.take k ++ [RoundE.mk rounds[k].rep rounds[k].pro]):=by
     rw [List.take_succ_eq_append_getElem (show k < rs.length by rw [hrl];exact hlt),hgk]
     exact (rfl:_=_)
    have hrdw:roundK.rd w rounds[k]:=by
     obtain ⟨_,_,_,_,_,hx⟩:=hR.cell (by decide) k hlt
     exact hx
    obtain ⟨hA1,hA2⟩:intK.At w rounds[k].vr rounds[k].rep∧intK.At w rounds[k].vp rounds[k].pro:=hrdw
    clear hc hc' hat hgk hrd
    generalize rounds[k].vr=qv at *
    generalize rounds[k].rep=qr at *
    generalize rounds[k].vp=qw at *
    generalize rounds[k].pro=qp at *
    obtain ⟨xa,xc,xb,xo,rfl,hxa,_,xRow⟩:=vf_row hA1 hv1 0 (by omega)
    obtain ⟨ya,yc,yb,yo,rfl,hya,_,yRow⟩:=vf_row hA2 hv2 0 (by omega)
    subst hra hxa hya
    obtain ⟨x0,x1,x2,rfl⟩:=three (vf_len hv1)
    obtain ⟨y0,y1,y2,rfl⟩:=three (vf_len hv2)
    have By:=Blk.new wr 51 #[.slice (some ⟨xb,xo,none⟩) 3 xc,.slice (some ⟨yb,yo,none⟩) 3 yc]
    have hbY:Below wr.heap.size wr (wr.alloc (.cells #[.slice (some ⟨xb,xo,none⟩) 3 xc,.slice (some ⟨yb,yo,none⟩) 3 yc] 51)):=by go_grown
    have HOY:Hid (Out [g] X (wr.alloc (.cells #[.slice (some ⟨xb,xo,none⟩) 3 xc,.slice (some ⟨yb,yo,none⟩) 3 yc] 51))):=HO.out.call hbY
    have HBY:Hid (Blk (wr.alloc (.cells #[.slice (some ⟨xb,xo,none⟩) 3 xc,.slice (some ⟨yb,yo,none⟩) 3 yc] 51)) g 46 (brdC has (.slice ba batch.length bk) (rs.take k) [d0,d1,d2]).toArray):=HB.out.below hbY
    have hgw:g < wr.heap.size:=HB.out.lt
    have hyg:wr.heap.size≠g:=by omega
    replace hBr:=hBr.trans (hbY.mono hBr.size)
    rw [Nat.add_zero] at r0
    clear HB HO hbY hA1 hA2
    go_wp2_with fail
    clear r0 r1
    generalize wr.alloc (.cells #[.slice (some ⟨xb,xo,none⟩) 3 xc,.slice (some ⟨yb,yo,none⟩) 3 yc] 51)=Y at *
    have hkeep:∀ W',Out [g] Y W' → Below w.heap.size w W' := fun W' hW' => Out.keep hBr hW' hBr.size (fun k hk=>by simp only [List.mem_singleton] at hk;omega)
    have hadd:=fun w' hB' => addRound_any g 46 (rs.take k) ([.bool has,.slice ba batch.length bk] ++ [d0,d1,d2].map iv) ⟨[x0,x1,x2],[y0,y1,y2]⟩ w' hB' (wel_take hwel k) ⟨rfl,rfl⟩ (by rw [List.length_take];omega)
    have hnn:Nonempty (LatO [g] Y):=⟨⟨Y,Out.refl _ _⟩⟩
    have hW:Out [g] Y Y.drew:=Out.of_below ((Below.refl _ _).drew)
    have p0:=lato_cell (F:=[g]) (By.cell 0 _ rfl) (by simp only [List.mem_singleton];exact hyg)
    have p1:=lato_cell (F:=[g]) (By.cell 1 _ rfl) (by simp only [List.mem_singleton];exact hyg)
    have Bg2:=HBY.out.below (w' := Y.drew) ((Below.refl _ _).drew)
    refine text_begin (S:=fun w' => ∃ u:LatO [g] Y,w' = u.val) (by kernel_rfl) ?_
    refine sgr [(0,3),(4,2)] 4 (by kernel_rfl) ⟨⟨_,hW⟩,rfl⟩ ?_
    simp only [pkE]
    repeat go_big_quiet_step (fail)
    refine wpQuiet_nil ?_
    refine cla 3 (some 32) 26 #[.slice (some ⟨xb,xo,none⟩) 3 xc] 3 (by kernel_rfl) ?_
    refine (hroR _ xb xo xc _ (xRow.below (hkeep _ hW)) rfl).mono ?_
    rintro e w8 ⟨rfl,hb8⟩
    replace hW:=hW.call hb8
    replace Bg2:=Bg2.below hb8
    clear hb8
    refine ⟨_,rfl,⟨⟨_,hW⟩,rfl⟩,?_⟩
    simp only [Act.put,pjE]
    refine cla 6 (some 35) 26 #[.slice (some ⟨yb,yo,none⟩) 3 yc] 2 (by kernel_rfl) ?_
    refine (hroR _ yb yo yc _ (yRow.below (hkeep _ hW)) rfl).mono ?_
    rintro e w9 ⟨rfl,hb9⟩
    replace hW:=hW.call hb9
    replace Bg2:=Bg2.below hb9
    clear hb9
    refine ⟨_,rfl,⟨⟨_,hW⟩,rfl⟩,?_⟩
    simp only [Act.put,pjE]
    refine qta 7 (some 36) (.agg (rowC ⟨[x0,x1,x2],[y0,y1,y2]⟩).toArray) 1 (by kernel_rfl) (fun u _=>by kernel_rfl) ⟨⟨_,hW⟩,rfl⟩ ?_
    simp only [Act.put,pjE]
    refine cla 8 (some 37) 27 #[.pointer (some ⟨g,0,none⟩),.agg (rowC ⟨[x0,x1,x2],[y0,y1,y2]⟩).toArray] 0 (by kernel_rfl) ?_
    refine (hadd w9 Bg2).mono ?_
    rintro e w10 ⟨rfl,hB10,u10⟩
    replace hW:=hW.trans u10
    clear u10
    refine ⟨_,rfl,⟨⟨_,hW⟩,rfl⟩,?_⟩
    simp only [Act.put,pjE]
    refine text_end (by kernel_rfl) ?_
    have HB2:Hid (Blk w10 g 46 (brdC has (.slice ba batch.length bk) (rs.take (k + 1)) [d0,d1,d2]).toArray):=by rw [HTK.out];exact hB10
    have HO2:Hid (Out [g] X w10):=HOY.out.trans hW
    clear hB10 hW hadd HBY HOY p0 p1 hnn hkeep HTK
    go_wp2
    go_roundw
    case rel=>exact ⟨k + 1,by omega,by go_num,HB2.out,HO2.out⟩
    case measure=>simp [intOf];omega
   ·have hkl:k=rounds.length:=by omega
    subst hkl
    have Bw:=HB.out
    rw [← hrl,List.take_length] at Bw
    have Rw:Blk wr (w.heap.size + 1) 46 brd0.toArray:=(HO.out.block _ RbX.lt (by simp only [List.mem_singleton];omega)).trans RbX
    have hlen:=brdC_length (has:=has) (vb:=.slice ba batch.length bk) (dec:=[d0,d1,d2]) hwel (by rw [hrl];exact h4) rfl
    have hir:=isRight_any has (.slice ba batch.length bk) rs [d0,d1,d2] wr (hG.below hBr) hwel (by rw [hrl];exact h4) rfl
    have hrgB:=rng Bw (brdC has (.slice ba batch.length bk) rs [d0,d1,d2]) (o:=0) (fun j v hv=>by rw [Nat.zero_add,List.getElem?_toArray];exact hv)
    have hszB:(Tryz.prog.info? 46).map (·.size)=some (brdC has (.slice ba batch.length bk) rs [d0,d1,d2]).length:=by rw [hlen];exact sz_board
    have honeB:(brdC has (.slice ba batch.length bk) rs [d0,d1,d2]).toArray.all (·.oneCell')=true:=all_oneCell_toArray (fun v hv=>by
     simp only [brdC,rndC,rowsV,List.mem_append,List.mem_cons,List.mem_flatMap,List.mem_replicate,List.mem_map,rowC,List.not_mem_nil,or_false] at hv
     rcases hv with (rfl | ⟨r,_,z,_,rfl⟩ | ⟨_,rfl⟩) | (rfl | rfl) | ⟨z,_,rfl⟩ <;> rfl)
    clear HB HO hroR
    generalize hX2:((List.range rs.length).all (allI has rs) && endA rs [d0,d1,d2])=XX at *
    generalize hcs:brdC has (.slice ba batch.length bk) rs [d0,d1,d2]=cs at *
    go_wp2_with (refine ld_g (by kernel_rfl) 46 _ rfl _ _ rfl cs _ hrgB Tryz.underlying46 rfl hszB ?_)
    refine hir.mono ?_
    rintro e w5 ⟨rfl,hb5⟩
    replace Rw:=Rw.below hb5
    replace Bw:=Bw.below hb5
    replace hBr:=hBr.trans (hb5.mono hBr.size)
    replace hrgB:=rng_below hrgB hb5
    clear hir hb5
    cases XX with
    | false=>
     have E1:Hid (C=10):=by rw [HCI.out];exact (rfl:_=_)
     have E2:Hid (BD=brd0):=by
      have:=HBD.out
      rw [E1.out,if_neg (by decide)] at this
      exact this.symm
     clear HCI HBD hrgB
     go_wp2_with (refine st_row (by kernel_rfl) 46 _ _ rfl _ #[.int .i64 0,.int .i64 0,.int .i64 0,.int .i64 0,.int .i64 0,.int .i64 0,.int .i64 0,.int .i64 0,.int .i64 0,.int .i64 0,.int .i64 0,.int .i64 0,.int .i64 0,.int .i64 0,.int .i64 0,.int .i64 0,.int .i64 0,.int .i64 0,.int .i64 0,.int .i64 0,.int .i64 0,.int .i64 0,.int .i64 0,.int .i64 0,.int .i64 0,.bool false,.slice none 0 0,.int .i64 0,.int .i64 0,.int .i64 0] rfl rfl 46 _ Rw hszZ holdZ honeZ ?_)
     rw [E2.out,E1.out]
     exact bodyPost_ret (v:=.tuple #[.agg brd0.toArray,.int .i64 10]) (results_two Tryz.results14 _ _ (w.heap.size + 1) brd0.toArray _ rfl rfl (ld_brd (Rw.row _) rfl)) rfl ⟨rfl,below_row hBr (by omega) _⟩
    | true=>
     have E1:Hid (C=0):=by rw [HCI.out];exact (rfl:_=_)
     have E2:Hid (BD=cs):=by
      have:=HBD.out
      rw [E1.out,if_pos rfl] at this
      exact this.symm
     have hszC:(Tryz.prog.info? 46).map (·.size)=some cs.toArray.size:=hszB
     have holdC:brd0.toArray.size=cs.toArray.size:=(show 30=cs.length from hlen.symm)
     clear HCI HBD
     go_wp2_with (first | (refine ld_g (by kernel_rfl) 46 _ rfl _ _ rfl cs _ hrgB Tryz.underlying46 rfl hszB ?_) | (refine st_row (by kernel_rfl) 46 _ _ rfl _ cs.toArray rfl rfl 46 _ Rw hszC holdC honeB ?_))
     rw [E2.out,E1.out]
     exact bodyPost_ret (v:=.tuple #[.agg cs.toArray,.int .i64 0]) (results_two Tryz.results14 _ _ (w.heap.size + 1) cs.toArray _ rfl rfl (ld_brd (Rw.row _) hlen)) rfl ⟨rfl,below_row hBr (by omega) _⟩
 ·have hC:C≠0∧C=shpF (InstQ.e ⟨has,.slice ba batch.length bk,batch,.slice va rounds.length vk,rounds,.slice da dec.length dk,dec⟩):=by
   have:=HC.out.1
   unfold insF at this
   rw [if_neg h0] at this
   exact ⟨by rw [← this];exact h0,this.symm⟩
  have E2:Hid (BD=brd0):=by
   have:=HC.out.2
   rw [if_neg hC.1] at this
   exact this.symm
  rw [← hC.2]
  have h0' : (C != 0)=true:=by simpa using hC.1
  clear HC h0 hC hR hT hD
  go_wp2_with (refine st_row (by kernel_rfl) 46 _ _ rfl _ #[.int .i64 0,.int .i64 0,.int .i64 0,.int .i64 0,.int .i64 0,.int .i64 0,.int .i64 0,.int .i64 0,.int .i64 0,.int .i64 0,.int .i64 0,.int .i64 0,.int .i64 0,.int .i64 0,.int .i64 0,.int .i64 0,.int .i64 0,.int .i64 0,.int .i64 0,.int .i64 0,.int .i64 0,.int .i64 0,.int .i64 0,.int .i64 0,.int .i64 0,.bool false,.slice none 0 0,.int .i64 0,.int .i64 0,.int .i64 0] rfl rfl 46 _ Rb hszZ holdZ honeZ ?_)
  rw [E2.out]
  exact bodyPost_ret (v:=.tuple #[.agg brd0.toArray,.int .i64 C]) (results_two Tryz.results14 _ _ (w.heap.size + 1) brd0.toArray _ rfl rfl (ld_brd (Rb.row _) rfl)) rfl ⟨rfl,below_row hB (by omega) _⟩

end Go.Proofs.YtnnenkoeklabpaaGreatDoor
namespace Go.Proofs.YtnnenkoeklabpaaGreatDoor
open Go.RowKit
open Go.BigFrame
set_option maxRecDepth 100000
/-- The board that boardOf answers. -/
def bdOf (p:InstQ):List Value:=if insF p.e=0 then brdC p.has p.vb p.e.rounds p.dec else brd0

theorem ins_zero {x:InstE} (h:insF x=0):shpF x=0∧rgtI x=true:=by
 unfold insF at h
 by_cases h0:shpF x=0
 ·rw [if_pos h0] at h
  refine ⟨h0,?_⟩
  by_cases h1:rgtI x=true
  ·exact h1
  ·rw [if_neg h1] at h
   simp at h
 ·rw [if_neg h0] at h
  exact absurd h h0

/-- What a right instance is like. -/
theorem ins_ok {x:InstE} (h:insF x=0):Wel x.rounds∧(1≤x.rounds.length∧x.rounds.length≤4)∧x.dec.length=3∧rndsF x.rounds=0∧vf x.dec 1=0:=by
 obtain ⟨h0,_⟩:=ins_zero h
 obtain ⟨h1,h2,h3,_⟩:=shp_zero h0
 exact ⟨wel_of h2,h1,vf_len h3,h2,h3⟩

theorem brd_one {has:Bool} {vb:Value} {rs:List RoundE} {dec:List Int} (hv:vb.oneCell' = true):(brdC has vb rs dec).toArray.all (·.oneCell')=true:=all_oneCell_toArray (fun v hm=>by
 simp only [brdC,rndC,rowsV,List.mem_append,List.mem_cons,List.mem_flatMap,List.mem_replicate,List.mem_map,rowC,List.not_mem_nil,or_false] at hm
 rcases hm with (rfl | ⟨r,_,z,_,rfl⟩ | ⟨_,rfl⟩) | (rfl | rfl) | ⟨z,_,rfl⟩ <;> first | rfl | exact hv)

theorem bd_ok {w:World} {p:InstQ} (h:instK.rd w p):(bdOf p).length=30∧(bdOf p).toArray.all (·.oneCell')=true:=by
 unfold bdOf
 by_cases h0:insF p.e=0
 ·rw [if_pos h0]
  obtain ⟨h1,h2,h3,_⟩:=ins_ok h0
  refine ⟨brdC_length h1 h2.2 h3,brd_one ?_⟩
  obtain ⟨a,c,e⟩:=h.1.shape
  rw [e];rfl
 ·rw [if_neg h0]
  exact ⟨rfl,by kernel_rfl⟩

set_option maxHeartbeats 2000000 in
theorem implInstanceFault_any (p:InstQ) (w:World) (hG:Rul w) (h:instK.rd w p) (hl:p.n≤1048576) :
  Calls Tryz.prog 10 #[.agg #[.bool p.has,p.vb,p.vr,p.vd]] w fun e w' => e=.returned (.int .i64 (insF p.e))∧Below w.heap.size w w' := by
 obtain ⟨hl30,hone⟩:=bd_ok h
 have hbo:=fun w hG h=>boardOf_any p w hG h hl
 have hrb:=fun (w' : World) hb=>instK.rd_below (w' := w') h hb
 change ∀ w hG h,Calls _ _ _ _ fun e w' => e=.returned (.tuple #[.agg (bdOf p).toArray,_])∧_ at hbo
 generalize bdOf p=BD at *
 generalize insF p.e=C at *
 obtain ⟨has,vb,batch,vr,rounds,vd,dec⟩:=p
 obtain ⟨ba,bk,rfl⟩:∃ a c,vb=.slice a batch.length c:=h.1.shape
 obtain ⟨va,vk,rfl⟩:∃ a c,vr=.slice a rounds.length c:=h.2.1.shape
 obtain ⟨da,dk,rfl⟩:∃ a c,vd=.slice a dec.length c:=h.2.2.shape
 dsimp only at hbo hrb
 have hB:Below w.heap.size w (w.alloc (.cells #[.bool has,.slice ba batch.length bk,.slice va rounds.length vk,.slice da dec.length dk] 28)):=by go_grown
 have hszB:(Tryz.prog.info? 46).map (·.size)=some BD.toArray.size:=by rw [List.size_toArray,hl30];exact sz_board
 have hold:(#[.int .i64 0,.int .i64 0,.int .i64 0,.int .i64 0,.int .i64 0,.int .i64 0,.int .i64 0,.int .i64 0,.int .i64 0,.int .i64 0,.int .i64 0,.int .i64 0,.int .i64 0,.int .i64 0,.int .i64 0,.int .i64 0,.int .i64 0,.int .i64 0,.int .i64 0,.int .i64 0,.int .i64 0,.int .i64 0,.int .i64 0,.int .i64 0,.int .i64 0,.bool false,.slice none 0 0,.int .i64 0,.int .i64 0,.int .i64 0]:Array Value).size=BD.toArray.size:=(show 30=BD.length from hl30.symm)
 go_enter Tryz.func10,Tryz.ntmps10
 go_wp2_with fail
 generalize w.alloc (.cells #[.bool has,.slice ba batch.length bk,.slice va rounds.length vk,.slice da dec.length dk] 28)=W at *
 refine (hbo W (hG.below hB) (hrb W hB)).mono ?_
 rintro e w1 ⟨rfl,hb1⟩
 replace hB:=hB.trans (hb1.mono hB.size)
 have Bz:=Blk.new w1 46 #[.int .i64 0,.int .i64 0,.int .i64 0,.int .i64 0,.int .i64 0,.int .i64 0,.int .i64 0,.int .i64 0,.int .i64 0,.int .i64 0,.int .i64 0,.int .i64 0,.int .i64 0,.int .i64 0,.int .i64 0,.int .i64 0,.int .i64 0,.int .i64 0,.int .i64 0,.int .i64 0,.int .i64 0,.int .i64 0,.int .i64 0,.int .i64 0,.int .i64 0,.bool false,.slice none 0 0,.int .i64 0,.int .i64 0,.int .i64 0]
 have hB2:=below_row (hB.alloc hB.size (.cells #[.int .i64 0,.int .i64 0,.int .i64 0,.int .i64 0,.int .i64 0,.int .i64 0,.int .i64 0,.int .i64 0,.int .i64 0,.int .i64 0,.int .i64 0,.int .i64 0,.int .i64 0,.int .i64 0,.int .i64 0,.int .i64 0,.int .i64 0,.int .i64 0,.int .i64 0,.int .i64 0,.int .i64 0,.int .i64 0,.int .i64 0,.int .i64 0,.int .i64 0,.bool false,.slice none 0 0,.int .i64 0,.int .i64 0,.int .i64 0] 46)) (g:=w1.heap.size) hB.size BD.toArray
 clear hbo hrb hb1
 go_wp2_with (refine st_row (by kernel_rfl) 46 _ _ rfl _ BD.toArray rfl rfl 46 _ Bz hszB hold hone ?_)
 go_ret
 exact ⟨rfl,hB2⟩

/-- What the first one that decided decided, or that none did. -/
def outV:List Int→Int
 | []=>3
 | x :: r=>if x=3 then outV r else x

theorem outV_at (L:List Int):∀ k,(∀ j,j < k→L.getD j 0=3)→k < L.length→L.getD k 0≠3→outV L=L.getD k 0:=by
 induction L with
 | nil=>intro k _ h;simp at h
 | cons x r ih=>
  intro k h0 hk hne
  cases k with
  | zero=>simp [List.getD] at hne ⊢;simp [outV,hne]
  | succ k=>
   have hx:x=3:=by simpa [List.getD] using h0 0 (by omega)
   have:=ih k (fun j hj=>by simpa [List.getD] using h0 (j + 1) (by omega)) (by simpa using hk) (by simpa [List.getD] using hne)
   simp only [outV,hx,if_true]
   rw [this]
   simp [List.getD]

theorem outV_none (L:List Int) (h:∀ j,j < L.length→L.getD j 0=3):outV L=3:=by
 induction L with
 | nil=>rfl
 | cons x r ih=>
  have hx:x=3:=by simpa [List.getD] using h 0 (by simp)
  simp only [outV,hx,if_true]
  exact ih (fun j hj=>by simpa [List.getD] using h (j + 1) (by simpa using hj))

/-- OutcomeOf: code and value. -/
def ocC (x:InstE):Int:=if insF x=0 then (if outV x.dec=3 then 4 else 0) else insF x

def ocV (x:InstE):Int:=if insF x=0 then (if outV x.dec=3 then 0 else outV x.dec) else 0

set_option maxHeartbeats 2000000 in
theorem implOutcome_any (p:InstQ) (w:World) (hG:Rul w) (h:instK.rd w p) (hl:p.n≤1048576) :
  Calls Tryz.prog 7 #[.agg #[.bool p.has,p.vb,p.vr,p.vd]] w fun e w' => e=.returned (.agg #[.int .i64 (ocC p.e),.int .i64 (ocV p.e)])∧Below w.heap.size w w' := by
 obtain ⟨hl30,hone⟩:=bd_ok h
 have hbo:=fun w hG h=>boardOf_any p w hG h hl
 have hrb:=fun (w' : World) hb=>instK.rd_below (w' := w') h hb
 change ∀ w hG h,Calls _ _ _ _ fun e w' => e=.returned (.tuple #[.agg (bdOf p).toArray,_])∧_ at hbo
 have HBD:Hid (insF p.e=0→bdOf p=brdC p.has p.vb p.e.rounds p.dec∧Wel p.e.rounds∧p.e.rounds.length≤4∧p.dec.length=3):=fun h0=>by
  obtain ⟨h1,h2,h3,_⟩:=ins_ok h0
  exact ⟨if_pos h0,h1,h2.2,h3⟩
 obtain ⟨D,hD⟩:∃ D,ocC p.e=D:=⟨_,rfl⟩
 obtain ⟨E,hE⟩:∃ E,ocV p.e=E:=⟨_,rfl⟩
 have HDE:Hid ((insF p.e=0→(D=if outV p.dec=3 then 4 else 0)∧(E=if outV p.dec=3 then 0 else outV p.dec))∧(insF p.e≠0→D=insF p.e∧E=0)):=by
  refine ⟨fun h0=>⟨?_,?_⟩,fun h0=>⟨?_,?_⟩⟩
  ·rw [← hD];exact if_pos h0
  ·rw [← hE];exact if_pos h0
  ·rw [← hD];exact if_neg h0
  ·rw [← hE];exact if_neg h0
 rw [hD,hE]
 clear hD hE
 generalize bdOf p=BD at *
 generalize insF p.e=C at *
 generalize p.e.rounds=rs at *
 obtain ⟨has,vb,batch,vr,rounds,vd,dec⟩:=p
 obtain ⟨ba,bk,rfl⟩:∃ a c,vb=.slice a batch.length c:=h.1.shape
 obtain ⟨va,vk,rfl⟩:∃ a c,vr=.slice a rounds.length c:=h.2.1.shape
 obtain ⟨da,dk,rfl⟩:∃ a c,vd=.slice a dec.length c:=h.2.2.shape
 dsimp only at hbo hrb HBD HDE
 have hB:Below w.heap.size w ((w.alloc (.cells #[.bool has,.slice ba batch.length bk,.slice va rounds.length vk,.slice da dec.length dk] 28)).alloc (.cells #[.int .i64 0,.int .i64 0] 31)):=by go_grown
 have Rb:=Blk.new (w.alloc (.cells #[.bool has,.slice ba batch.length bk,.slice va rounds.length vk,.slice da dec.length dk] 28)) 31 #[.int .i64 0,.int .i64 0]
 simp only [World.size_alloc] at Rb
 have hszB:(Tryz.prog.info? 46).map (·.size)=some BD.toArray.size:=by rw [List.size_toArray,hl30];exact sz_board
 have hold:(#[.int .i64 0,.int .i64 0,.int .i64 0,.int .i64 0,.int .i64 0,.int .i64 0,.int .i64 0,.int .i64 0,.int .i64 0,.int .i64 0,.int .i64 0,.int .i64 0,.int .i64 0,.int .i64 0,.int .i64 0,.int .i64 0,.int .i64 0,.int .i64 0,.int .i64 0,.int .i64 0,.int .i64 0,.int .i64 0,.int .i64 0,.int .i64 0,.int .i64 0,.bool false,.slice none 0 0,.int .i64 0,.int .i64 0,.int .i64 0]:Array Value).size=BD.toArray.size:=(show 30=BD.length from hl30.symm)
 go_enter Tryz.func7,Tryz.ntmps7
 go_wp2_with fail
 generalize (w.alloc (.cells #[.bool has,.slice ba batch.length bk,.slice va rounds.length vk,.slice da dec.length dk] 28)).alloc (.cells #[.int .i64 0,.int .i64 0] 31)=W at *
 refine (hbo W (hG.below hB) (hrb W hB)).mono ?_
 rintro e w1 ⟨rfl,hb1⟩
 replace hB:=hB.trans (hb1.mono hB.size)
 replace Rb:=Rb.below hb1
 have Bz:=Blk.new w1 46 #[.int .i64 0,.int .i64 0,.int .i64 0,.int .i64 0,.int .i64 0,.int .i64 0,.int .i64 0,.int .i64 0,.int .i64 0,.int .i64 0,.int .i64 0,.int .i64 0,.int .i64 0,.int .i64 0,.int .i64 0,.int .i64 0,.int .i64 0,.int .i64 0,.int .i64 0,.int .i64 0,.int .i64 0,.int .i64 0,.int .i64 0,.int .i64 0,.int .i64 0,.bool false,.slice none 0 0,.int .i64 0,.int .i64 0,.int .i64 0]
 have hB2:=below_row (hB.alloc hB.size (.cells #[.int .i64 0,.int .i64 0,.int .i64 0,.int .i64 0,.int .i64 0,.int .i64 0,.int .i64 0,.int .i64 0,.int .i64 0,.int .i64 0,.int .i64 0,.int .i64 0,.int .i64 0,.int .i64 0,.int .i64 0,.int .i64 0,.int .i64 0,.int .i64 0,.int .i64 0,.int .i64 0,.int .i64 0,.int .i64 0,.int .i64 0,.int .i64 0,.int .i64 0,.bool false,.slice none 0 0,.int .i64 0,.int .i64 0,.int .i64 0] 46)) (g:=w1.heap.size) hB.size BD.toArray
 have Rb2:Blk ((w1.alloc (.cells #[.int .i64 0,.int .i64 0,.int .i64 0,.int .i64 0,.int .i64 0,.int .i64 0,.int .i64 0,.int .i64 0,.int .i64 0,.int .i64 0,.int .i64 0,.int .i64 0,.int .i64 0,.int .i64 0,.int .i64 0,.int .i64 0,.int .i64 0,.int .i64 0,.int .i64 0,.int .i64 0,.int .i64 0,.int .i64 0,.int .i64 0,.int .i64 0,.int .i64 0,.bool false,.slice none 0 0,.int .i64 0,.int .i64 0,.int .i64 0] 46)).setRow w1.heap.size BD.toArray) (w.heap.size + 1) 31 #[.int .i64 0,.int .i64 0]:=(setRow_other _ _ _ _ (by have:=Rb.lt;omega)).trans (Rb.below ((Below.refl _ _).alloc (Nat.le_refl _) _))
 have B2:=Bz.row BD.toArray
 clear hbo hrb hb1 Rb
 by_cases h0:C=0
 ·obtain ⟨hBD,hwel,h4,hd3⟩:=HBD.out h0
  have HD:Hid (D=if outV dec=3 then 4 else 0):=(HDE.out.1 h0).1
  have HV:Hid (E=if outV dec=3 then 0 else outV dec):=(HDE.out.1 h0).2
  subst h0
  have hrg:=rng B2 (dec.map iv) (o:=27) (fun j v hv=>by
   obtain ⟨hj,rfl⟩:=row_get hd3 hv
   rw [List.getElem?_toArray,hBD]
   exact brd_dec hwel h4 hd3 j hj)
  have hszD:(Tryz.prog.info? 39).map (·.size)=some (dec.map iv).length:=by rw [List.length_map,hd3];exact sz_row
  clear HBD HDE hBD
  go_wp2_with (first | (refine st_row (by kernel_rfl) 46 _ _ rfl _ BD.toArray rfl rfl 46 _ Bz hszB hold hone ?_) | (refine ld_g (by kernel_rfl) 39 _ rfl _ _ rfl (dec.map iv) _ hrg Tryz.underlying39 rfl hszD ?_))
  clear hrg Bz
  generalize (w1.alloc (.cells #[.int .i64 0,.int .i64 0,.int .i64 0,.int .i64 0,.int .i64 0,.int .i64 0,.int .i64 0,.int .i64 0,.int .i64 0,.int .i64 0,.int .i64 0,.int .i64 0,.int .i64 0,.int .i64 0,.int .i64 0,.int .i64 0,.int .i64 0,.int .i64 0,.int .i64 0,.int .i64 0,.int .i64 0,.int .i64 0,.int .i64 0,.int .i64 0,.int .i64 0,.bool false,.slice none 0 0,.int .i64 0,.int .i64 0,.int .i64 0] 46)).setRow w1.heap.size BD.toArray=X at *
  go_loopw [18] (fun j wr=>∃ m:Nat,m≤3∧j=.int .i64 m∧Hid (∀ j,j < m→dec.getD j 0=3)∧wr=X) (fun j _=>3 - (intOf j).toNat)
  case atStart=>exact ⟨0,Nat.zero_le _,rfl,fun j hj=>absurd hj (Nat.not_lt_zero _),rfl⟩
  case round=>
   obtain ⟨m,hm,rfl,HA,rfl⟩:=hrel
   obtain ⟨q0,q1⟩:=Rb2.cel2
   obtain ⟨f0,f1⟩:=Rb2.frz2
   by_cases hm3:m < 3
   ·have hm3' : (m:Int) < 3:=by omega
    have hix:=fun w=>idx_any hd3 m hm3 w
    have HY:Hid (dec.getD m 0≠3→outV dec=dec.getD m 0):=fun hx=>outV_at dec m HA.out (by omega) hx
    have HN:Hid (dec.getD m 0=3→∀ j,j < m + 1→dec.getD j 0=3):=fun hx j hj=>by
     by_cases hjm:j=m
     ·subst hjm;exact hx
     ·exact HA.out j (by omega)
    clear HA
    generalize dec.getD m 0=v at *
    by_cases hv:v=3
    ·have hv' : (v != 3)=false:=by simp [hv]
     have R:=HN.out hv
     have HR:Hid _:=R
     clear HY HN R hv
     go_wp2
     go_roundw
     case rel=>exact ⟨m + 1,by omega,by go_num,HR.out,by first | rfl | trivial⟩
     case measure=>simp [intOf];omega
    ·have hv' : (v != 3)=true:=by simpa using hv
     have hov:=HY.out hv
     have E1:Hid (D=0∧E=v):=by
      refine ⟨?_,?_⟩
      ·rw [HD.out,hov,if_neg hv]
      ·rw [HV.out,hov,if_neg hv]
     clear HY HN HD HV hov hv
     go_wp2
     exact bodyPost_ret (v:=.agg #[.int .i64 0,.int .i64 v]) (by simp [results,Tryz.results7,go_sem,q0,q1]) rfl ⟨by rw [E1.out.1,E1.out.2],(hB2.setCell (p:=⟨w.heap.size + 1,0,none⟩) (by show w.heap.size≤w.heap.size + 1;omega) _).setCell (p:=⟨w.heap.size + 1,1,none⟩) (by show w.heap.size≤w.heap.size + 1;omega) _⟩
   ·have hme:m=3:=by omega
    subst hme
    have hov:=outV_none dec (by rw [hd3];exact HA.out)
    have E1:Hid (D=4∧E=0):=by
     refine ⟨?_,?_⟩
     ·rw [HD.out,hov,if_pos rfl]
     ·rw [HV.out,hov,if_pos rfl]
    clear HA HD HV hov
    go_wp2
    exact bodyPost_ret (v:=.agg #[.int .i64 4,.int .i64 0]) (by simp [results,Tryz.results7,go_sem,q0,q1]) rfl ⟨by rw [E1.out.1,E1.out.2],(hB2.setCell (p:=⟨w.heap.size + 1,0,none⟩) (by show w.heap.size≤w.heap.size + 1;omega) _).setCell (p:=⟨w.heap.size + 1,1,none⟩) (by show w.heap.size≤w.heap.size + 1;omega) _⟩
 ·have E1:Hid (D=C∧E=0):=HDE.out.2 h0
  have h0' : (C != 0)=true:=by simpa using h0
  obtain ⟨q0,q1⟩:=Rb2.cel2
  obtain ⟨f0,f1⟩:=Rb2.frz2
  clear HDE HBD h0 B2 Rb2
  generalize hX:(w1.alloc (.cells #[.int .i64 0,.int .i64 0,.int .i64 0,.int .i64 0,.int .i64 0,.int .i64 0,.int .i64 0,.int .i64 0,.int .i64 0,.int .i64 0,.int .i64 0,.int .i64 0,.int .i64 0,.int .i64 0,.int .i64 0,.int .i64 0,.int .i64 0,.int .i64 0,.int .i64 0,.int .i64 0,.int .i64 0,.int .i64 0,.int .i64 0,.int .i64 0,.int .i64 0,.bool false,.slice none 0 0,.int .i64 0,.int .i64 0,.int .i64 0] 46)).setRow w1.heap.size BD.toArray=X at q0 q1 f0 f1 hB2
  go_wp2_with (refine st_row (by kernel_rfl) 46 _ _ rfl _ BD.toArray rfl rfl 46 _ Bz hszB hold hone ?_)
  exact bodyPost_ret (v:=.agg #[.int .i64 C,.int .i64 0]) (by simp [results,Tryz.results7,go_sem,q0,q1]) rfl ⟨by rw [E1.out.1,E1.out.2],(hB2.setCell (p:=⟨w.heap.size + 1,0,none⟩) (by show w.heap.size≤w.heap.size + 1;omega) _).setCell (p:=⟨w.heap.size + 1,1,none⟩) (by show w.heap.size≤w.heap.size + 1;omega) _⟩

set_option maxHeartbeats 2000000 in
theorem l6Outcome_any (b o:Nat) (p:InstQ) (w:World) (hP:InstP w b o p) (hl:p.n≤1048576) :
  Calls Tryz.prog 20 #[.pointer (some ⟨b,o,none⟩)] w fun e w' => e=.returned (.int .i64 (outV p.dec))∧w' = w:=by
 obtain ⟨has,vb,batch,vr,rounds,vd,dec⟩:=p
 have hD:intK.At w vd dec:=hP.dec
 obtain ⟨da,dk,rfl⟩:=hD.shape
 have hRow:=(intK_at hD).2
 obtain ⟨c0,c1,c2,c3⟩:=hP.box
 dsimp only [InstQ.n] at c0 c1 c2 c3 hl ⊢
 generalize hE:outV dec=E
 have HE:Hid (outV dec=E):=hE
 clear hE
 go_enter Tryz.func20,Tryz.ntmps20
 go_wp2
 go_loop [3] (fun j=>∃ k:Nat,k≤dec.length∧j=.int .i64 k∧Hid (∀ j,j < k→dec.getD j 0=3)) (fun j=>dec.length - (intOf j).toNat)
 case atStart=>exact ⟨0,Nat.zero_le _,rfl,fun j hj=>absurd hj (Nat.not_lt_zero _)⟩
 case round=>
  obtain ⟨k,hk,rfl,HA⟩:=hrel
  by_cases hlt:k < dec.length
  ·obtain ⟨bb,off,rfl,hbs,hc⟩:=hRow k hlt
   have HY:Hid (dec.getD k 0≠3→E=dec.getD k 0):=fun hx=>by rw [← HE.out];exact outV_at dec k HA.out hlt hx
   have HN:Hid (dec.getD k 0=3→∀ j,j < k + 1→dec.getD j 0=3):=fun hx j hj=>by
    by_cases hjm:j=k
    ·subst hjm;exact hx
    ·exact HA.out j (by omega)
   clear HA
   generalize dec.getD k 0=v at *
   by_cases hv:v=3
   ·have hv' : (v != 3)=false:=by simp [hv]
    have R:=HN.out hv
    have HR:Hid _:=R
    clear HY HN R hv
    go_wp2
    go_round
    case rel=>exact ⟨k + 1,by omega,by go_num,HR.out⟩
    case measure=>simp [intOf];omega
   ·have hv' : (v != 3)=true:=by simpa using hv
    have E1:Hid (E=v):=HY.out hv
    clear HY HN hv
    go_wp2
    go_ret
    exact ⟨by rw [E1.out];rfl,rfl⟩
  ·have hkl:k=dec.length:=by omega
   subst hkl
   have E1:Hid (E=3):=by rw [← HE.out];exact outV_none dec HA.out
   clear HA HE
   go_wp2
   go_ret
   exact ⟨by rw [E1.out];rfl,rfl⟩

set_option maxHeartbeats 2000000 in
theorem specOutcome_any (p:InstQ) (w:World) (h:instK.rd w p) (hl:p.n≤1048576) :
  Calls Tryz.prog 11 #[.agg #[.bool p.has,p.vb,p.vr,p.vd]] w fun e w' => e=.returned (.agg #[.int .i64 (ocC p.e),.int .i64 (ocV p.e)])∧Below w.heap.size w w' := by
 have hB:Below w.heap.size w ((w.alloc (.cells #[.bool p.has,p.vb,p.vr,p.vd] 28)).alloc (.cells #[.int .i64 0,.int .i64 0] 31)):=by go_grown
 have Rb:=Blk.new (w.alloc (.cells #[.bool p.has,p.vb,p.vr,p.vd] 28)) 31 #[.int .i64 0,.int .i64 0]
 simp only [World.size_alloc] at Rb
 have hP:InstP ((w.alloc (.cells #[.bool p.has,p.vb,p.vr,p.vd] 28)).alloc (.cells #[.int .i64 0,.int .i64 0] 31)) w.heap.size 0 p:=⟨(box4_new w _ _ _ _ 28).below (by go_grown),instK.rd_below h hB⟩
 obtain ⟨D,hD⟩:∃ D,ocC p.e=D:=⟨_,rfl⟩
 obtain ⟨E,hE⟩:∃ E,ocV p.e=E:=⟨_,rfl⟩
 have HDE:Hid ((insF p.e=0→(D=if outV p.dec=3 then 4 else 0)∧(E=if outV p.dec=3 then 0 else outV p.dec))∧(insF p.e≠0→D=insF p.e∧E=0)):=by
  refine ⟨fun h0=>⟨?_,?_⟩,fun h0=>⟨?_,?_⟩⟩
  ·rw [← hD];exact if_pos h0
  ·rw [← hE];exact if_pos h0
  ·rw [← hD];exact if_neg h0
  ·rw [← hE];exact if_neg h0
 rw [hD,hE]
 clear hD hE
 have hf:=fun w hP=>l6Fault_any w.heap.size 0 p w hP hl
 have hf1:=l6Fault_any w.heap.size 0 p _ hP hl
 have ho1:=fun w' hP=>l6Outcome_any w.heap.size 0 p w' hP hl
 generalize insF p.e=C at *
 generalize outV p.dec=O at *
 clear hf
 go_enter Tryz.func11,Tryz.ntmps11
 go_wp2_with fail
 generalize (w.alloc (.cells #[.bool p.has,p.vb,p.vr,p.vd] 28)).alloc (.cells #[.int .i64 0,.int .i64 0] 31)=W at *
 refine hf1.mono ?_
 rintro e w1 ⟨rfl,hb1⟩
 replace hB:=hB.trans (hb1.mono hB.size)
 replace Rb:=Rb.below hb1
 have ho2:=ho1 w1 (hP.below hb1)
 obtain ⟨q0,q1⟩:=Rb.cel2
 obtain ⟨f0,f1⟩:=Rb.frz2
 clear hf1 ho1 hP hb1
 by_cases h0:C=0
 ·obtain ⟨hd,he⟩:=HDE.out.1 h0
  subst h0
  have HD:Hid (D=if O=3 then 4 else 0):=hd
  have HV:Hid (E=if O=3 then 0 else O):=he
  clear HDE hd he
  go_wp2_with fail
  refine ho2.mono ?_
  rintro e w' ⟨rfl,hw⟩
  replace hw:=hw.symm
  subst hw
  clear ho2
  by_cases hO:O=3
  ·have E1:Hid (D=4∧E=0):=And.intro (by rw [HD.out,if_pos hO]) (by rw [HV.out,if_pos hO])
   have hO' : (O == 3)=true:=by simp [hO]
   clear HD HV hO
   go_wp2
   exact bodyPost_ret (v:=.agg #[.int .i64 4,.int .i64 0]) (by simp [results,Tryz.results11,go_sem,q0,q1]) rfl ⟨by rw [E1.out.1,E1.out.2],(hB.setCell (p:=⟨w.heap.size + 1,0,none⟩) (by show w.heap.size≤w.heap.size + 1;omega) _).setCell (p:=⟨w.heap.size + 1,1,none⟩) (by show w.heap.size≤w.heap.size + 1;omega) _⟩
  ·have E1:Hid (D=0∧E=O):=And.intro (by rw [HD.out,if_neg hO]) (by rw [HV.out,if_neg hO])
   have hO' : (O == 3)=false:=by simpa using hO
   clear HD HV hO
   go_wp2
   exact bodyPost_ret (v:=.agg #[.int .i64 0,.int .i64 O]) (by simp [results,Tryz.results11,go_sem,q0,q1]) rfl ⟨by rw [E1.out.1,E1.out.2],(hB.setCell (p:=⟨w.heap.size + 1,0,none⟩) (by show w.heap.size≤w.heap.size + 1;omega) _).setCell (p:=⟨w.heap.size + 1,1,none⟩) (by show w.heap.size≤w.heap.size + 1;omega) _⟩
 ·have E1:Hid (D=C∧E=0):=HDE.out.2 h0
  have h0' : (C != 0)=true:=by simpa using h0
  clear HDE h0 ho2
  go_wp2
  exact bodyPost_ret (v:=.agg #[.int .i64 C,.int .i64 0]) (by simp [results,Tryz.results11,go_sem,q0,q1]) rfl ⟨by rw [E1.out.1,E1.out.2],(hB.setCell (p:=⟨w.heap.size + 1,0,none⟩) (by show w.heap.size≤w.heap.size + 1;omega) _).setCell (p:=⟨w.heap.size + 1,1,none⟩) (by show w.heap.size≤w.heap.size + 1;omega) _⟩

end Go.Proofs.YtnnenkoeklabpaaGreatDoor
namespace Go.Proofs.YtnnenkoeklabpaaGreatDoor
open Go.RowKit
set_option maxRecDepth 100000
section
variable {P:Type} {K:Kind P} {w w' : World} {v v' : Value} {ps:List P} {p:P} {B:Nat}
theorem Kind.row_snoc (ps:List P) (p:P):K.row (ps ++ [p])=K.row ps ++ K.cells p:=by simp [Kind.row]

theorem Kind.Own.snoc (h:K.Own w v ps) (hnd:(K.fp v ps).Nodup) (hlo:∀ k∈K.fp v ps,B≤k) (hp:K.own w p) (hpn:(K.foot p).Nodup) (hpd:∀ k∈K.foot p,k ∉ K.fp v ps) (hplo:∀ k∈K.foot p,B≤k) (hB:B≤w.heap.size)
  (hrow:w'.ownsRow 0 K.ty K.size v' (ps.length + 1) (K.row ps ++ K.cells p)) (hg:w.grownBy w' v.ownBlock) (hat:v'.ownBlock=v.ownBlock∨v'.ownBlock=some w.heap.size) :
  K.Own w' v' (ps ++ [p])∧(K.fp v' (ps ++ [p])).Nodup∧(∀ k∈K.fp v' (ps ++ [p]),B≤k)∧Out (blk v) w w' := by
 have hO:Out (blk v) w w' := Out.of_grown hg
 have hnd2:=List.nodup_append.1 hnd
 have hlt:=h.lt
 have hplt:=K.own_lt hp
 have hfe:(ps ++ [p]).flatMap K.foot=ps.flatMap K.foot ++ K.foot p:=by simp
 refine ⟨⟨?_,?_⟩,?_,?_,hO⟩
 ·rw [List.length_append,List.length_singleton,Kind.row_snoc]
  exact hrow
 ·intro q hq
  rcases List.mem_append.1 hq with hq | hq
  ·exact K.own_out (h.2 q hq) hO (fun k hk hkb=>hnd2.2.2 k hkb k (List.mem_flatMap.2 ⟨q,hq,hk⟩) rfl)
  ·simp only [List.mem_singleton] at hq
   subst hq
   exact K.own_out hp hO (fun k hk hkb=>hpd k hk (by simp only [Kind.fp,List.mem_append];exact Or.inl hkb))
 ·unfold Kind.fp
  rw [hfe]
  have hrest:(ps.flatMap K.foot ++ K.foot p).Nodup:=List.nodup_append.2 ⟨hnd2.2.1,hpn,fun a ha b hb e=>hpd b hb (by simp only [Kind.fp,List.mem_append];exact Or.inr (e ▸ ha))⟩
  rcases hat with hat | hat
  ·have e:blk v' = blk v:=by unfold blk;rw [hat]
   rw [e]
   refine List.nodup_append.2 ⟨hnd2.1,hrest,fun a ha b hb e=>?_⟩
   subst e
   rcases List.mem_append.1 hb with hb | hb
   ·exact hnd2.2.2 a ha a hb rfl
   ·exact hpd a hb (by simp only [Kind.fp,List.mem_append];exact Or.inl ha)
  ·have e:blk v' = [w.heap.size]:=by unfold blk;rw [hat];rfl
   rw [e]
   refine List.nodup_append.2 ⟨by simp,hrest,fun a ha b hb e=>?_⟩
   simp only [List.mem_singleton] at ha
   subst e ha
   rcases List.mem_append.1 hb with hb | hb
   ·have:=hlt _ (show w.heap.size∈K.fp v ps by simp only [Kind.fp,List.mem_append];exact Or.inr hb)
    omega
   ·have:=hplt _ hb
    omega
 ·intro k hk
  unfold Kind.fp at hk
  rw [hfe] at hk
  rcases List.mem_append.1 hk with hk | hk
  ·rcases hat with hat | hat
   ·exact hlo k (by simp only [Kind.fp,List.mem_append];left;unfold blk at hk ⊢;rw [hat] at hk;exact hk)
   ·unfold blk at hk
    rw [hat] at hk
    simp only [Option.toList,List.mem_singleton] at hk
    omega
  ·rcases List.mem_append.1 hk with hk | hk
   ·exact hlo k (by simp only [Kind.fp,List.mem_append];exact Or.inr hk)
   ·exact hplo k hk

theorem Kind.own_nil (w:World):K.Own w (.slice none 0 0) ([]:List P)∧(K.fp (.slice none 0 0) ([]:List P))=[]:=⟨⟨World.ownsRow_nil _ _ _ _,fun p hp=>by simp at hp⟩,by simp [Kind.fp,blk,Value.ownBlock]⟩

end
end Go.Proofs.YtnnenkoeklabpaaGreatDoor
namespace Go.Proofs.YtnnenkoeklabpaaGreatDoor
open Go.RowKit
open Go.BigFrame
set_option maxRecDepth 100000
theorem intK_nodup (v:Value) (zs:List Int):(intK.fp v zs).Nodup:=by
 rw [intK_fp];exact blk_nodup v

end Go.Proofs.YtnnenkoeklabpaaGreatDoor
namespace Go.Proofs.YtnnenkoeklabpaaGreatDoor
open Go.RowKit
open Go.BigFrame
set_option maxRecDepth 100000
theorem out_row (w:World) (g:Nat) (cs:Array Value):Out [g] w (w.setRow g cs):=
 ⟨rfl,rfl,rfl,by rw [setRow_size];exact Nat.le_refl _,fun k _ hn=>setRow_other w g k cs (by simpa using hn)⟩

theorem sz_inst:(Tryz.prog.info? 28).map (·.size)=some 4:=by kernel_rfl

end Go.Proofs.YtnnenkoeklabpaaGreatDoor
namespace Go.Proofs.YtnnenkoeklabpaaGreatDoor
open Go.RowKit
open Go.BigFrame
set_option maxRecDepth 100000
set_option maxHeartbeats 1000000 in
theorem l1Ints_own (b off cap:Nat) (zs:List Int) (w:World) (h:Row .i64 w (some ⟨b,off,none⟩) zs) (h0:0 < zs.length) (hl:zs.length≤1048576) :
  Calls Tryz.prog 90 #[.slice (some ⟨b,off,none⟩) zs.length cap] w fun e w' => ∃ a c,e=.returned (.slice a zs.length c) ∧
   w'.ownsRow w.heap.size 2 1 (.slice a zs.length c) zs.length (zs.map iv)∧Below w.heap.size w w' := by
 obtain ⟨i0,hi,hz0,hz1,hz2⟩:=info_parts infoI6
 have hs:=lies_src (Lies.below (lies_of_row h) (w' := w.alloc (.cells #[] 2)) (by go_grown))
 have hcl:(zs.map iv).length=zs.length * 1:=by simp
 have ho:=World.ownsRow_lit (e:=2) (size:=1) w #[] 0 (Nat.le_refl _) (by decide) rfl
 have HS:Hid (∀ j u,(zs.map iv)[j]? = some u→_):=hs
 clear hs
 go_enter Tryz.func90,Tryz.ntmps90
 go_wp2_with (at_builtin;refine wpList_append_own _ rfl _ _ 26 rfl w.heap.size 2 i0 (.int .i64 0) 1 8 Tryz.underlying26 hi hz0 hz1 hz2 rfl (by decide) _ 0 [] rfl ho ⟨b,off,none⟩ zs.length cap (zs.map iv) rfl hcl HS.out ?c2 ?c3 ?c4 ?c5 ?_)
 all_goals try (case c2=>first | (intro u hu;obtain ⟨z,_,rfl⟩:=List.mem_map.1 hu;rfl) | (intro u hu;rfl))
 all_goals try (case c3=>unfold maxLen;omega)
 all_goals try (case c4=>omega)
 all_goals try (case c5=>simp)
 intro v' w2 hown hgrow _
 obtain ⟨a2,c2,rfl⟩:=own_shape hown
 have hb2:Below w.heap.size w w2:=((Below.refl _ _).alloc (Nat.le_refl _) _).grown hgrow (by simp) (fun k hk=>by simp [Value.ownBlock] at hk;omega)
 try simp only [Nat.zero_add] at hown
 clear hgrow HS ho
 go_wp2
 go_ret
 exact ⟨a2,c2,rfl,by simpa using hown,hb2⟩

theorem l1Ints_any (v:Value) (zs:List Int) (w:World) (h:intK.At w v zs) (h0:0 < zs.length) (hl:zs.length≤1048576) :
  Calls Tryz.prog 90 #[v] w fun e w' => ∃ a c,e=.returned (.slice a zs.length c)∧intK.Own w' (.slice a zs.length c) zs∧(∀ k∈intK.fp (.slice a zs.length c) zs,w.heap.size≤k)∧Below w.heap.size w w' := by
 obtain ⟨a,cap,rfl⟩:=h.shape
 have hR:=(intK_at h).2
 obtain ⟨b,off,rfl,_⟩:=hR 0 h0
 refine (l1Ints_own b off cap zs w hR h0 hl).mono ?_
 rintro e w2 ⟨a2,c2,rfl,ho,hb⟩
 obtain ⟨O,G⟩:=list_own rfl ho
 exact ⟨a2,c2,rfl,O,G,hb⟩

set_option maxHeartbeats 2000000 in
theorem l2CopyAll_any (v:Value) (ps:List TxnQ) (w:World) (h:txnK.At w v ps) (hne:∀ p∈ps,0 < p.acts.length) (hl:ps.length + nmL TxnQ.n ps≤1048576) :
  Calls Tryz.prog 76 #[v] w fun e w' => ∃ v' qs,e=.returned v' ∧ qs.map TxnQ.e=ps.map TxnQ.e∧txnK.Own w' v' qs∧(txnK.fp v' qs).Nodup∧(∀ k∈txnK.fp v' qs,w.heap.size≤k)∧Below w.heap.size w w' := by
 obtain ⟨a,cap,rfl⟩:=h.shape
 obtain ⟨i0,hi,hz0,hz1,hz2⟩:=info_parts infoTxn
 have ho:=World.ownsRow_lit (e:=62) (size:=4) w #[] 0 (Nat.le_refl _) (by decide) rfl
 have hn1:txnK.Own (w.alloc (.cells #[] 62)) (.slice (some ⟨w.heap.size,0,none⟩) 0 0) ([]:List TxnQ):=⟨(own_zero ho).1,fun p hp=>by simp at hp⟩
 have hnb:Below w.heap.size w (w.alloc (.cells #[] 62)):=by go_grown
 have HN0:Hid ((txnK.fp (.slice (some ⟨w.heap.size,0,none⟩) 0 0) ([]:List TxnQ)).Nodup∧∀ k∈txnK.fp (.slice (some ⟨w.heap.size,0,none⟩) 0 0) ([]:List TxnQ),w.heap.size≤k):=by
  refine ⟨?_,?_⟩
  ·simp [Kind.fp,blk,Value.ownBlock]
  ·simp [Kind.fp,blk,Value.ownBlock]
 clear ho
 go_enter Tryz.func76,Tryz.ntmps76
 go_wp2
 go_loopw [3,4] (fun v j wr=>∃ (k:Nat) (qs:List TxnQ),k≤ps.length∧j=.int .i64 k∧Hid (qs.map TxnQ.e=(ps.take k).map TxnQ.e)∧txnK.Own wr v qs∧Hid ((txnK.fp v qs).Nodup∧∀ k∈txnK.fp v qs,w.heap.size≤k)∧Below w.heap.size w wr) (fun _ j _=>ps.length - (intOf j).toNat)
 case atStart=>exact ⟨0,[],Nat.zero_le _,rfl,(rfl:_=_),hn1,HN0,hnb⟩
 case round=>
  clear HN0 hn1 hnb
  obtain ⟨k,qs,hk,rfl,HE,hO,HN,hb⟩:=hrel
  obtain ⟨sa,sc,rfl⟩:=hO.shape
  have HQL:Hid (qs.length=k):=by
   have:=congrArg List.length HE.out
   rw [List.length_map,List.length_map,List.length_take] at this
   show qs.length=k
   omega
  by_cases hlt:k < ps.length
  ·obtain ⟨b,off,rfl,hbs,hc,hrd⟩:=(h.below hb).cell (by decide) k hlt
   have hc' : ∀ j x,(txnK.cells ps[k])[j]? = some x→wr.cell? ⟨b,off + k * 4 + j,none⟩=some x:=hc
   have c0:=hc' 0 (.int .i64 ps[k].i) rfl
   have c1:=hc' 1 (.int .i64 ps[k].s) rfl
   have c2:=hc' 2 (.int .i64 ps[k].q) rfl
   have c3:=hc' 3 (ps[k].va) rfl
   have hzl:=nm_le TxnQ.n ps k hlt
   have hpos:=hne _ (List.getElem_mem hlt)
   have HPE:Hid (∀ p' : TxnQ,p'.e=TxnQ.e ps[k]→(qs ++ [p']).map TxnQ.e=(ps.take (k + 1)).map TxnQ.e):=fun p' hp' => by
    rw [List.take_succ_eq_append_getElem hlt,List.map_append,List.map_append,HE.out,List.map_singleton,List.map_singleton,hp']
   clear hc hc'
   generalize ps[k]=p at *
   obtain ⟨i,s,q,va,acts⟩:=p
   replace hrd:actK.At wr va acts:=hrd
   replace hzl:acts.length≤nmL TxnQ.n ps:=hzl
   obtain ⟨aa,ac,rfl⟩:=hrd.shape
   dsimp only at c0 c1 c2 c3 hpos
   obtain ⟨ab,ao,haa⟩:∃ ab ao,aa=some ⟨ab,ao,none⟩:=by
    rcases (actK_at hrd).2 with h0 | ⟨ab,ao,e,_⟩
    ·have:=actCells_length acts
     rw [h0] at this
     simp at this
     omega
    ·exact ⟨ab,ao,e⟩
   subst haa
   have hcl:=l2Copy_any i s q ab ao ac acts _ (actK_at hrd).2 hpos (by omega)
   rw [Nat.add_zero] at c0
   clear HE
   go_wp2_with fail
   clear c0 c1 c2 c3
   have hYs:w.heap.size≤wr.heap.size:=hb.size
   refine hcl.mono ?_
   rintro e w2 ⟨a2,c2,rfl,ho2,hb2⟩
   have HLT:=hO.lt
   replace hO:=hO.below hb2
   replace hb:=hb.trans (hb2.mono hb.size)
   obtain ⟨o2,hk2⟩:=own_zero ho2
   have hP:txnK.own w2 ⟨i,s,q,.slice a2 acts.length c2,acts⟩:=⟨o2,fun _ _=>trivial⟩
   have hPlo:∀ x∈txnK.foot ⟨i,s,q,.slice a2 acts.length c2,acts⟩,wr.heap.size≤x:=fun x hx=>hk2 x (by rw [← actK_fp (.slice a2 acts.length c2) acts];exact hx)
   have hPn:(txnK.foot ⟨i,s,q,.slice a2 acts.length c2,acts⟩).Nodup:=by
    show (actK.fp _ _).Nodup
    rw [actK_fp];exact blk_nodup _
   have hbA:Below w2.heap.size w2 (w2.alloc (.cells #[.int .i64 i,.int .i64 s,.int .i64 q,.slice a2 acts.length c2] 62)):=by go_grown
   have hOA:=hO.below hbA
   have hPA:=txnK.own_out (F:=[]) hP (Out.of_below hbA) (fun _ _=>by simp)
   have hbB:=hb.trans (hbA.mono hb.size)
   clear hcl ho2 hO hP hk2
   have hrow0:=hOA.1
   go_wp2_with (at_builtin;refine wpList_append_own_at _ rfl _ _ 24 rfl 0 62 i0 (.agg #[.int .i64 0,.int .i64 0,.int .i64 0,.slice none 0 0]) 4 48 Tryz.underlying24 hi hz0 hz1 hz2 rfl (by decide) _ qs.length (txnK.row qs) rfl hrow0 ⟨w2.heap.size,0,none⟩ 1 1 [.int .i64 i,.int .i64 s,.int .i64 q,.slice a2 acts.length c2] rfl rfl ?c1 ?c2 ?c3 ?c4 ?c5 ?_)
   all_goals try (case c1=>intro j u hj;match j,hj with | 0,hj=>simp at hj;subst hj;simp [Addr.add] | 1,hj=>simp at hj;subst hj;simp [Addr.add] | 2,hj=>simp at hj;subst hj;simp [Addr.add] | 3,hj=>simp at hj;subst hj;simp [Addr.add])
   all_goals try (case c2=>intro u hu;simp at hu;rcases hu with rfl | rfl | rfl | rfl <;> rfl)
   all_goals try (case c3=>have:=HQL.out;unfold maxLen;omega)
   all_goals try (case c4=>have:=HQL.out;omega)
   all_goals try (case c5=>first | omega | simp)
   intro v' w5 hown hgrow hnil hat
   clear hnil hrow0
   rw [show w2.heap.size + 1=(w2.alloc (.cells #[.int .i64 i,.int .i64 s,.int .i64 q,.slice a2 acts.length c2] 62)).heap.size from (World.size_alloc _ _).symm] at hat
   generalize hwA:w2.alloc (.cells #[.int .i64 i,.int .i64 s,.int .i64 q,.slice a2 acts.length c2] 62)=WA at *
   clear hwA
   have hsz:wr.heap.size≤WA.heap.size:=by have:=hb2.size;have:=hbA.size;omega
   obtain ⟨hO5,hn5,hlo5,hou⟩:=hOA.snoc HN.out.1 HN.out.2 hPA hPn (fun x hx hx' => by have:=HLT x hx';have:=hPlo x hx;omega) (fun x hx=>by have:=hPlo x hx;omega) hbB.size hown hgrow hat
   have hb5:Below w.heap.size w w5:=Out.keep hbB hou hbB.size (fun x hx=>HN.out.2 x (by simp only [Kind.fp,List.mem_append];exact Or.inl hx))
   have HE5:Hid ((qs ++ [(⟨i,s,q,.slice a2 acts.length c2,acts⟩:TxnQ)]).map TxnQ.e=(ps.take (k + 1)).map TxnQ.e):=HPE.out _ rfl
   have HN5:Hid ((txnK.fp v' (qs ++ [(⟨i,s,q,.slice a2 acts.length c2,acts⟩:TxnQ)])).Nodup∧∀ k∈txnK.fp v' (qs ++ [(⟨i,s,q,.slice a2 acts.length c2,acts⟩:TxnQ)]),w.heap.size≤k):=⟨hn5,hlo5⟩
   clear HPE HN HLT hPlo hPn hPA hOA hbB hown hgrow hat hou hn5 hlo5 hrd hb hbA hb2 hzl hpos
   go_wp2
   go_roundw
   case rel=>exact ⟨k + 1,_,by omega,by go_num,HE5,hO5,HN5,hb5⟩
   case measure=>simp [intOf];omega
  ·have hkl:k=ps.length:=by omega
   subst hkl
   have hE:=HE.out
   rw [List.take_length] at hE
   clear HE
   go_wp2
   go_ret
   exact ⟨_,qs,rfl,hE,hO,HN.out.1,HN.out.2,hb⟩

end Go.Proofs.YtnnenkoeklabpaaGreatDoor
namespace Go.Proofs.YtnnenkoeklabpaaGreatDoor
open Go.RowKit
open Go.BigFrame
set_option maxRecDepth 100000
end Go.Proofs.YtnnenkoeklabpaaGreatDoor
namespace Go.Proofs.YtnnenkoeklabpaaGreatDoor
open Go.RowKit
open Go.BigFrame
set_option maxRecDepth 100000
end Go.Proofs.YtnnenkoeklabpaaGreatDoor
namespace Go.Proofs.YtnnenkoeklabpaaGreatDoor
open Go.RowKit
open Go.BigFrame
set_option maxRecDepth 100000
end Go.Proofs.YtnnenkoeklabpaaGreatDoor
namespace Go.Proofs.YtnnenkoeklabpaaGreatDoor
open Go.RowKit
open Go.BigFrame
set_option maxRecDepth 100000
end Go.Proofs.YtnnenkoeklabpaaGreatDoor
namespace Go.Proofs.YtnnenkoeklabpaaGreatDoor
open Go.RowKit
set_option maxRecDepth 100000
end Go.Proofs.YtnnenkoeklabpaaGreatDoor
namespace Go.Proofs.YtnnenkoeklabpaaGreatDoor
open Go.RowKit
open Go.BigFrame
set_option maxRecDepth 100000
/-- An answer that holds an instance: the cells. -/
abbrev resC (code cc:Int) (cd ck:Bool) (cx:Int) (p:InstQ):Array Value:=#[.int .i64 code,.int .i64 cc,.bool cd,.bool ck,.int .i64 cx,.bool p.has,p.vb,p.vr,p.vd]

end Go.Proofs.YtnnenkoeklabpaaGreatDoor
namespace Go.Proofs.YtnnenkoeklabpaaGreatDoor
open Go.RowKit
open Go.BigFrame
set_option maxRecDepth 100000
/-- No instance. -/
def inst0:InstQ:=⟨false,.slice none 0 0,[],.slice none 0 0,[],.slice none 0 0,[]⟩

def ine0:InstE:=⟨false,[],[],[]⟩

theorem inst0_own (w:World):instK.own w inst0:=⟨(Kind.own_nil w).1,(Kind.own_nil w).1,(Kind.own_nil w).1⟩

theorem inst0_ft:instK.foot inst0=[]:=by
 show txnK.fp _ _ ++ (roundK.fp _ _ ++ intK.fp _ _)=[]
 simp [inst0,Kind.fp,blk,Value.ownBlock]

theorem inst0_nd:(instK.foot inst0).Nodup:=by rw [inst0_ft];simp

theorem sz_res:(Tryz.prog.info? 88).map (·.size)=some 9:=by kernel_rfl

/-- SetBatch, plainly: its code, and its instance. -/
def sbC (x:InstE) (ds:List TxnD):Int:=if insF x=0 then (if x.has then 6 else batF ds) else insF x

def sbI (x:InstE) (ds:List TxnD):InstE:=if sbC x ds=0 then ⟨true,ds,x.rounds,x.dec⟩ else ine0

theorem txnF_nil (i s q:Int):txnF i s q []≠0:=by
 unfold txnF
 split <;> simp

theorem bat_pos {bt:List TxnQ} (h:batF (bt.map TxnQ.e)=0):∀ p∈bt,0 < p.acts.length:=by
 intro p hp
 have ha:allF (bt.map TxnQ.e)=0:=by
  unfold batF at h
  split at h
  ·omega
  ·split at h
   ·assumption
   ·exact h
 have hz:∀ (ds:List TxnD),allF ds=0→∀ d∈ds,d.F=0:=by
  intro ds
  induction ds with
  | nil=>intro _ d hd;simp at hd
  | cons x r ih=>
   intro h d hd
   simp only [allF] at h
   by_cases hx:x.F=0
   ·rw [if_pos hx] at h
    rcases List.mem_cons.1 hd with rfl | hd
    ·exact hx
    ·exact ih h d hd
   ·rw [if_neg hx] at h
    exact absurd h hx
 have hf:=hz _ ha p.e (List.mem_map.2 ⟨p,hp,rfl⟩)
 show 0 < p.acts.length
 have hf' : txnF p.i p.s p.q p.acts=0:=hf
 rcases Nat.eq_zero_or_pos p.acts.length with h0 | h0
 ·exfalso
  have:p.acts=[]:=List.eq_nil_of_length_eq_zero h0
  rw [this] at hf'
  exact txnF_nil _ _ _ hf'
 ·exact h0

end Go.Proofs.YtnnenkoeklabpaaGreatDoor
namespace Go.Proofs.YtnnenkoeklabpaaGreatDoor
open Go.RowKit
set_option maxRecDepth 100000
/-- The worlds of which p is so. -/
structure KeepP (p:World→Prop) where
 val:World
 isP:p val

section
variable {P:Program} {ops:Array Oper} {Q:Exit→Act→World→Prop} {S:World→Prop} {st:Nat}
/-- Whatever order is picked from here on, and behind every operation S holds, or st has come up. -/
def wpAnyX (P:Program) (ops:Array Oper) (Q:Exit→Act→World→Prop) (S:World→Prop) (st:Nat):Nat→Array Bool→Act→World→Prop
 | 0,listed,a,w=>Region.ready .any ops listed=[]∧Q .normal a w
 | fuel + 1,listed,a,w=>
  (Region.ready .any ops listed=[]→Q .normal a w) ∧
  ∀ i∈Region.ready .any ops listed,wpOp P ops Q i (fun a' w' => ((listed.setIfInBounds i true).getD st true=true∨S w')∧wpAnyX P ops Q S st fuel (listed.setIfInBounds i true) a' w') a w

theorem wpAny_of_X:∀ (fuel:Nat) (listed:Array Bool) (a:Act) (w:World),wpAnyX P ops Q S st fuel listed a w→wpAny P .any ops Q fuel listed a w
 | 0,_,_,_,h=>h
 | fuel + 1,_,_,_,h=>⟨h.1,fun i hi=>wpOp_mono (fun a' w' h' => wpAny_of_X fuel _ a' w' h'.2) (h.2 i hi)⟩

/-- As OrdersHeld's 'wpAnyH_first': besides, st has not come up and waits for i. -/
theorem wpAnyX_first {i:Nat} {oi:Oper} {v:Value} (hi:ops[i]? = some oi) (hsel:∀ (j:Nat) (o:Oper) cs b,ops[j]? = some o→o.op≠.select cs b)
  (hQ:∀ c a w,Q (.panic c) (a.put oi.dst v) w→Q (.panic c) a w) (hist:i≠st) (hst:∀ o,ops[st]? = some o→∃ e∈o.after,Region.binds .any e=true∧e.on=i) :
  ∀ (fuel:Nat) (listed:Array Bool) (a:Act) (w:World),
   (∀ j oj,ops[j]? = some oj→j≠i→listed.getD j true=false→(∀ e∈oj.after,Region.binds .any e=true→e.on≠i)→oi.apart ops oj=true) →
   i∈Region.ready .any ops listed→YieldsIf P ops S oi v a→S w→listed.getD st true=false →
   wpAnyX P ops Q S st fuel (listed.setIfInBounds i true) (a.put oi.dst v) w→wpAnyX P ops Q S st (fuel + 1) listed a w:=by
 intro fuel
 induction fuel with
 | zero=>
  intro listed a w _ hr hy hS hl H
  refine ⟨fun h=>(by rw [h] at hr;cases hr),fun j hj=>?_⟩
  by_cases hji:j=i
  ·subst hji;exact hy.wpOp hi hS ⟨Or.inr hS,H⟩
  ·have:=ready_mono hj hji
   rw [H.1] at this
   cases this
 | succ fuel ih=>
  intro listed a w hfree hr hy hS hl H
  refine ⟨fun h=>(by rw [h] at hr;cases hr),fun j hj=>?_⟩
  by_cases hji:j=i
  ·subst hji;exact hy.wpOp hi hS ⟨Or.inr hS,H⟩
  ·have h1:=H.2 j (ready_mono hj hji)
   obtain ⟨hjun,oj,hoj,hall⟩:=mem_ready.1 hj
   have hnot:∀ e∈oj.after,Region.binds .any e=true→e.on≠i:=fun e he hb heq=>by
    have h1:=hall e he hb
    have h0:=(mem_ready.1 hr).1
    rw [heq] at h1
    rcases Nat.lt_or_ge i listed.size with h' | h'
    ·simp [h'] at h0 h1;rw [h0] at h1;cases h1
    ·simp [Array.getElem?_eq_none h'] at h1
   have hjst:j≠st:=by
    intro e
    subst e
    obtain ⟨e,he,hb,hon⟩:=hst oj hoj
    exact hnot e he hb hon
   have h2:=wpOp_putIf hoj (hfree j oj hoj hji hjun hnot) (fun cs b=>hsel i oi cs b hi) (fun cs b=>hsel j oj cs b hoj) hQ hy h1
   have hfree' : ∀ k ok,ops[k]? = some ok→k≠i→(listed.setIfInBounds j true).getD k true=false →
     (∀ e∈ok.after,Region.binds .any e=true→e.on≠i)→oi.apart ops ok=true:=fun k ok hk hki hun hno=>by
    refine hfree k ok hk hki ?_ hno
    by_cases hjk:j=k
    ·subst hjk;exact hjun
    ·rw [getD_set_ne true hjk] at hun;exact hun
   have hl' : (listed.setIfInBounds j true).getD st true=false:=by rw [getD_set_ne true hjst];exact hl
   refine wpOp_mono (fun a' w' h3=>?_) h2
   have hS' : S w' := by
    rcases h3.2.1 with h4 | h4
    ·rw [getD_set_ne true hjst,getD_set_ne true hist,hl] at h4
     cases h4
    ·exact h4
   refine ⟨Or.inr hS',ih (listed.setIfInBounds j true) a' w' hfree' (ready_mono hr (Ne.symm hji)) h3.1 hS' hl' ?_⟩
   rw [Array.setIfInBounds_comm _ _ hji]
   exact h3.2.2

/-- A post whose word on a panic does not look at the temporaries. -/
def PanTo (Q:Exit→Act→World→Prop) (R:List PanicEntry→World→Prop):Exit→Act→World→Prop
 | .panic c,a,w=>a.defers=[]∧R c w
 | e,a,w=>Q e a w

theorem put_defers_eq (a:Act) (d:Option Tmp) (v:Value):(a.put d v).defers=a.defers:=by cases d <;> rfl

theorem PanTo.put {R:List PanicEntry→World→Prop}:∀ c (a:Act) (d:Option Tmp) (v:Value) w,PanTo Q R (.panic c) (a.put d v) w→PanTo Q R (.panic c) a w:=fun c a d v w h=>⟨(put_defers_eq a d v) ▸ h.1,h.2⟩

variable {R:List PanicEntry→World→Prop}
theorem PanTo.imp (hR:∀ c a w,a.defers=[]→R c w→Q (.panic c) a w):∀ (e:Exit) (a:Act) (w:World),PanTo Q R e a w→Q e a w:=fun e a w h=>by
 cases e <;> first | exact h | exact hR _ _ _ h.1 h.2

theorem beginX {id:Nat} {a:Act} {w:World} (st:Nat) (hm:P.follows .mixedOrders=true) (hR:∀ c a w,a.defers=[]→R c w→Q (.panic c) a w)
  (h:wpAnyX P ops (PanTo Q R) S st ops.size (Array.replicate ops.size false) a w.drew):(Code.region id ops true).wp P Q a w:=
 Code.wp_mono (PanTo.imp hR) (wp_region_any hm (wpAny_of_X _ _ _ _ h))

def waitsB (ops:Array Oper) (st i:Nat):Bool:=match ops[st]? with
 | some o=>o.after.any (fun e=>Region.binds .any e && e.on == i)
 | none=>true

theorem waits_of {i:Nat} (h:waitsB ops st i=true):∀ o,ops[st]? = some o→∃ e∈o.after,Region.binds .any e=true∧e.on=i:=by
 intro o ho
 unfold waitsB at h
 rw [ho] at h
 obtain ⟨k,hk,_,_,hb⟩:=Array.any_iff_exists.1 h
 simp only [Bool.and_eq_true,beq_iff_eq] at hb
 exact ⟨o.after[k],Array.getElem_mem hk,hb⟩

def okSegX (ops:Array Oper) (st:Nat):List Nat→Array Bool→Bool
 | [],_=>true
 | i :: r,l=>Region.free .any ops l i && (Region.ready .any ops l).contains i && (i != st) && waitsB ops st i && !(l.getD st true) && okSegX ops st r (l.setIfInBounds i true)

theorem segX_sound (hs:Region.noSelect ops=true) :
  ∀ (idx:List Nat) (os:List Oper) (l:Array Bool) (a:Act) (w:World) (fuel:Nat),idx.map (ops[·]?)=os.map some→os.all (fun o=>plainB o.op)=true→okSegX ops st idx l=true→S w →
   wpQuiet P ops S (fun a' => wpAnyX P ops (PanTo Q R) S st fuel (upTo idx l) a' w) os a→wpAnyX P ops (PanTo Q R) S st (fuel + idx.length) l a w:=by
 intro idx
 induction idx with
 | nil=>
  intro os l a w fuel hos _ _ _ h
  cases os with
  | nil=>exact h
  | cons o os=>simp at hos
 | cons i r ih=>
  intro os l a w fuel hos hpl hok hS h
  cases os with
  | nil=>simp at hos
  | cons o os=>
   simp only [List.map_cons,List.cons.injEq] at hos
   simp only [List.all_cons,Bool.and_eq_true] at hpl
   simp only [okSegX,Bool.and_eq_true,bne_iff_ne,ne_eq,Bool.not_eq_true'] at hok
   obtain ⟨⟨⟨⟨⟨hf,hr⟩,hne⟩,hwt⟩,hl⟩,hok'⟩:=hok
   simp only [wpQuiet] at h
   by_cases hw:Region.wanted o (yielded ops a.tmps)=true
   ·rw [if_pos hw] at h
    obtain ⟨v,hv,hk⟩:=h
    refine wpAnyX_first (i:=i) (oi:=o) (v:=v) hos.1 (Region.noSelect_spec hs) (fun c a w h=>PanTo.put c a _ _ w h) hne (waits_of hwt) _ l a w (Region.free_spec hos.1 hf) (by simpa using hr) (Or.inl ⟨hw,fun u hu=>?_⟩) hS hl (ih os _ _ w fuel hos.2 hpl.2 hok' hS hk)
    have hq:=hv u hu
    unfold Oper.quietAt at hq
    cases hrun:(execOp a.eval o).run P u with
    | ok n u' =>
     obtain ⟨x,rfl⟩:=plain_value hpl.1 hrun
     rw [hrun] at hq
     obtain ⟨e1,e2⟩:=hq
     rw [e1,e2]
    | halt x u' =>
     rw [hrun] at hq
     exact hq.elim
   ·rw [if_neg hw] at h
    have hw' : Region.wanted o (yielded ops a.tmps)=false:=by simpa using hw
    exact wpAnyX_first (i:=i) (oi:=o) (v:=undef) hos.1 (Region.noSelect_spec hs) (fun c a w h=>PanTo.put c a _ _ w h) hne (waits_of hwt) _ l a w (Region.free_spec hos.1 hf) (by simpa using hr) (Or.inr ⟨hw',rfl⟩) hS hl (ih os _ _ w fuel hos.2 hpl.2 hok' hS h)

theorem segX (rs:List (Nat × Nat)) (fuel:Nat) {F:Nat} {l:Array Bool} {a:Act} {w:World} (hF:F=fuel + (idxR rs).length) (hs:Region.noSelect ops=true) (hm:(idxR rs).map (ops[·]?)=(pickR ops.toList rs).map some)
  (hp:(pickR ops.toList rs).all (fun o=>plainB o.op)=true) (hok:okSegX ops st (idxR rs) l=true) (hS:S w)
  (h:wpQuiet P ops S (fun a' => wpAnyX P ops (PanTo Q R) S st fuel (upTo (idxR rs) l) a' w) (pickR ops.toList rs) a):wpAnyX P ops (PanTo Q R) S st F l a w:=by
 subst hF
 exact segX_sound hs (idxR rs) _ l a w fuel hm hp hok hS h

/-- A call that alone may come up: it returns, or it panics. -/
theorem callX (i:Nat) (d:Option Tmp) (f:Nat) (args:Array Value) (fuel:Nat) {F:Nat} {l:Array Bool} {a:Act} {w:World} (hF:F=fuel + 1)
  (hd:(ops[i]?).map (·.dst)=some d) (hr:Region.ready .any ops l=[i]) (hw:(ops[i]?).map (fun o=>Region.wanted o (yielded ops a.tmps))=some true)
  (hrun:(ops[i]?).map (fun o=>(execOp a.eval o).run P w)=some (.ok (.enter f args) w))
  (hdf:a.defers=[]) (hc:Calls P f args w (fun e w' => (∃ v,e=.returned v∧S w' ∧ wpAnyX P ops (PanTo Q R) S st fuel (upTo [i] l) (a.put d v) w')∨∃ c,e=.panicked c∧R c w')):wpAnyX P ops (PanTo Q R) S st F l a w:=by
 subst hF
 cases ho:ops[i]? with
 | none=>rw [ho] at hd;simp at hd
 | some o=>
  rw [ho] at hd hw hrun
  simp only [Option.map_some,Option.some.injEq] at hd hw hrun
  subst hd
  refine ⟨fun h0=>(by rw [hr] at h0;cases h0),fun j hj=>?_⟩
  rw [hr] at hj
  simp only [List.mem_singleton] at hj
  subst hj
  unfold wpOp
  simp only [ho,hw,if_true]
  refine .inl ?_
  unfold Oper.wp
  rw [hrun]
  simp only [Oper.upon]
  refine hc.mono fun e w' he=>?_
  rcases he with ⟨v,rfl,h1,h2⟩ | ⟨c,rfl,h1⟩
  ·exact ⟨Or.inr h1,h2⟩
  ·exact ⟨hdf,h1⟩

def ThenX (Q:Exit→Act→World→Prop) (R:List PanicEntry→World→Prop) (K:Act→World→Prop):Exit→Act→World→Prop
 | .normal,a,w=>K a w
 | e,a,w=>PanTo Q R e a w

theorem ThenX.to {K:Act→World→Prop} {a:Act} {w:World} (h:K a w):ThenX Q R K .normal a w:=h

theorem oneX (i:Nat) (o:Oper) (fuel:Nat) {F:Nat} {l:Array Bool} {a:Act} {w:World} (hF:F=fuel + 1) (ho:ops[i]? = some o) (hr:Region.ready .any ops l=[i])
  (h:wpList P ops (ThenX Q R (fun a' w' => ((upTo [i] l).getD st true=true∨S w')∧wpAnyX P ops (PanTo Q R) S st fuel (upTo [i] l) a' w')) [o] a w):wpAnyX P ops (PanTo Q R) S st F l a w:=by
 subst hF
 refine ⟨fun h0=>(by rw [hr] at h0;cases h0),fun j hj=>?_⟩
 rw [hr] at hj
 simp only [List.mem_singleton] at hj
 subst hj
 unfold wpOp
 simp only [ho]
 simp only [wpList] at h
 split at h
 ·rename_i hw
  rw [if_pos hw]
  rcases h with h | ⟨h1,h2⟩
  ·left
   unfold Oper.wp at h ⊢
   revert h
   generalize (execOp a.eval o).run P w=r
   intro h
   unfold Oper.upon at h ⊢
   split at h
   ·exact h
   ·exact h
   ·exact h
   ·refine Calls.mono h fun e w' he=>?_
    cases e <;> exact he
   ·exact h
   ·exact h
   ·exact h
  ·exact Or.inr ⟨h1,h2⟩
 ·rename_i hw
  rw [if_neg hw]
  exact h

theorem endX {F:Nat} {l:Array Bool} {a:Act} {w:World} (hr:Region.ready .any ops l=[]) (h:Q .normal a w):wpAnyX P ops (PanTo Q R) S st F l a w:=by
 cases F with
 | zero=>exact ⟨hr,h⟩
 | succ F=>exact ⟨fun _=>h,by rw [hr];simp⟩

theorem sgX (rs:List (Nat × Nat)) (fuel:Nat) {F:Nat} {l:Array Bool} {a:Act} {w:World} (h5:(F,Region.noSelect ops,(idxR rs).map (ops[·]?),(pickR ops.toList rs).all (fun o=>plainB o.op),okSegX ops st (idxR rs) l)=(fuel + (idxR rs).length,true,(pickR ops.toList rs).map some,true,true)) (hS:S w)
  (h:wpQuiet P ops S (fun a' => wpAnyX P ops (PanTo Q R) S st fuel (upTo (idxR rs) l) a' w) (pickR ops.toList rs) a):wpAnyX P ops (PanTo Q R) S st F l a w:=by
 simp only [Prod.mk.injEq] at h5
 exact segX rs fuel h5.1 h5.2.1 h5.2.2.1 h5.2.2.2.1 h5.2.2.2.2 hS h

theorem clX (i:Nat) (d:Option Tmp) (f:Nat) (args:Array Value) (fuel:Nat) {F:Nat} {l:Array Bool} {a:Act} {w:World} (h5:(F,(ops[i]?).map (·.dst),Region.ready .any ops l,(ops[i]?).map (fun o=>Region.wanted o (yielded ops a.tmps)),(ops[i]?).map (fun o=>(execOp a.eval o).run P w))=(fuel + 1,some d,[i],some true,some (.ok (.enter f args) w)))
  (hdf:a.defers=[]) (hc:Calls P f args w (fun e w' => (∃ v,e=.returned v∧S w' ∧ wpAnyX P ops (PanTo Q R) S st fuel (upTo [i] l) (a.put d v) w')∨∃ c,e=.panicked c∧R c w')):wpAnyX P ops (PanTo Q R) S st F l a w:=by
 simp only [Prod.mk.injEq] at h5
 exact callX i d f args fuel h5.1 h5.2.1 h5.2.2.1 h5.2.2.2.1 h5.2.2.2.2 hdf hc

theorem onX (i:Nat) {o:Oper} (fuel:Nat) {F:Nat} {l:Array Bool} {a:Act} {w:World} (ho:ops[i]? = some o) (h2:(F,Region.ready .any ops l)=(fuel + 1,[i]))
  (h:wpList P ops (ThenX Q R (fun a' w' => ((upTo [i] l).getD st true=true∨S w')∧wpAnyX P ops (PanTo Q R) S st fuel (upTo [i] l) a' w')) [o] a w):wpAnyX P ops (PanTo Q R) S st F l a w:=by
 simp only [Prod.mk.injEq] at h2
 exact oneX i o fuel h2.1 ho h2.2 h

end
end Go.Proofs.YtnnenkoeklabpaaGreatDoor
namespace Go.Proofs.YtnnenkoeklabpaaGreatDoor
open Go.RowKit
open Go.BigFrame
set_option maxRecDepth 100000
set_option maxHeartbeats 8000000 in
theorem l6Copy_any (p:InstQ) (w:World) (h:instK.rd w p) (hl:p.n≤1048576) (hne:∀ t∈p.batch,0 < t.acts.length) (hro:∀ r∈p.rounds,0 < r.rep.length∧0 < r.pro.length) (hd0:0 < p.dec.length) :
  Calls Tryz.prog 75 #[.agg #[.bool p.has,p.vb,p.vr,p.vd]] w fun e w' => ∃ q:InstQ,e=.returned (.agg #[.bool q.has,q.vb,q.vr,q.vd])∧q.e=p.e∧instK.own w' q∧(instK.foot q).Nodup∧(∀ k∈instK.foot q,w.heap.size≤k)∧Below w.heap.size w w' := by
 obtain ⟨has,vb,batch,vr,rounds,vd,dec⟩:=p
 obtain ⟨h1,h2,h3⟩:txnK.At w vb batch∧roundK.At w vr rounds∧intK.At w vd dec:=h
 obtain ⟨ba,bk,rfl⟩:=h1.shape
 obtain ⟨va,vk,rfl⟩:=h2.shape
 obtain ⟨da,dk,rfl⟩:=h3.shape
 dsimp only [InstQ.n] at hl hne hro hd0
 have hc1:=fun w (hT:txnK.At w (.slice ba batch.length bk) batch)=>l2CopyAll_any _ batch w hT hne (by omega)
 have hc3:=fun w (hT:intK.At w (.slice da dec.length dk) dec)=>l1Ints_any _ dec w hT hd0 (by omega)
 have hB:Below w.heap.size w ((w.alloc (.cells #[.bool has,.slice ba batch.length bk,.slice va rounds.length vk,.slice da dec.length dk] 28)).alloc (.cells #[.bool false,.slice none 0 0,.slice none 0 0,.slice none 0 0] 28)):=by go_grown
 have Bx:=Blk.new w 28 #[.bool has,.slice ba batch.length bk,.slice va rounds.length vk,.slice da dec.length dk]
 have hbb:Below (w.alloc (.cells #[.bool has,.slice ba batch.length bk,.slice va rounds.length vk,.slice da dec.length dk] 28)).heap.size (w.alloc (.cells #[.bool has,.slice ba batch.length bk,.slice va rounds.length vk,.slice da dec.length dk] 28)) ((w.alloc (.cells #[.bool has,.slice ba batch.length bk,.slice va rounds.length vk,.slice da dec.length dk] 28)).alloc (.cells #[.bool false,.slice none 0 0,.slice none 0 0,.slice none 0 0] 28)):=by go_grown
 have Rb:=Blk.new (w.alloc (.cells #[.bool has,.slice ba batch.length bk,.slice va rounds.length vk,.slice da dec.length dk] 28)) 28 #[.bool false,.slice none 0 0,.slice none 0 0,.slice none 0 0]
 rw [World.size_alloc] at Rb
 replace Bx:=Bx.below hbb
 clear hbb
 have hws:w.heap.size + 2≤((w.alloc (.cells #[.bool has,.slice ba batch.length bk,.slice va rounds.length vk,.slice da dec.length dk] 28)).alloc (.cells #[.bool false,.slice none 0 0,.slice none 0 0,.slice none 0 0] 28)).heap.size:=by simp
 go_enter Tryz.func75,Tryz.ntmps75
 go_wp2_with fail
 generalize ((w.alloc (.cells #[.bool has,.slice ba batch.length bk,.slice va rounds.length vk,.slice da dec.length dk] 28)).alloc (.cells #[.bool false,.slice none 0 0,.slice none 0 0,.slice none 0 0] 28))=W at *
 refine region_vals [some 5,some 6,some 7,some 8,some 9,some 10,some 11,some 12,some 13,some 3] (fun vs w' => ∃ (s1:Option Addr) (t1:Nat) (q1:List TxnQ) (a3:Option Addr) (c3 g:Nat),vs=[.pointer (some ⟨w.heap.size,0,none⟩),.bool has,.pointer (some ⟨w.heap.size,1,none⟩),.slice ba batch.length bk,.slice s1 q1.length t1,.pointer (some ⟨w.heap.size,3,none⟩),.slice da dec.length dk,.slice a3 dec.length c3,.agg #[.bool has,.slice s1 q1.length t1,.slice none 0 0,.slice a3 dec.length c3],.pointer (some ⟨g,0,none⟩)]∧W.heap.size≤g∧Blk w' g 28 #[.bool has,.slice s1 q1.length t1,.slice none 0 0,.slice a3 dec.length c3]∧q1.map TxnQ.e=batch.map TxnQ.e∧txnK.Own w' (.slice s1 q1.length t1) q1∧(txnK.fp (.slice s1 q1.length t1) q1).Nodup∧(∀ k∈txnK.fp (.slice s1 q1.length t1) q1,W.heap.size≤k)∧(∀ k∈txnK.fp (.slice s1 q1.length t1) q1,k≠g)∧intK.Own w' (.slice a3 dec.length c3) dec∧(∀ k∈intK.fp (.slice a3 dec.length c3) dec,W.heap.size≤k)∧(∀ k∈intK.fp (.slice a3 dec.length c3) dec,k≠g)∧(∀ x∈txnK.fp (.slice s1 q1.length t1) q1,∀ y∈intK.fp (.slice a3 dec.length c3) dec,x≠y)∧Below W.heap.size W w') ?_ ?_
 ·have hW:Below W.heap.size W W.drew:=(Below.refl _ _).drew
  have hnn:Nonempty (Lat W):=⟨⟨W,Below.refl _ _⟩⟩
  obtain ⟨p0,p1⟩:=Bx.lts2
  have p3:=Bx.lat 3 _ rfl
  refine text_begin (S:=fun w' => ∃ u:Lat W,w' = u.val) (by kernel_rfl) ?_
  refine sgr [(0,4),(5,2)] 5 (by kernel_rfl) ⟨⟨_,hW⟩,rfl⟩ ?_
  simp only [pkE]
  repeat go_big_quiet_step (fail)
  refine wpQuiet_nil ?_
  clear p0 p1 p3
  generalize W.drew=wd at hW ⊢
  refine twa 4 9 4 (by kernel_rfl) ?_ ?_
  ·skip
   refine opc 4 (some 9) 76 #[.slice ba batch.length bk] (by kernel_rfl) ?_
   refine (hc1 _ (h1.below (hB.trans (hW.mono hB.size)))).mono ?_
   rintro e x0 ⟨v1,q1,rfl,e1,o1,n1,g1,hb⟩
   obtain ⟨s1,t1,rfl⟩:=o1.shape
   have L1:∀ k∈txnK.fp (.slice s1 q1.length t1) q1,W.heap.size≤k:=fun k hk=>by have:=g1 k hk;have:=hW.size;omega
   clear g1
   replace hW:=hW.trans (hb.mono hW.size)
   clear hb
   refine ⟨_,rfl,⟨⟨_,hW⟩,rfl⟩,?_⟩
   simp only [Act.put,pgE,pjE]
   refine twa 7 9 3 (by kernel_rfl) ?_ ?_
   ·skip
    refine opc 7 (some 12) 90 #[.slice da dec.length dk] (by kernel_rfl) ?_
    refine (hc3 _ (h3.below (hB.trans (hW.mono hB.size)))).mono ?_
    rintro e x1 ⟨a3,c3,rfl,o3,g3,hb⟩
    have L3:∀ k∈intK.fp (.slice a3 dec.length c3) dec,W.heap.size≤k:=fun k hk=>by have:=g3 k hk;have:=hW.size;omega
    have D13:∀ x∈txnK.fp (.slice s1 q1.length t1) q1,∀ y∈intK.fp (.slice a3 dec.length c3) dec,x≠y:=fun x hx y hy e=>by have:=o1.lt x hx;have:=g3 y hy;omega
    replace o1:=o1.below hb
    clear g3
    replace hW:=hW.trans (hb.mono hW.size)
    clear hb
    refine ⟨_,rfl,⟨⟨_,hW⟩,rfl⟩,?_⟩
    simp only [Act.put,pgE,pjE]
    refine qta 8 (some 13) (.agg #[.bool has,.slice s1 q1.length t1,.slice none 0 0,.slice a3 dec.length c3]) 2 (by kernel_rfl) (fun u _=>by kernel_rfl) ⟨⟨_,hW⟩,rfl⟩ ?_
    simp only [Act.put,pgE,pjE]
    refine ona 9 1 rfl (by kernel_rfl) ?_
    have Bz:=Blk.new x1 28 #[.bool false,.slice none 0 0,.slice none 0 0,.slice none 0 0]
    have hzz:W.heap.size≤x1.heap.size:=hW.size
    have N1:∀ k∈txnK.fp (.slice s1 q1.length t1) q1,k≠x1.heap.size:=fun k hk e=>by have:=o1.lt k hk;omega
    have N3:∀ k∈intK.fp (.slice a3 dec.length c3) dec,k≠x1.heap.size:=fun k hk e=>by have:=o3.lt k hk;omega
    have hba:Below x1.heap.size x1 (x1.alloc (.cells #[.bool false,.slice none 0 0,.slice none 0 0,.slice none 0 0] 28)):=by go_grown
    replace o1:=o1.below hba
    replace o3:=o3.below hba
    replace hW:=hW.trans (hba.mono hW.size)
    clear hba
    go_wp2
    refine ThenGo.to ⟨⟨⟨_,hW⟩,rfl⟩,?_⟩
    generalize hG2:x1.heap.size=g at *
    clear hG2
    generalize x1.alloc (.cells #[.bool false,.slice none 0 0,.slice none 0 0,.slice none 0 0] 28)=Y2 at *
    refine ona 10 0 rfl (by kernel_rfl) ?_
    have hou:=out_row Y2 g #[.bool has,.slice s1 q1.length t1,.slice none 0 0,.slice a3 dec.length c3]
    have hgW:W.heap.size≤g:=by omega
    have Rz:=Bz.row #[.bool has,.slice s1 q1.length t1,.slice none 0 0,.slice a3 dec.length c3]
    replace hW:=below_row hW hgW #[.bool has,.slice s1 q1.length t1,.slice none 0 0,.slice a3 dec.length c3]
    replace o1:=o1.out hou (fun k hk=>by simp only [List.mem_singleton];exact N1 k hk)
    replace o3:=o3.out hou (fun k hk=>by simp only [List.mem_singleton];exact N3 k hk)
    refine st_row (by kernel_rfl) 28 _ _ rfl _ #[.bool has,.slice s1 q1.length t1,.slice none 0 0,.slice a3 dec.length c3] rfl rfl 28 _ Bz sz_inst rfl (by simp [Value.oneCell']) ?_
    refine ThenGo.to ⟨⟨⟨_,hW⟩,rfl⟩,?_⟩
    refine text_end (by kernel_rfl) ?_
    refine ⟨rfl,_,⟨s1,t1,q1,a3,c3,g,rfl,hgW,Rz,e1,o1,n1,L1,N1,o3,L3,N3,D13,hW⟩,?_⟩
    simp only [putAll,Act.put,pgE,pjE]
    try rfl
   ·skip
    refine op_one 9 _ rfl ?_
    have Bz:=Blk.new x0 28 #[.bool false,.slice none 0 0,.slice none 0 0,.slice none 0 0]
    have hzz:W.heap.size≤x0.heap.size:=hW.size
    have N1:∀ k∈txnK.fp (.slice s1 q1.length t1) q1,k≠x0.heap.size:=fun k hk e=>by have:=o1.lt k hk;omega
    have hba:Below x0.heap.size x0 (x0.alloc (.cells #[.bool false,.slice none 0 0,.slice none 0 0,.slice none 0 0] 28)):=by go_grown
    replace o1:=o1.below hba
    replace hW:=hW.trans (hba.mono hW.size)
    clear hba
    go_wp2
    refine ThenGo.to ⟨⟨⟨_,hW⟩,rfl⟩,?_⟩
    generalize hG1:x0.heap.size=g at *
    clear hG1
    generalize x0.alloc (.cells #[.bool false,.slice none 0 0,.slice none 0 0,.slice none 0 0] 28)=Y1 at *
    refine cla 7 (some 12) 90 #[.slice da dec.length dk] 2 (by kernel_rfl) ?_
    refine (hc3 _ (h3.below (hB.trans (hW.mono hB.size)))).mono ?_
    rintro e x2 ⟨a3,c3,rfl,o3,g3,hb⟩
    have L3:∀ k∈intK.fp (.slice a3 dec.length c3) dec,W.heap.size≤k:=fun k hk=>by have:=g3 k hk;have:=hW.size;omega
    have D13:∀ x∈txnK.fp (.slice s1 q1.length t1) q1,∀ y∈intK.fp (.slice a3 dec.length c3) dec,x≠y:=fun x hx y hy e=>by have:=o1.lt x hx;have:=g3 y hy;omega
    have N3:∀ k∈intK.fp (.slice a3 dec.length c3) dec,k≠g:=fun k hk e=>by have:=g3 k hk;have:=Bz.lt;omega
    replace Bz:=Bz.below hb
    replace o1:=o1.below hb
    clear g3
    replace hW:=hW.trans (hb.mono hW.size)
    clear hb
    refine ⟨_,rfl,⟨⟨_,hW⟩,rfl⟩,?_⟩
    simp only [Act.put,pgE,pjE]
    refine qta 8 (some 13) (.agg #[.bool has,.slice s1 q1.length t1,.slice none 0 0,.slice a3 dec.length c3]) 1 (by kernel_rfl) (fun u _=>by kernel_rfl) ⟨⟨_,hW⟩,rfl⟩ ?_
    simp only [Act.put,pgE,pjE]
    refine ona 10 0 rfl (by kernel_rfl) ?_
    have hou:=out_row x2 g #[.bool has,.slice s1 q1.length t1,.slice none 0 0,.slice a3 dec.length c3]
    have hgW:W.heap.size≤g:=by omega
    have Rz:=Bz.row #[.bool has,.slice s1 q1.length t1,.slice none 0 0,.slice a3 dec.length c3]
    replace hW:=below_row hW hgW #[.bool has,.slice s1 q1.length t1,.slice none 0 0,.slice a3 dec.length c3]
    replace o1:=o1.out hou (fun k hk=>by simp only [List.mem_singleton];exact N1 k hk)
    replace o3:=o3.out hou (fun k hk=>by simp only [List.mem_singleton];exact N3 k hk)
    refine st_row (by kernel_rfl) 28 _ _ rfl _ #[.bool has,.slice s1 q1.length t1,.slice none 0 0,.slice a3 dec.length c3] rfl rfl 28 _ Bz sz_inst rfl (by simp [Value.oneCell']) ?_
    refine ThenGo.to ⟨⟨⟨_,hW⟩,rfl⟩,?_⟩
    refine text_end (by kernel_rfl) ?_
    refine ⟨rfl,_,⟨s1,t1,q1,a3,c3,g,rfl,hgW,Rz,e1,o1,n1,L1,N1,o3,L3,N3,D13,hW⟩,?_⟩
    simp only [putAll,Act.put,pgE,pjE]
    try rfl
  ·skip
   refine op_one 9 _ rfl ?_
   have Bz:=Blk.new wd 28 #[.bool false,.slice none 0 0,.slice none 0 0,.slice none 0 0]
   have hzz:W.heap.size≤wd.heap.size:=hW.size
   have hba:Below wd.heap.size wd (wd.alloc (.cells #[.bool false,.slice none 0 0,.slice none 0 0,.slice none 0 0] 28)):=by go_grown
   replace hW:=hW.trans (hba.mono hW.size)
   clear hba
   go_wp2
   refine ThenGo.to ⟨⟨⟨_,hW⟩,rfl⟩,?_⟩
   generalize hG0:wd.heap.size=g at *
   clear hG0
   generalize wd.alloc (.cells #[.bool false,.slice none 0 0,.slice none 0 0,.slice none 0 0] 28)=Y0 at *
   refine cla 4 (some 9) 76 #[.slice ba batch.length bk] 3 (by kernel_rfl) ?_
   refine (hc1 _ (h1.below (hB.trans (hW.mono hB.size)))).mono ?_
   rintro e x1 ⟨v1,q1,rfl,e1,o1,n1,g1,hb⟩
   obtain ⟨s1,t1,rfl⟩:=o1.shape
   have L1:∀ k∈txnK.fp (.slice s1 q1.length t1) q1,W.heap.size≤k:=fun k hk=>by have:=g1 k hk;have:=hW.size;omega
   have N1:∀ k∈txnK.fp (.slice s1 q1.length t1) q1,k≠g:=fun k hk e=>by have:=g1 k hk;have:=Bz.lt;omega
   replace Bz:=Bz.below hb
   clear g1
   replace hW:=hW.trans (hb.mono hW.size)
   clear hb
   refine ⟨_,rfl,⟨⟨_,hW⟩,rfl⟩,?_⟩
   simp only [Act.put,pgE,pjE]
   refine cla 7 (some 12) 90 #[.slice da dec.length dk] 2 (by kernel_rfl) ?_
   refine (hc3 _ (h3.below (hB.trans (hW.mono hB.size)))).mono ?_
   rintro e x2 ⟨a3,c3,rfl,o3,g3,hb⟩
   have L3:∀ k∈intK.fp (.slice a3 dec.length c3) dec,W.heap.size≤k:=fun k hk=>by have:=g3 k hk;have:=hW.size;omega
   have D13:∀ x∈txnK.fp (.slice s1 q1.length t1) q1,∀ y∈intK.fp (.slice a3 dec.length c3) dec,x≠y:=fun x hx y hy e=>by have:=o1.lt x hx;have:=g3 y hy;omega
   have N3:∀ k∈intK.fp (.slice a3 dec.length c3) dec,k≠g:=fun k hk e=>by have:=g3 k hk;have:=Bz.lt;omega
   replace Bz:=Bz.below hb
   replace o1:=o1.below hb
   clear g3
   replace hW:=hW.trans (hb.mono hW.size)
   clear hb
   refine ⟨_,rfl,⟨⟨_,hW⟩,rfl⟩,?_⟩
   simp only [Act.put,pgE,pjE]
   refine qta 8 (some 13) (.agg #[.bool has,.slice s1 q1.length t1,.slice none 0 0,.slice a3 dec.length c3]) 1 (by kernel_rfl) (fun u _=>by kernel_rfl) ⟨⟨_,hW⟩,rfl⟩ ?_
   simp only [Act.put,pgE,pjE]
   refine ona 10 0 rfl (by kernel_rfl) ?_
   have hou:=out_row x2 g #[.bool has,.slice s1 q1.length t1,.slice none 0 0,.slice a3 dec.length c3]
   have hgW:W.heap.size≤g:=by omega
   have Rz:=Bz.row #[.bool has,.slice s1 q1.length t1,.slice none 0 0,.slice a3 dec.length c3]
   replace hW:=below_row hW hgW #[.bool has,.slice s1 q1.length t1,.slice none 0 0,.slice a3 dec.length c3]
   replace o1:=o1.out hou (fun k hk=>by simp only [List.mem_singleton];exact N1 k hk)
   replace o3:=o3.out hou (fun k hk=>by simp only [List.mem_singleton];exact N3 k hk)
   refine st_row (by kernel_rfl) 28 _ _ rfl _ #[.bool has,.slice s1 q1.length t1,.slice none 0 0,.slice a3 dec.length c3] rfl rfl 28 _ Bz sz_inst rfl (by simp [Value.oneCell']) ?_
   refine ThenGo.to ⟨⟨⟨_,hW⟩,rfl⟩,?_⟩
   refine text_end (by kernel_rfl) ?_
   refine ⟨rfl,_,⟨s1,t1,q1,a3,c3,g,rfl,hgW,Rz,e1,o1,n1,L1,N1,o3,L3,N3,D13,hW⟩,?_⟩
   simp only [putAll,Act.put,pgE,pjE]
   try rfl
 rintro vs X ⟨s1,t1,q1,a3,c3,g,rfl,hg,Bg,e1,o1,n1,L1,N1,o3,L3,N3,D13,hX⟩
 simp only [putAll,Act.put,pjE]
 have hBX:Below w.heap.size w X:=hB.trans (hX.mono hB.size)
 have RbX:=Rb.below hX
 have BxX:=Bx.below hX
 have h2X:=h2
 have hgX:=Bg.lt
 have hXs:=hX.size
 obtain ⟨i0,hi,hz0,hz1,hz2⟩:=info_parts infoRound
 obtain ⟨hn1,hn2⟩:=Kind.own_nil (K:=roundK) X
 have HN0:Hid ((roundK.fp (.slice none 0 0) ([]:List RoundQ)).Nodup∧∀ k∈roundK.fp (.slice none 0 0) ([]:List RoundQ),X.heap.size≤k):=by
  rw [hn2]
  exact ⟨by simp,by simp⟩
 have HQ1:Hid (q1.map TxnQ.e=batch.map TxnQ.e∧txnK.Own X (.slice s1 q1.length t1) q1∧(txnK.fp (.slice s1 q1.length t1) q1).Nodup∧(∀ k∈txnK.fp (.slice s1 q1.length t1) q1,W.heap.size≤k)∧(∀ k∈txnK.fp (.slice s1 q1.length t1) q1,k≠g)∧intK.Own X (.slice a3 dec.length c3) dec∧(∀ k∈intK.fp (.slice a3 dec.length c3) dec,W.heap.size≤k)∧(∀ k∈intK.fp (.slice a3 dec.length c3) dec,k≠g)∧(∀ x∈txnK.fp (.slice s1 q1.length t1) q1,∀ y∈intK.fp (.slice a3 dec.length c3) dec,x≠y)):=⟨e1,o1,n1,L1,N1,o3,L3,N3,D13⟩
 clear hn2 hc1 hc3 Rb Bx hB hX e1 o1 n1 L1 N1 o3 L3 N3 D13 h1 h3
 go_wp2
 go_loopw [4] (fun j wr=>∃ (k:Nat) (v2:Value) (qs:List RoundQ),k≤rounds.length∧j=.int .i64 k∧Hid (qs.map RoundQ.e=(rounds.take k).map RoundQ.e)∧roundK.Own wr v2 qs∧Hid ((roundK.fp v2 qs).Nodup∧∀ k∈roundK.fp v2 qs,X.heap.size≤k)∧Hid (Blk wr g 28 #[.bool has,.slice s1 q1.length t1,v2,.slice a3 dec.length c3])∧Hid (Out [g] X wr)) (fun j _=>rounds.length - (intOf j).toNat)
 case atStart=>exact ⟨0,.slice none 0 0,[],Nat.zero_le _,rfl,(rfl:_=_),hn1,HN0,Bg,Out.refl _ _⟩
 case round=>
  clear HN0 hn1 Bg
  obtain ⟨k,v2,qs,hk,rfl,HE,hO,HN,HBg,HO⟩:=hrel
  obtain ⟨sa,sc,rfl⟩:=hO.shape
  have hBr:Below w.heap.size w wr:=Out.keep hBX HO.out hBX.size (fun x hx=>by simp only [List.mem_singleton] at hx;omega)
  have hXr:=HO.out.size
  have Bxr:Blk wr w.heap.size 28 #[.bool has,.slice ba batch.length bk,.slice va rounds.length vk,.slice da dec.length dk]:=(HO.out.block _ BxX.lt (by simp only [List.mem_singleton];omega)).trans BxX
  have HLO:Hid (∀ x∈blk (.slice sa qs.length sc),X.heap.size≤x):=fun x hx=>HN.out.2 x (by simp only [Kind.fp,List.mem_append];exact Or.inl hx)
  have b2:=Bxr.cell 2 _ rfl
  by_cases hlt:k < rounds.length
  ·obtain ⟨rb,ro,rfl,hbs,hc,hrd⟩:=(h2.below hBr).cell (by decide) k hlt
   have hrbw:rb < w.heap.size:=by
    obtain ⟨rb',ro',e',hbs',_,_⟩:=h2.cell (by decide) k hlt
    simp only [Option.some.injEq,Addr.mk.injEq,and_true] at e'
    omega
   have hc' : ∀ j x,(roundK.cells rounds[k])[j]? = some x→wr.cell? ⟨rb,ro + k * 2 + j,none⟩=some x:=hc
   have f0:=hc' 0 (rounds[k].vr) rfl
   have f1:=hc' 1 (rounds[k].vp) rfl
   have n1:=nm_le RoundQ.n rounds k hlt
   have hpos:=hro _ (List.getElem_mem hlt)
   have HQL:Hid (qs.length≤1048576):=by
    have:=congrArg List.length HE.out
    rw [List.length_map,List.length_map,List.length_take] at this
    show qs.length≤1048576
    omega
   have HPE:Hid (∀ p' : RoundQ,p'.e=RoundQ.e rounds[k]→(qs ++ [p']).map RoundQ.e=(rounds.take (k + 1)).map RoundQ.e):=fun p' hp' => by
    rw [List.take_succ_eq_append_getElem hlt,List.map_append,List.map_append,HE.out,List.map_singleton,List.map_singleton,hp']
   clear HE hc hc'
   generalize rounds[k]=p at *
   obtain ⟨pv,pr,pw,pp⟩:=p
   obtain ⟨u1,u2⟩:intK.At wr pv pr∧intK.At wr pw pp:=hrd
   obtain ⟨x1',j1,rfl⟩:=u1.shape
   obtain ⟨x2',j2,rfl⟩:=u2.shape
   dsimp only [RoundQ.n] at f0 f1 n1 hpos
   rw [Nat.add_zero] at f0
   have hcA:=fun w (hT:intK.At w (.slice x1' pr.length j1) pr)=>l1Ints_any _ pr w hT hpos.1 (by omega)
   have hcB:=fun w (hT:intK.At w (.slice x2' pp.length j2) pp)=>l1Ints_any _ pp w hT hpos.2 (by omega)
   have hFg:g ∉ blk (.slice sa qs.length sc):=fun hx=>by have:=HLO.out g hx;omega
   have hFw:w.heap.size ∉ blk (.slice sa qs.length sc):=fun hx=>by have:=HLO.out _ hx;omega
   have hFr:rb ∉ blk (.slice sa qs.length sc):=fun hx=>by have:=HLO.out rb hx;omega
   have HF:Hid (∀ x∈roundK.fp (.slice sa qs.length sc) qs,x < wr.heap.size):=hO.lt
   have m0:=lato_cell (F:=blk (.slice sa qs.length sc)) (HBg.out.cell 2 _ rfl) hFg
   have m1:=lato_cell (F:=blk (.slice sa qs.length sc)) b2 hFw
   have m2:=lato_cell (F:=blk (.slice sa qs.length sc)) f0 hFr
   have m3:=lato_cell (F:=blk (.slice sa qs.length sc)) f1 hFr
   have hlti:(k:Int) < (rounds.length:Int):=by omega
   have hnn:Nonempty (LatO (blk (.slice sa qs.length sc)) wr):=⟨⟨wr,Out.refl _ _⟩⟩
   have hW:Below wr.heap.size wr wr.drew:=(Below.refl _ _).drew
   have hnw:∀ w',Below wr.heap.size wr w' → ∃ u:LatO (blk (.slice sa qs.length sc)) wr,w' = u.val:=fun w' hw' => ⟨⟨w',Out.of_below hw'⟩,rfl⟩
   clear f0 f1
   go_wp2_with fail
   clear b2
   refine beginX (S:=fun w' => ∃ u:LatO (blk (.slice sa qs.length sc)) wr,w' = u.val) (R:=fun _ _=>False) 20 (by kernel_rfl) (fun _ _ _ _ h=>h.elim) ?_
   refine sgX [(0,8),(9,6)] 7 (by kernel_rfl) (hnw _ hW) ?_
   simp only [pkE]
   repeat go_big_quiet_step (fail)
   refine wpQuiet_nil ?_
   refine clX 8 (some 29) 90 #[.slice x1' pr.length j1] 6 (by kernel_rfl) rfl ?_
   refine (hcA _ (u1.below hW)).mono ?_
   rintro e w8 ⟨x1,y1,rfl,oa,ga,hb8⟩
   have LA:∀ x∈intK.fp (.slice x1 pr.length y1) pr,wr.heap.size≤x:=fun x hx=>by have:=ga x hx;have:=hW.size;omega
   have MA:=oa.lt
   replace hW:=hW.trans (hb8.mono hW.size)
   clear hb8 ga
   refine Or.inl ⟨_,rfl,hnw _ hW,?_⟩
   simp only [Act.put,pgE,pjE]
   refine clX 15 (some 36) 90 #[.slice x2' pp.length j2] 5 (by kernel_rfl) rfl ?_
   refine (hcB _ (u2.below hW)).mono ?_
   rintro e w9 ⟨x2,y2,rfl,ob,gb,hb9⟩
   have LB:∀ x∈intK.fp (.slice x2 pp.length y2) pp,wr.heap.size≤x:=fun x hx=>by have:=gb x hx;have:=hW.size;omega
   have hdis:∀ x∈intK.fp (.slice x1 pr.length y1) pr,∀ y∈intK.fp (.slice x2 pp.length y2) pp,x≠y:=fun x hx y hy e=>by have:=MA x hx;have:=gb y hy;omega
   replace oa:=oa.below hb9
   replace hW:=hW.trans (hb9.mono hW.size)
   clear hb9 gb MA
   refine Or.inl ⟨_,rfl,hnw _ hW,?_⟩
   simp only [Act.put,pgE,pjE]
   refine onX 16 4 rfl (by kernel_rfl) ?_
   go_wp2
   refine ThenX.to ⟨Or.inr (hnw _ hW),?_⟩
   refine onX 17 3 rfl (by kernel_rfl) ?_
   have hbA:Below w9.heap.size w9 (w9.alloc (.cells #[.slice x1 pr.length y1,.slice x2 pp.length y2] 51)):=by go_grown
   replace hW:=hW.trans (hbA.mono hW.size)
   replace oa:=oa.below hbA
   replace ob:=ob.below hbA
   have hsrc:∀ j u,[Value.slice x1 pr.length y1,.slice x2 pp.length y2][j]? = some u→(w9.alloc (.cells #[.slice x1 pr.length y1,.slice x2 pp.length y2] 51)).cell? ((⟨w9.heap.size,0,none⟩:Addr).add j)=some u:=by
    intro j u hj;match j,hj with | 0,hj=>simp at hj;subst hj;simp [Addr.add] | 1,hj=>simp at hj;subst hj;simp [Addr.add]
   go_wp2
   refine ThenX.to ⟨Or.inr (hnw _ hW),?_⟩
   generalize w9.alloc (.cells #[.slice x1 pr.length y1,.slice x2 pp.length y2] 51)=Z at *
   clear hbA
   have hO3:=hO.below hW
   have hrow0:=hO3.1
   have hsZ:=hW.size
   refine onX 18 2 rfl (by kernel_rfl) ?_
   refine wpList_append_own_at _ rfl _ _ 25 rfl 0 51 i0 (.agg #[.slice none 0 0,.slice none 0 0]) 2 48 Tryz.underlying25 hi hz0 hz1 hz2 rfl (by decide) _ qs.length (roundK.row qs) rfl hrow0 ⟨w9.heap.size,0,none⟩ 1 1 [.slice x1 pr.length y1,.slice x2 pp.length y2] rfl rfl hsrc ?c2 ?c3 ?c4 ?c5 ?_
   case c2=>intro u hu;simp at hu;rcases hu with rfl | rfl <;> rfl
   case c3=>have:=HQL.out;unfold maxLen;omega
   case c4=>have:=HQL.out;omega
   case c5=>omega
   intro v' w5 hown hgrow hnil hat
   clear hnil hrow0 hsrc
   obtain ⟨hO5,hn5,hlo5,hou⟩:=hO3.snoc (p:=⟨.slice x1 pr.length y1,pr,.slice x2 pp.length y2,pp⟩) (B:=X.heap.size) HN.out.1 HN.out.2 ⟨oa,ob⟩ (List.nodup_append.2 ⟨intK_nodup _ _,intK_nodup _ _,hdis⟩) (fun x hx hx' => by
    have:=HF.out x hx'
    rcases List.mem_append.1 hx with hx | hx
    ·have:=LA x hx;omega
    ·have:=LB x hx;omega) (fun x hx=>by
    rcases List.mem_append.1 hx with hx | hx
    ·have:=LA x hx;omega
    ·have:=LB x hx;omega) (by omega) hown hgrow hat
   obtain ⟨na,nc,rfl⟩:=hO5.shape
   rw [List.length_append,List.length_singleton] at hO5 hn5 hlo5
   have hO9:Out (blk (.slice sa qs.length sc)) wr w5:=(Out.of_below hW).trans hou
   have Bg5:Blk w5 g 28 #[.bool has,.slice s1 q1.length t1,.slice sa qs.length sc,.slice a3 dec.length c3]:=(hO9.block g (by omega) hFg).trans HBg.out
   have HE5:Hid ((qs ++ [(⟨.slice x1 pr.length y1,pr,.slice x2 pp.length y2,pp⟩:RoundQ)]).map RoundQ.e=(rounds.take (k + 1)).map RoundQ.e):=HPE.out _ rfl
   have HN5:Hid ((roundK.fp (.slice na (qs.length + 1) nc) (qs ++ [(⟨.slice x1 pr.length y1,pr,.slice x2 pp.length y2,pp⟩:RoundQ)])).Nodup∧∀ k∈roundK.fp (.slice na (qs.length + 1) nc) (qs ++ [(⟨.slice x1 pr.length y1,pr,.slice x2 pp.length y2,pp⟩:RoundQ)]),X.heap.size≤k):=⟨hn5,hlo5⟩
   have hX5:Out [g] X w5:=by
    refine ⟨hO9.os.trans HO.out.os,hO9.tape.trans HO.out.tape,hO9.output.trans HO.out.output,Nat.le_trans hXr hO9.size,fun x hx hn=>?_⟩
    exact (hO9.block x (by omega) (fun hx' => by have:=HLO.out x hx';omega)).trans (HO.out.block x hx hn)
   clear hn5 hlo5 hou HPE HN HF oa ob LA LB hdis hown hgrow hat hO3 hO m0 m1 m2 m3 hcA hcB
   go_wp2
   refine ThenX.to ⟨Or.inr ⟨⟨_,hO9⟩,rfl⟩,?_⟩
   simp only [Act.put,pgE,pjE]
   refine onX 19 1 rfl (by kernel_rfl) ?_
   go_wp2
   refine ThenX.to ⟨Or.inr ⟨⟨_,hO9⟩,rfl⟩,?_⟩
   refine onX 20 0 rfl (by kernel_rfl) ?_
   have t3:=Bg5.cell 2 _ rfl
   have t4:=Bg5.frozen 2
   have Bg6:=Bg5.set 2 (.slice na (qs.length + 1) nc)
   have hO6:=hO5.out (Out.setCell w5 g 2 (.slice na (qs.length + 1) nc)) (fun x hx=>by have:=HN5.out.2 x hx;simp only [List.mem_singleton];omega)
   have hX6:Out [g] X (w5.setCell ⟨g,2,none⟩ (.slice na (qs.length + 1) nc)):=hX5.trans (Out.setCell w5 g 2 _)
   have HB6:Hid (Blk (w5.setCell ⟨g,2,none⟩ (.slice na (qs.length + 1) nc)) g 28 #[.bool has,.slice s1 q1.length t1,.slice na (qs.length + 1) nc,.slice a3 dec.length c3]):=Bg6
   have HO6:Hid (Out [g] X (w5.setCell ⟨g,2,none⟩ (.slice na (qs.length + 1) nc))):=hX6
   clear Bg6 hX6 hX5 hO5 Bg5 HBg HO
   generalize qs ++ [(⟨.slice x1 pr.length y1,pr,.slice x2 pp.length y2,pp⟩:RoundQ)]=qs' at *
   go_wp2
   refine ThenX.to ⟨Or.inl (by kernel_rfl),?_⟩
   refine endX (by kernel_rfl) ?_
   clear t3 t4 hO9 hnn hnw hFg hFw hFr
   generalize w5.setCell ⟨g,2,none⟩ (.slice na (qs.length + 1) nc)=w6 at *
   go_wp2
   go_roundw
   case rel=>exact ⟨k + 1,_,qs',by omega,by go_num,HE5,hO6,HN5,HB6,HO6⟩
   case measure=>simp [intOf];omega
  ·have hkl:k=rounds.length:=by omega
   subst hkl
   have hE:=HE.out
   rw [List.take_length] at hE
   have HE9:Hid (qs.map RoundQ.e=rounds.map RoundQ.e):=hE
   clear HE hE
   have Rbr:Blk wr (w.heap.size + 1) 28 #[.bool false,.slice none 0 0,.slice none 0 0,.slice none 0 0]:=(HO.out.block _ RbX.lt (by simp only [List.mem_singleton];omega)).trans RbX
   have g0:=HBg.out.cell 0 _ rfl
   have g1:=HBg.out.cell 1 _ rfl
   have g2:=HBg.out.cell 2 _ rfl
   have g3:=HBg.out.cell 3 _ rfl
   have Rz:=Rbr.row #[.bool has,.slice s1 q1.length t1,.slice sa qs.length sc,.slice a3 dec.length c3]
   have hou:=out_row wr (w.heap.size + 1) #[.bool has,.slice s1 q1.length t1,.slice sa qs.length sc,.slice a3 dec.length c3]
   have hBe:=below_row hBr (g:=w.heap.size + 1) (by omega) #[.bool has,.slice s1 q1.length t1,.slice sa qs.length sc,.slice a3 dec.length c3]
   obtain ⟨e1,o1,n1,L1,N1,o3,L3,N3,D13⟩:=HQ1.out
   have oa:=(o1.out HO.out (fun x hx=>by simp only [List.mem_singleton];exact N1 x hx)).out hou (fun x hx=>by have:=L1 x hx;simp only [List.mem_singleton];omega)
   have oc:=(o3.out HO.out (fun x hx=>by simp only [List.mem_singleton];exact N3 x hx)).out hou (fun x hx=>by have:=L3 x hx;simp only [List.mem_singleton];omega)
   have ob:=hO.out hou (fun x hx=>by have:=HN.out.2 x hx;simp only [List.mem_singleton];omega)
   have HR:Hid ((InstQ.e ⟨has,.slice s1 q1.length t1,q1,.slice sa qs.length sc,qs,.slice a3 dec.length c3,dec⟩=InstQ.e ⟨has,.slice ba batch.length bk,batch,.slice va rounds.length vk,rounds,.slice da dec.length dk,dec⟩)∧(instK.foot ⟨has,.slice s1 q1.length t1,q1,.slice sa qs.length sc,qs,.slice a3 dec.length c3,dec⟩).Nodup∧∀ x∈instK.foot ⟨has,.slice s1 q1.length t1,q1,.slice sa qs.length sc,qs,.slice a3 dec.length c3,dec⟩,w.heap.size≤x):=by
    refine ⟨?_,?_,?_⟩
    ·simp only [InstQ.e,e1,HE9.out]
    ·refine List.nodup_append.2 ⟨n1,List.nodup_append.2 ⟨HN.out.1,intK_nodup _ _,fun x hx y hy e=>?_⟩,fun x hx y hy e=>?_⟩
     ·have:=HN.out.2 x hx;have:=o3.lt y hy;omega
     ·rcases List.mem_append.1 hy with hy | hy
      ·have:=HN.out.2 y hy;have:=o1.lt x hx;omega
      ·exact D13 x hx y hy e
    ·intro x hx
     rcases List.mem_append.1 hx with hx | hx
     ·have:=L1 x hx;omega
     ·rcases List.mem_append.1 hx with hx | hx
      ·have:=HN.out.2 x hx;omega
      ·have:=L3 x hx;omega
   clear e1 o1 n1 L1 N1 o3 L3 N3 D13 hou HQ1 HE9 hO HN HLO
   go_wp2_with (first | (refine st_row (by kernel_rfl) 28 _ _ rfl _ #[.bool has,.slice s1 q1.length t1,.slice sa qs.length sc,.slice a3 dec.length c3] rfl rfl 28 _ Rbr sz_inst rfl (by simp [Value.oneCell']) ?_))
   obtain ⟨k0,k1,k2,k3⟩:=Rz.cel4
   exact bodyPost_ret (v:=.agg #[.bool has,.slice s1 q1.length t1,.slice sa qs.length sc,.slice a3 dec.length c3]) (by simp [results,Tryz.results75,go_sem,k0,k1,k2,k3]) rfl ⟨⟨has,.slice s1 q1.length t1,q1,.slice sa qs.length sc,qs,.slice a3 dec.length c3,dec⟩,rfl,HR.out.1,⟨oa,ob,oc⟩,HR.out.2.1,HR.out.2.2,hBe⟩

end Go.Proofs.YtnnenkoeklabpaaGreatDoor
