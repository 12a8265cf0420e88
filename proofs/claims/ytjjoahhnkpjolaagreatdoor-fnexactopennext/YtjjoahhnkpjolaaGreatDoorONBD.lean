import Derived.Test.YtjjoahhnkpjolaaGreatDoorONBC
import Derived.Test.YtjjoahhnkpjolaaGreatDoorONAR
set_option linter.unusedVariables false
set_option linter.unusedSimpArgs false
set_option maxRecDepth 100000
set_option maxHeartbeats 8000000
namespace Go.Proofs.YtjjoahhnkpjolaaGreatDoor
open Go.RowKit Go.BigFrame
open TxnQ renaming e->m
open Nat renaming le_refl->f,zero_le->n
open List renaming length_map->Va,getElem_mem->Vb
open IntKind renaming i64->Q
open Value renaming int->H,slice->G
open Go.Proofs.Tryz renaming prog->P
open Go.Proofs.Tryz
theorem z4c{F:List Nat}{w:World}{b o:Nat}{v:Value}(h:w.cell? ⟨b,o,none⟩=some v)(hF:b∉F):∀u:KeepP (Out F w),u.val.cell? ⟨b,o,none⟩=some v:=fun u=>by
 have hb:=World.block_lt_of_cell? w _ h;have e:=u.isP.block b hb hF;unfold World.cell? at h⊢;simp only at h⊢;rw[e];exact h
theorem q3g(ps:List TxnQ)(k:Nat)(hk:k<ps.length):(ps.map m).take (k+1)=(ps.map m).take k++[m ps[k]]:=by
 rw[List.take_succ_eq_append_getElem (by simpa using hk)];simp
theorem q5D{xs:List ItemD}{t:TxnD}:nextI xs t=if(z0z xs t.acts).1=0 then runR xs t.acts else xs:=by
 unfold nextI runR;split<;>simp_all
def RecPost(w w':World)(vN iN vU iU:Value)(D E:List TxnD):Prop:=∃ (ds us:List DeedQ) (rb B0:Nat),Rec w rb B0 w' vN iN vU iU ds us (allI [] D) (allI (allI [] D) E)∧ds.map DeedQ.e4=z0O [] D∧us.map DeedQ.e4=z0O (allI [] D) E∧w.heap.size≤rb∧rb<B0
theorem Rec.other{w:World}{rb B0 g:Nat}{wr:World}{vN iN vU iU:Value}{ds us:List DeedQ}{xs ys:List ItemD}(h:Rec w rb B0 wr vN iN vU iU ds us xs ys)(hg:g<B0)(hr:rb≠g)(j:Nat)(u:Value):Rec w rb B0 (wr.setCell ⟨g,j,none⟩ u) vN iN vU iU ds us xs ys:=by
 have hO:=Out.setCell wr g j u;have nF:∀ {k},B0≤k→k∉[g]:=fun hk hm=>by simp only[List.mem_singleton]at hm;omega
 exact⟨h.B.other hr j u,z0X h.oN hO (fun k hk=>nF (h.lN k hk)),h.aN,z0X h.oU hO (fun k hk=>nF (h.lU k hk)),fun p hp=>⟨(h.aU p hp).1,(h.aU p hp).2.out hO (fun k hk=>by rw[z0K]at hk;exact nF (h.d3 p hp k hk).1)⟩,h.jN.out hO (fun k hk=>by rw[z0q]at hk;exact nF (h.d1 k hk).1),h.jU.out hO (fun k hk=>by rw[z0q]at hk;exact nF (h.d2 k hk).1),h.nu,h.lN,h.lU,h.d1,h.d2,h.d3⟩
theorem z8W(v1 v2:Value)(ps qs:List TxnQ)(w:World)(h1:txnK.At w v1 ps)(h2:txnK.At w v2 qs)(aA:∀p∈ps,(m p).F=0)(aB:∀p∈qs,(m p).F=0)(aK:ps.length≤40)(aL:qs.length≤40):
  Calls P 132 #[v1,v2] w fun e w'=>∃ (vN iN vU iU:Value),e=.returned (.agg #[vN,iN,vU,iU])∧RecPost w w' vN iN vU iU (ps.map m) (qs.map m)∧Below w.heap.size w w':=by
 obtain⟨a1,k1,rfl⟩:=h1.shape;obtain⟨a2,k2,rfl⟩:=h2.shape;have aq:Below w.heap.size w ((w.alloc (.cells #[G none 0 0,G none 0 0,G none 0 0,G none 0 0] 149)).alloc (.cells #[G none 0 0,G none 0 0,G none 0 0,G none 0 0] 149)):=by go_grown
 have R0:=(Blk.new w 149 #[G none 0 0,G none 0 0,G none 0 0,G none 0 0]).below (w':=(w.alloc (.cells #[G none 0 0,G none 0 0,G none 0 0,G none 0 0] 149)).alloc (.cells #[G none 0 0,G none 0 0,G none 0 0,G none 0 0] 149)) (by go_grown);have B:=Blk.new (w.alloc (.cells #[G none 0 0,G none 0 0,G none 0 0,G none 0 0] 149)) 149 #[G none 0 0,G none 0 0,G none 0 0,G none 0 0];rw[World.size_alloc]at B;have T:w.heap.size+2≤((w.alloc (.cells #[G none 0 0,G none 0 0,G none 0 0,G none 0 0] 149)).alloc (.cells #[G none 0 0,G none 0 0,G none 0 0,G none 0 0] 149)).heap.size:=by simp only[World.size_alloc];omega
 have hn:∀k∈blk (Value.slice none 0 0),False:=fun k hk=>by simp[blk,Value.ownBlock]at hk
 have Rz:Rec w (w.heap.size+1) (w.heap.size+2) ((w.alloc (.cells #[G none 0 0,G none 0 0,G none 0 0,G none 0 0] 149)).alloc (.cells #[G none 0 0,G none 0 0,G none 0 0,G none 0 0] 149)) (G none 0 0) (G none 0 0) (G none 0 0) (G none 0 0) [] [] [] []:=
  ⟨B,World.ownsRow_nil _ _ _ _,fun p hp=>by simp at hp,World.ownsRow_nil _ _ _ _,fun p hp=>by simp at hp,(Kind.own_nil _).1,(Kind.own_nil _).1,fun k hk=>(hn k hk).elim,fun k hk=>(hn k hk).elim,fun k hk=>(hn k hk).elim,fun k hk=>(hn k hk).elim,fun k hk=>(hn k hk).elim,fun p hp=>by simp at hp⟩
 clear B;have aC:(ps.length:Int)≤40:=by omega
 have aD:(qs.length:Int)≤40:=by omega
 go_enter func132,ntmps132
 go_wp2
 generalize (w.alloc (.cells #[G none 0 0,G none 0 0,G none 0 0,G none 0 0] 149)).alloc (.cells #[G none 0 0,G none 0 0,G none 0 0,G none 0 0] 149)=W0 at*;have H0:Hid (([]:List DeedQ).map DeedQ.e4=z0O [] ((ps.map m).take 0)∧([]:List ItemD)=allI [] ((ps.map m).take 0)∧([]:List ItemD).length≤8∧Good ([]:List ItemD)):=⟨rfl,rfl,by simp,z4b⟩
 go_loopw[13] (fun j wr=>∃ (k:Nat) (vN iN:Value) (ds:List DeedQ) (xs:List ItemD),k≤ps.length∧j=H Q k∧Rec w (w.heap.size+1) (w.heap.size+2) wr vN iN (G none 0 0) (G none 0 0) ds [] xs []∧Hid (ds.map DeedQ.e4=z0O [] ((ps.map m).take k)∧xs=allI [] ((ps.map m).take k)∧xs.length≤8∧Good xs)∧Blk wr w.heap.size 149 #[G none 0 0,G none 0 0,G none 0 0,G none 0 0]∧Below w.heap.size w wr∧w.heap.size+2≤wr.heap.size) (fun j _=>ps.length-(intOf j).toNat)
 case atStart=>exact⟨0,_,_,[],[],n _,rfl,Rz,H0,R0,aq,T⟩
 case round=>
  clear Rz H0 R0 aq T hn;obtain⟨k,vN,iN,ds,xs,hk,rfl,R,HD,R0,hb,T⟩:=hrel;obtain⟨ia,ic,rfl⟩:=R.jN.shape;by_cases C:k<ps.length
  ·obtain⟨b,am,rfl,ag,Z,d⟩:=(h1.below hb).cell (by decide) k C;have A:∀j x,(txnK.cells ps[k])[j]?=some x→wr.cell? ⟨b,am+k*4+j,none⟩=some x:=Z;have c0:=A 0 (H Q ps[k].i) rfl;have c1:=A 1 (H Q ps[k].s) rfl;have c2:=A 2 (H Q ps[k].q) rfl;have c3:=A 3 (ps[k].va) rfl;rw[Nat.add_zero]at c0;have E:txnK.rd w ps[k]:=h1.rdm (Vb C);have M:=aA ps[k] (Vb C);have U:=q3g ps k C;have au:(k:Int)<(ps.length:Int):=by omega
   have ai:Hid (ds.length=k):=by
    have:=congrArg List.length HD.out.1;have e:∀ (xs:List ItemD) (l:List TxnD),(z0O xs l).length=l.length:=fun xs l=>by
     induction l generalizing xs with
     |nil=>rfl
     |cons t r ih=>simp[z0O,ih]
    rw[Va,e,List.length_take,Va]at this;show ds.length=k;omega
   clear Z A;generalize ps[k]=p at*;obtain⟨i,s,q,va,c⟩:=p;replace d:actK.At wr va c:=d;replace E:actK.At w va c:=E;obtain⟨ta,tc,rfl⟩:=d.shape;dsimp only[m]at c0 c1 c2 c3 M U;have y:Below wr.heap.size wr (wr.alloc (.cells #[H Q i,H Q s,H Q q,G ta c.length tc] 158)):=by go_grown
   have Bt:=Blk.new wr 158 #[H Q i,H Q s,H Q q,G ta c.length tc];have R1:=R.below y;replace R0:=R0.below y;replace d:=d.below y;replace hb:=hb.trans (y.mono hb.size);have I:∀x∈blk vN,x<wr.heap.size:=z0D R.oN;have aG:=y.size
   go_wp2_with fail
   clear c0 c1 c2 c3 y;generalize hX:wr.alloc (.cells #[H Q i,H Q s,H Q q,G ta c.length tc] 158)=X at*;generalize hT:wr.heap.size=tb at*;clear hX R;have af:tb∉(w.heap.size+1)::blk vN:=fun hm=>by
    rcases List.mem_cons.1 hm with e|e
    ·omega
    ·have:=I _ e;omega
   have t0:=z4c (Bt.cell 0 _ rfl) af;have t1:=z4c (Bt.cell 1 _ rfl) af;have t2:=z4c (Bt.cell 2 _ rfl) af;have t3:=z4c (Bt.cell 3 _ rfl) af;have ao:Out ((w.heap.size+1)::blk vN) X X.drew:=Out.of_below (Below.refl _ _).drew;have hW:Below X.heap.size X X.drew:=(Below.refl _ _).drew;have aF:Nonempty (KeepP (Out ((w.heap.size+1)::blk vN) X)):=⟨⟨X,Out.refl _ _⟩⟩
   refine z0d (S:=fun w'=>∃u:KeepP (Out ((w.heap.size+1)::blk vN) X),w'=u.val) (by kernel_rfl) ?_;refine sgr [(0,4),(5,1),(7,1)] 3 (by kernel_rfl) ⟨⟨_,ao⟩,rfl⟩ ?_;simp only[pkE];repeat go_big_quiet_step (fail)
   refine wpQuiet_nil ?_;clear t0 t1 t2 t3 aF;have r1:=(R1.B.below hW).cell 1 _ rfl;refine ona 4 2 rfl (by kernel_rfl) ?_
   go_wp2
   clear r1;refine ThenGo.to ⟨⟨⟨_,ao⟩,rfl⟩,?_⟩;refine cla 6 (some 23) 175 #[G ia xs.length ic,.agg #[H Q i,H Q s,H Q q,G ta c.length tc]] 1 (by kernel_rfl) ?_;refine(q3f ia ic xs i s q ta tc c _ (R1.jN.at.below hW) (d.below hW) HD.out.2.2.1 HD.out.2.2.2 M).mono ?_;rintro e w5 ⟨ub,uc,jb,jc,rfl,ou,oi,lu,li,D⟩;have aE:∀x∈blk (.slice jb (runR xs c).length jc),X.heap.size≤x:=fun x hx=>Nat.le_trans hW.size (li x hx)
   replace hW:=hW.trans (D.mono hW.size);refine⟨_,rfl,⟨⟨_,Out.of_below hW⟩,rfl⟩,?_⟩;simp only[Act.put,pjE];have R5:=R1.below hW;have aJ:=hW.size;have ab:∀x∈blk (.slice jb (runR xs c).length jc),w.heap.size+2≤x∧x∉blk vN∧x∉blk (Value.slice none 0 0):=fun x hx=>by
    have:=aE x hx;exact⟨by omega,fun e=>by have:=I x e;omega,by simp[blk,Value.ownBlock]⟩
   have aj:Hid ((ds++[(⟨i,s,q,G ta c.length tc,c,(z0z xs c).1,runV xs c,G none 0 0,z0Q xs c⟩:DeedQ)]).map DeedQ.e4=z0O [] ((ps.map m).take (k+1))∧nextI xs ⟨i,s,q,c⟩=allI [] ((ps.map m).take (k+1))∧(nextI xs ⟨i,s,q,c⟩).length≤8∧Good (nextI xs ⟨i,s,q,c⟩)):=by
    obtain⟨d1,d2,d3,d4⟩:=HD.out;have g:=z1B d3 d4 M;rw[U,z3d,z4a,←d2,List.map_append,d1];exact⟨rfl,rfl,g.1,g.2⟩
   have ae:=q5D (xs:=xs) (t:=⟨i,s,q,c⟩);dsimp only at ae;refine cla 8 (some 25) 174 #[.pointer (some ⟨w.heap.size+1,0,none⟩),.agg #[H Q i,H Q s,H Q q,G ta c.length tc],.agg #[H Q (z0z xs c).1,H Q (runV xs c),.slice ub (z0Q xs c).length uc,.slice jb (runR xs c).length jc],.agg #[]] 0 (by kernel_rfl) ?_;refine(q4e (w.heap.size+1) vN (G ia xs.length ic) (G none 0 0) (G none 0 0) ds.length _ i s q (G ta c.length tc) _ _ _ jb _ jc w5 R5.B R5.oN (fun e=>by have:=R5.lN _ e;omega) (by have:=ai.out;omega) rfl).mono ?_;rintro e w6 ⟨rfl,d1,B6,o6,aa,z⟩;have aH:=z.size;refine⟨_,rfl,⟨⟨_,(Out.of_below (F:=(w.heap.size+1)::blk vN) hW).trans z⟩,rfl⟩,?_⟩;simp only[Act.put,pjE];refine z0h (by kernel_rfl) ?_;have ad:itemK.Own w5 (if(z0z xs c).1=0 then .slice jb (runR xs c).length jc else G ia xs.length ic) (nextI xs ⟨i,s,q,c⟩):=by
    rw[ae];by_cases hc:(z0z xs c).1=0
    ·rw[if_pos hc,if_pos hc];exact oi
    ·rw[if_neg hc,if_neg hc];exact R5.jN
   have L:∀x∈blk (if(z0z xs c).1=0 then .slice jb (runR xs c).length jc else G ia xs.length ic),w.heap.size+2≤x∧x∉blk vN∧x∉blk (Value.slice none 0 0):=by
    by_cases hc:(z0z xs c).1=0
    ·rw[if_pos hc];exact ab
    ·rw[if_neg hc];exact R5.d1
   have R6:=R5.addN (p:=⟨i,s,q,G ta c.length tc,c,(z0z xs c).1,runV xs c,G none 0 0,z0Q xs c⟩) (by omega) (by omega) E ad L B6 o6 aa z;have W:Below w.heap.size w w6:=Out.keep (hb.trans (hW.mono hb.size)) z (by omega) (fun x hx=>by
    rcases List.mem_cons.1 hx with e|e
    ·omega
    ·have:=R5.lN x e;omega)
   have V:=(R0.below hW).outs8 z (fun hx=>by
    rcases List.mem_cons.1 hx with e|e
    ·omega
    ·have:=R5.lN _ e;omega)
   have HR:Hid (_∧_∧_∧_):=⟨R6,V,W,(show w.heap.size+2≤w6.heap.size by omega)⟩
   clear R6 V W R5 R1 R0 hb ad L ab ou oi lu li D hW z aa o6 B6 d E HD
   go_wp2
   go_roundw
   case rel=>exact⟨k+1,d1,_,_,_,by omega,by go_num,HR.out.1,aj,HR.out.2.1,HR.out.2.2.1,HR.out.2.2.2⟩
   case measure=>simp[intOf];omega
  ·have ak:k=ps.length:=by omega
   subst ak;have au:¬((ps.length:Int)<(ps.length:Int)):=by omega
   obtain⟨N,O,ax,gx⟩:=HD.out;rw[List.take_of_length_le (by simp)]at N O;have HE:Hid (ds.map DeedQ.e4=z0O [] (ps.map m)∧xs=allI [] (ps.map m)):=⟨N,O⟩
   clear HD N O C;have r1:=R.B.cell 1 _ rfl;have r3:=R.B.cell 3 _ rfl;have f3:=R.B.frozen 3;have Rs:=R.share (by omega);have an:=R0.other (b':=w.heap.size+1) (by omega) 3 (G ia xs.length ic);have ag:=hb.setCell (p:=⟨w.heap.size+1,3,none⟩) (by show w.heap.size≤w.heap.size+1;omega) (G ia xs.length ic);have av:w.heap.size+2≤(wr.setCell ⟨w.heap.size+1,3,none⟩ (G ia xs.length ic)).heap.size:=by simpa using T
   go_wp2
   clear r1 r3 f3 R R0 hb T;generalize wr.setCell ⟨w.heap.size+1,3,none⟩ (G ia xs.length ic)=Y at*;have H0:Hid (([]:List DeedQ).map DeedQ.e4=z0O xs ((qs.map m).take 0)∧xs=allI xs ((qs.map m).take 0)∧xs.length≤8∧Good xs):=⟨rfl,rfl,ax,gx⟩
   clear ax gx;go_loopw[34] (fun j wr=>∃ (k:Nat) (vU iU:Value) (us:List DeedQ) (ys:List ItemD),k≤qs.length∧j=H Q k∧Rec w (w.heap.size+1) (w.heap.size+2) wr vN (G ia xs.length ic) vU iU ds us xs ys∧Hid (us.map DeedQ.e4=z0O xs ((qs.map m).take k)∧ys=allI xs ((qs.map m).take k)∧ys.length≤8∧Good ys)∧Blk wr w.heap.size 149 #[G none 0 0,G none 0 0,G none 0 0,G none 0 0]∧Below w.heap.size w wr∧w.heap.size+2≤wr.heap.size) (fun j _=>qs.length-(intOf j).toNat)
   case atStart=>exact⟨0,_,_,[],_,n _,rfl,Rs,H0,an,ag,av⟩
   case round=>
    clear Rs H0 an ag av;obtain⟨k,vU,iU,us,ys,hk,rfl,R,HD,R0,hb,T⟩:=hrel;obtain⟨ja,jc,rfl⟩:=R.jU.shape;by_cases C:k<qs.length
    ·obtain⟨b,am,rfl,ag,Z,d⟩:=(h2.below hb).cell (by decide) k C;have A:∀j x,(txnK.cells qs[k])[j]?=some x→wr.cell? ⟨b,am+k*4+j,none⟩=some x:=Z;have c0:=A 0 (H Q qs[k].i) rfl;have c1:=A 1 (H Q qs[k].s) rfl;have c2:=A 2 (H Q qs[k].q) rfl;have c3:=A 3 (qs[k].va) rfl;rw[Nat.add_zero]at c0;have E:txnK.rd w qs[k]:=h2.rdm (Vb C);have M:=aB qs[k] (Vb C);have U:=q3g qs k C;have al:(k:Int)<(qs.length:Int):=by omega
     have ai:Hid (us.length=k):=by
      have:=congrArg List.length HD.out.1;have e:∀ (xs:List ItemD) (l:List TxnD),(z0O xs l).length=l.length:=fun xs l=>by
       induction l generalizing xs with
       |nil=>rfl
       |cons t r ih=>simp[z0O,ih]
      rw[Va,e,List.length_take,Va]at this;show us.length=k;omega
     clear Z A;generalize qs[k]=p at*;obtain⟨i,s,q,va,c⟩:=p;replace d:actK.At wr va c:=d;replace E:actK.At w va c:=E;obtain⟨ta,tc,rfl⟩:=d.shape;dsimp only[m]at c0 c1 c2 c3 M U;have y:Below wr.heap.size wr (wr.alloc (.cells #[H Q i,H Q s,H Q q,G ta c.length tc] 158)):=by go_grown
     have Bt:=Blk.new wr 158 #[H Q i,H Q s,H Q q,G ta c.length tc];have R1:=R.below y;replace R0:=R0.below y;replace d:=d.below y;replace hb:=hb.trans (y.mono hb.size);have I:∀x∈blk vN,x<wr.heap.size:=z0D R.oN;have ah:∀x∈blk vU,x<wr.heap.size:=z0D R.oU;have aG:=y.size;obtain⟨x0,x1,x2,x3⟩:=Bt.cel4;have r3:=R1.B.cell 3 _ rfl;have ar:=q3f ja jc ys i s q ta tc c _ R1.jU.at d HD.out.2.2.1 HD.out.2.2.2 M
     go_wp2_with fail
     clear c0 c1 c2 c3 y x0 x1 x2 x3 r3;generalize hX:wr.alloc (.cells #[H Q i,H Q s,H Q q,G ta c.length tc] 158)=X at*;generalize hT:wr.heap.size=tb at*;clear hX R;refine ar.mono ?_;rintro e w5 ⟨ub,uc,jb,jd,rfl,ou,oi,lu,li,D⟩;clear ar;have J:Below w5.heap.size w5 (w5.alloc (.cells #[H Q (z0z ys c).1,H Q (runV ys c),.slice ub (z0Q ys c).length uc,.slice jb (runR ys c).length jd] 251)):=by go_grown
     have Bu:=Blk.new w5 251 #[H Q (z0z ys c).1,H Q (runV ys c),.slice ub (z0Q ys c).length uc,.slice jb (runR ys c).length jd];have aM:=D.size;have aH:=J.size;have R5:=(R1.below D).below J;replace R0:=(R0.below D).below J;replace hb:=(hb.trans (D.mono hb.size))
     replace hb:=hb.trans (J.mono hb.size);replace Bt:=(Bt.below D).below J;replace ou:=ou.below J;replace oi:=oi.below J;obtain⟨x0,x1,x2,x3⟩:=Bt.cel4;obtain⟨y0,y1,y2,y3⟩:=Bu.cel4;have ab:∀x∈blk (.slice jb (runR ys c).length jd),w.heap.size+2≤x∧x∉blk vN∧x∉blk vU:=fun x hx=>by
      have:=li x hx;exact⟨by omega,fun e=>by have:=I x e;omega,fun e=>by have:=ah x e;omega⟩
     have aw:∀x∈blk (.slice ub (z0Q ys c).length uc),w.heap.size+2≤x∧x∉blk vN∧x∉blk vU:=fun x hx=>by
      have:=lu x hx;exact⟨by omega,fun e=>by have:=I x e;omega,fun e=>by have:=ah x e;omega⟩
     have aj:Hid ((us++[(⟨i,s,q,G ta c.length tc,c,(z0z ys c).1,runV ys c,.slice ub (z0Q ys c).length uc,z0Q ys c⟩:DeedQ)]).map DeedQ.e4=z0O xs ((qs.map m).take (k+1))∧nextI ys ⟨i,s,q,c⟩=allI xs ((qs.map m).take (k+1))∧(nextI ys ⟨i,s,q,c⟩).length≤8∧Good (nextI ys ⟨i,s,q,c⟩)):=by
      obtain⟨d1,d2,d3,d4⟩:=HD.out;have g:=z1B d3 d4 M;rw[U,z3d,z4a,←d2,List.map_append,d1];exact⟨rfl,rfl,g.1,g.2⟩
     have ae:=q5D (xs:=ys) (t:=⟨i,s,q,c⟩);dsimp only at ae;have ap:=q4f (w.heap.size+1) vU (G ja ys.length jc) vN (G ia xs.length ic) us.length _ i s q (G ta c.length tc) (z0z ys c).1 (runV ys c) (.slice ub (z0Q ys c).length uc) jb (runR ys c).length jd ub (z0Q ys c).length uc _ R5.B R5.oU (fun e=>by have:=R5.lU _ e;omega) (by have:=ai.out;omega) rfl
     go_wp2_with fail
     clear x0 x1 x2 x3 y0 y1 y2 y3 Bt Bu J D;generalize w5.alloc (.cells #[H Q (z0z ys c).1,H Q (runV ys c),.slice ub (z0Q ys c).length uc,.slice jb (runR ys c).length jd] 251)=aI at*;refine ap.mono ?_;rintro e w6 ⟨rfl,d1,B6,o6,aa,z⟩;have aN:=z.size;have ad:itemK.Own aI (if(z0z ys c).1=0 then .slice jb (runR ys c).length jd else G ja ys.length jc) (nextI ys ⟨i,s,q,c⟩):=by
      rw[ae];by_cases hc:(z0z ys c).1=0
      ·rw[if_pos hc,if_pos hc];exact oi
      ·rw[if_neg hc,if_neg hc];exact R5.jU
     have L:∀x∈blk (if(z0z ys c).1=0 then .slice jb (runR ys c).length jd else G ja ys.length jc),w.heap.size+2≤x∧x∉blk vN∧x∉blk vU:=by
      by_cases hc:(z0z ys c).1=0
      ·rw[if_pos hc];exact ab
      ·rw[if_neg hc];exact R5.d2
     have R6:=R5.addU (p:=⟨i,s,q,G ta c.length tc,c,(z0z ys c).1,runV ys c,.slice ub (z0Q ys c).length uc,z0Q ys c⟩) (by omega) (by omega) E ou aw ad L B6 o6 aa z;have W:Below w.heap.size w w6:=Out.keep hb z (by omega) (fun x hx=>by
      rcases List.mem_cons.1 hx with e|e
      ·omega
      ·have:=R5.lU x e;omega)
     have V:=R0.outs8 z (fun hx=>by
      rcases List.mem_cons.1 hx with e|e
      ·omega
      ·have:=R5.lU _ e;omega)
     have HR:Hid (_∧_∧_∧_):=⟨R6,V,W,(show w.heap.size+2≤w6.heap.size by omega)⟩
     clear R6 V W R5 R1 R0 hb ad L ab aw ou oi lu li z aa o6 B6 d E HD ap
     go_wp2
     go_roundw
     case rel=>exact⟨k+1,d1,_,_,_,by omega,by go_num,HR.out.1,aj,HR.out.2.1,HR.out.2.2.1,HR.out.2.2.2⟩
     case measure=>simp[intOf];omega
    ·have ak:k=qs.length:=by omega
     subst ak;have al:¬((qs.length:Int)<(qs.length:Int)):=by omega
     obtain⟨N,O,_,_⟩:=HD.out;rw[List.take_of_length_le (by simp)]at N O;obtain⟨ay,az⟩:=HE.out;subst az;subst O;clear HD HE C;have r0:=R.B.cell 0 _ rfl;have r1:=R.B.cell 1 _ rfl;have r2:=R.B.cell 2 _ rfl;have r3:=R.B.cell 3 _ rfl;obtain⟨z0,z1,z2,z3⟩:=R0.cel4;obtain⟨g0,g1,g2,g3⟩:=R0.frz4;obtain⟨na,nc,rfl⟩:=z0f R.oN;obtain⟨ua,uc,rfl⟩:=z0f R.oU;have RF:Hid (∀u0 u1 u2 u3:Value,Rec w (w.heap.size+1) (w.heap.size+2) ((((wr.setCell ⟨w.heap.size,0,none⟩ u0).setCell ⟨w.heap.size,1,none⟩ u1).setCell ⟨w.heap.size,2,none⟩ u2).setCell ⟨w.heap.size,3,none⟩ u3) _ _ _ _ ds us _ _∧Below w.heap.size w ((((wr.setCell ⟨w.heap.size,0,none⟩ u0).setCell ⟨w.heap.size,1,none⟩ u1).setCell ⟨w.heap.size,2,none⟩ u2).setCell ⟨w.heap.size,3,none⟩ u3)):=fun u0 u1 u2 u3=>
      ⟨(((R.other (by omega) (by omega) 0 u0).other (by omega) (by omega) 1 u1).other (by omega) (by omega) 2 u2).other (by omega) (by omega) 3 u3,(((hb.setCell (p:=⟨w.heap.size,0,none⟩) (f _) u0).setCell (p:=⟨w.heap.size,1,none⟩) (f _) u1).setCell (p:=⟨w.heap.size,2,none⟩) (f _) u2).setCell (p:=⟨w.heap.size,3,none⟩) (f _) u3⟩
     clear R R0
     go_wp2
     exact bodyPost_ret (v:=.agg #[G na ds.length nc,_,G ua us.length uc,_]) (by simp[results,results132,go_sem,z0,z1,z2,z3]) rfl ⟨_,_,_,_,rfl,⟨ds,us,w.heap.size+1,w.heap.size+2,(RF.out _ _ _ _).1,ay,N,by omega,by omega⟩,(RF.out _ _ _ _).2⟩
theorem z7N(zs:List UndoD):∀u∈z0n zs,u.oneCell'=true:=by
 intro u hu;obtain⟨z,_,hz⟩:=List.mem_flatMap.1 hu;simp only[UndoD.cells,List.mem_cons,List.not_mem_nil,or_false]at hz;rcases hz with rfl|rfl|rfl<;>rfl
theorem z1C(sa:Option Addr)(sc:Nat)(xs:List ItemD)(w:World)(h:itemK.At w (G sa xs.length sc) xs)(hN:z8S sa xs.length sc)(hl:xs.length≤1048576):
  Calls P 146 #[G sa xs.length sc] w fun e w'=>∃a c,e=.returned (G a xs.length c)∧itemK.Own w' (G a xs.length c) xs∧(∀k∈blk (G a xs.length c),w.heap.size≤k)∧Below w.heap.size w w':=by
 rcases hN with⟨ad,rfl⟩|⟨rfl,hn,rfl⟩
 ·obtain⟨i0,hi,D,E,I⟩:=info_parts z2j;have y:Below w.heap.size w (w.alloc (.cells #[] 173)):=by go_grown
  have hr:=(h.below y)
  obtain⟨_,_,e1,l1,_⟩:=hr;simp only[Value.slice.injEq]at e1;obtain⟨rfl,_,rfl⟩:=e1;have ho:=World.ownsRow_lit (e:=173) (size:=2) w #[] 0 (f _) (by decide) rfl;have z:∀w,(binOp .eql 53 (G (some ad) xs.length sc) (G none 0 0)).run P w=.ok (.bool false) w:=fun w=>by first|rfl|kernel_rfl|(simp only[binOp];simp[Op.equal,Op.maxDepth,Op.equalIn,run_underlying Tryz.underlying53])
  have x1:([]:List ItemD).length+xs.length≤maxLen:=by unfold maxLen;rw[List.length_nil];omega
  have x2:(([]:List ItemD).length+xs.length)*16≤140737488355328:=by rw[List.length_nil];omega
  have A:=y.size;go_enter func146,ntmps146
  go_wp2_with (at_builtin;refine z1m (K:=itemK) _ rfl _ _ 53 rfl i0 (.agg #[H Q 0,H Q 0]) 16 Tryz.underlying53 hi D E I rfl (by decide) w.heap.size _ [] rfl ho _ xs _ rfl l1 (z2t xs) (Or.inl ⟨_,rfl⟩) x1 x2 A ?_)
  intro v' w2 d x;have C:Below w.heap.size w w2:=y.grown x A (fun k hk=>(ho.lt k hk).1);try simp only[List.nil_append]at d
  obtain⟨a2,c2,rfl⟩:=z0f d;obtain⟨o2,l2⟩:=z0y d;clear x ho l1 d
  go_wp2
  go_ret;exact⟨a2,c2,rfl,⟨o2,fun _ _=>trivial⟩,l2,C⟩
 ·have hz:xs=[]:=List.eq_nil_of_length_eq_zero hn;subst hz;have z:∀w,(binOp .eql 53 (G none 0 0) (G none 0 0)).run P w=.ok (.bool true) w:=fun w=>by first|rfl|kernel_rfl|(simp only[binOp];simp[Op.equal,Op.maxDepth,Op.equalIn,run_underlying Tryz.underlying53])
  rw[List.length_nil];go_enter func146,ntmps146
  go_wp2
  go_ret;exact⟨none,0,rfl,(Kind.own_nil _).1,fun k hk=>by simp[blk,Value.ownBlock]at hk,Below.refl _ _⟩
theorem z3t(sa:Option Addr)(sc:Nat)(xs:List UndoD)(w:World)(h:undoK.At w (G sa xs.length sc) xs)(hN:z8S sa xs.length sc)(hl:xs.length≤1048576):
  Calls P 147 #[G sa xs.length sc] w fun e w'=>∃a c,e=.returned (G a xs.length c)∧undoK.Own w' (G a xs.length c) xs∧(∀k∈blk (G a xs.length c),w.heap.size≤k)∧Below w.heap.size w w':=by
 rcases hN with⟨ad,rfl⟩|⟨rfl,hn,rfl⟩
 ·obtain⟨i0,hi,D,E,I⟩:=info_parts z5c;have y:Below w.heap.size w (w.alloc (.cells #[] 223)):=by go_grown
  have hr:=(h.below y)
  obtain⟨_,_,e1,l1,_⟩:=hr;simp only[Value.slice.injEq]at e1;obtain⟨rfl,_,rfl⟩:=e1;have ho:=World.ownsRow_lit (e:=223) (size:=3) w #[] 0 (f _) (by decide) rfl;have z:∀w,(binOp .eql 175 (G (some ad) xs.length sc) (G none 0 0)).run P w=.ok (.bool false) w:=fun w=>by first|rfl|kernel_rfl|(simp only[binOp];simp[Op.equal,Op.maxDepth,Op.equalIn,run_underlying Tryz.underlying175])
  have x1:([]:List UndoD).length+xs.length≤maxLen:=by unfold maxLen;rw[List.length_nil];omega
  have x2:(([]:List UndoD).length+xs.length)*24≤140737488355328:=by rw[List.length_nil];omega
  have A:=y.size;go_enter func147,ntmps147
  go_wp2_with (at_builtin;refine z1m (K:=undoK) _ rfl _ _ 175 rfl i0 (.agg #[H Q 0,.bool false,H Q 0]) 24 Tryz.underlying175 hi D E I rfl (by decide) w.heap.size _ [] rfl ho _ xs _ rfl l1 (z7N xs) (Or.inl ⟨_,rfl⟩) x1 x2 A ?_)
  intro v' w2 d x;have C:Below w.heap.size w w2:=y.grown x A (fun k hk=>(ho.lt k hk).1);try simp only[List.nil_append]at d
  obtain⟨a2,c2,rfl⟩:=z0f d;obtain⟨o2,l2⟩:=z0y d;clear x ho l1 d
  go_wp2
  go_ret;exact⟨a2,c2,rfl,⟨o2,fun _ _=>trivial⟩,l2,C⟩
 ·have hz:xs=[]:=List.eq_nil_of_length_eq_zero hn;subst hz;have z:∀w,(binOp .eql 175 (G none 0 0) (G none 0 0)).run P w=.ok (.bool true) w:=fun w=>by first|rfl|kernel_rfl|(simp only[binOp];simp[Op.equal,Op.maxDepth,Op.equalIn,run_underlying Tryz.underlying175])
  rw[List.length_nil];go_enter func147,ntmps147
  go_wp2
  go_ret;exact⟨none,0,rfl,(Kind.own_nil _).1,fun k hk=>by simp[blk,Value.ownBlock]at hk,Below.refl _ _⟩
theorem q3h(w0:World)(v iv:Value)(ds:List DeedQ)(w:World)(h:(z55 w0).At w v ds)(af:Below w0.heap.size w0 w)(aB:∀p∈ds,p.t.F=0)(hl:ds.length≤100):
  Calls P 180 #[.agg #[v,iv]] w fun e w'=>∃v' qs,e=.returned v'∧qs.map m=ds.map DeedQ.t∧txnK.Own w' v' qs∧(txnK.fp v' qs).Nodup∧(∀k∈txnK.fp v' qs,w.heap.size≤k)∧Below w.heap.size w w':=by
 obtain⟨a,cap,rfl⟩:=h.shape;obtain⟨i0,hi,aF,aG,aH⟩:=info_parts z1y;have ai:Below w.heap.size w (w.alloc (.cells #[G a ds.length cap,iv] 144)):=by go_grown
 have BX:=Blk.new w 144 #[G a ds.length cap,iv];obtain⟨al,am⟩:=Kind.own_nil (K:=txnK) (w.alloc (.cells #[G a ds.length cap,iv] 144));have ad:Hid ((txnK.fp (G none 0 0) ([]:List TxnQ)).Nodup∧∀k∈txnK.fp (G none 0 0) ([]:List TxnQ),w.heap.size≤k):=by
  rw[am];exact⟨by simp,by simp⟩
 clear am;have x0:=BX.cell 0 _ rfl;have aL:(ds.length:Int)≤100:=by omega
 go_enter func180,ntmps180
 go_wp2
 clear x0 BX;generalize w.alloc (.cells #[G a ds.length cap,iv] 144)=WX at*;go_loopw[3,9] (fun v j wr=>∃ (k:Nat) (qs:List TxnQ),k≤ds.length∧j=H Q k∧Hid (qs.map m=(ds.take k).map DeedQ.t)∧txnK.Own wr v qs∧Hid ((txnK.fp v qs).Nodup∧∀k∈txnK.fp v qs,w.heap.size≤k)∧Below w.heap.size w wr) (fun _ j _=>ds.length-(intOf j).toNat)
 case atStart=>exact⟨0,[],n _,rfl,(rfl:_=_),al,ad,ai⟩
 case round=>
  clear ad al ai;obtain⟨k,qs,hk,rfl,HE,hO,HN,hb⟩:=hrel;obtain⟨sa,sc,rfl⟩:=hO.shape;have ae:Hid (qs.length=k):=by
   have:=congrArg List.length HE.out;rw[Va,Va,List.length_take]at this;show qs.length=k;omega
  by_cases W:k<ds.length
  ·obtain⟨b,aI,rfl,aK,hc,d⟩:=(h.below hb).cell (by show 0<6;decide) k W;have y:∀j x,((z55 w0).cells ds[k])[j]?=some x→wr.cell? ⟨b,aI+k*6+j,none⟩=some x:=hc;have c0:=y 0 (H Q ds[k].i) rfl;have c1:=y 1 (H Q ds[k].s) rfl;have c2:=y 2 (H Q ds[k].q) rfl;have c3:=y 3 (ds[k].va) rfl;have c4:=y 4 (H Q ds[k].code) rfl;have c5:=y 5 (H Q ds[k].val) rfl;skip;have aw:=aB _ (Vb W);have T:Hid (∀p':TxnQ,p'.e=DeedQ.t ds[k]→(qs++[p']).map m=(ds.take (k+1)).map DeedQ.t):=fun p' aC=>by
    rw[List.take_succ_eq_append_getElem W,List.map_append,List.map_append,HE.out,List.map_singleton,List.map_singleton,aC]
   clear hc y;generalize ds[k]=p at*;obtain⟨i,s,q,va,c,z,X,lv,us⟩:=p;replace d:actK.At w0 va c:=d;skip;have hz:=(z04 (show txnF i s q c=0 from aw)).1;have O:0<c.length:=by omega
   replace d:=d.below (af.trans (hb.mono af.size));obtain⟨aa,ac,rfl⟩:=d.shape;dsimp only[DeedQ.t]at c0 c1 c2 c3 c4 c5 T;obtain⟨ab,ao,ay⟩:∃ab ao,aa=some ⟨ab,ao,none⟩:=by
    rcases(z0Z d).2 with h0|⟨ab,ao,e,_⟩
    ·have:=z0s c;rw[h0]at this;simp at this;omega
    ·exact⟨ab,ao,e⟩
   subst ay;have L:Below wr.heap.size wr (wr.alloc (.cells #[H Q i,H Q s,H Q q,G (some ⟨ab,ao,none⟩) c.length ac,H Q z,H Q X] 298)):=by go_grown
   have BY:=Blk.new wr 298 #[H Q i,H Q s,H Q q,G (some ⟨ab,ao,none⟩) c.length ac,H Q z,H Q X];have aj:=z2H i s q ab ao ac c _ ((z0Z d).2.below L) O (by omega);rw[Nat.add_zero]at c0;replace hO:=hO.below L;replace hb:=hb.trans (L.mono hb.size);obtain⟨y0,y1,y2,y3⟩:=BY.cel4;clear HE L
   go_wp2_with fail
   clear c0 c1 c2 c3 c4 c5 y0 y1 y2 y3 BY;generalize wr.alloc (.cells #[H Q i,H Q s,H Q q,G (some ⟨ab,ao,none⟩) c.length ac,H Q z,H Q X] 298)=Y at*;have aJ:w.heap.size≤Y.heap.size:=hb.size;refine aj.mono ?_;rintro e w2 ⟨a2,c2,rfl,aq,I⟩;have Z:=hO.lt;replace hO:=hO.below I;replace hb:=hb.trans (I.mono hb.size);obtain⟨o2,ak⟩:=z0y aq;have hP:txnK.own w2 ⟨i,s,q,G a2 c.length c2,c⟩:=⟨o2,fun _ _=>trivial⟩
   have A:∀x∈txnK.foot ⟨i,s,q,G a2 c.length c2,c⟩,Y.heap.size≤x:=fun x hx=>ak x (by rw[←z1a (G a2 c.length c2) c];exact hx)
   have ah:(txnK.foot ⟨i,s,q,G a2 c.length c2,c⟩).Nodup:=by
    show(actK.fp _ _).Nodup;rw[z1a];exact z0t _
   have C:Below w2.heap.size w2 (w2.alloc (.cells #[H Q i,H Q s,H Q q,G a2 c.length c2] 158)):=by go_grown
   have U:=hO.below C;have ag:=txnK.own_out (F:=[]) hP (Out.of_below C) (fun _ _=>by simp);have J:=hb.trans (C.mono hb.size);clear aj aq hO hP ak;have E:=U.1
   go_wp2_with (at_builtin;refine wpList_append_own_at _ rfl _ _ 52 rfl 0 158 i0 (.agg #[H Q 0,H Q 0,H Q 0,G none 0 0]) 4 48 Tryz.underlying52 hi aF aG aH rfl (by decide) _ qs.length (txnK.row qs) rfl E ⟨w2.heap.size,0,none⟩ 1 1 [H Q i,H Q s,H Q q,G a2 c.length c2] rfl rfl ?c1 ?c2 ?c3 ?c4 ?c5 ?_)
   all_goals try(case c1=>intro j u hj;match j,hj with|0,hj=>simp at hj;subst hj;simp[Addr.add]|1,hj=>simp at hj;subst hj;simp[Addr.add]|2,hj=>simp at hj;subst hj;simp[Addr.add]|3,hj=>simp at hj;subst hj;simp[Addr.add])
   all_goals try(case c2=>intro u hu;simp at hu;rcases hu with rfl|rfl|rfl|rfl<;>rfl)
   all_goals try(case c3=>have:=ae.out;unfold maxLen;omega)
   all_goals try(case c4=>have:=ae.out;omega)
   all_goals try(case c5=>first|omega|simp)
   intro v' w5 N D ap V;clear ap E;rw[show w2.heap.size+1=(w2.alloc (.cells #[H Q i,H Q s,H Q q,G a2 c.length c2] 158)).heap.size from(World.size_alloc _ _).symm]at V;generalize aD:w2.alloc (.cells #[H Q i,H Q s,H Q q,G a2 c.length c2] 158)=WA at*;clear aD;have aM:Y.heap.size≤WA.heap.size:=by have:=I.size;have:=C.size;omega
   obtain⟨ax,an,M,ar⟩:=U.snoc HN.out.1 HN.out.2 ag ah (fun x hx aE=>by have:=Z x aE;have:=A x hx;omega) (fun x hx=>by have:=A x hx;omega) J.size N D V;have az:Below w.heap.size w w5:=Out.keep J ar J.size (fun x hx=>HN.out.2 x (by simp only[Kind.fp,List.mem_append];exact Or.inl hx));have au:Hid ((qs++[(⟨i,s,q,G a2 c.length c2,c⟩:TxnQ)]).map m=(ds.take (k+1)).map DeedQ.t):=T.out _ rfl;have av:Hid ((txnK.fp v' (qs++[(⟨i,s,q,G a2 c.length c2,c⟩:TxnQ)])).Nodup∧∀k∈txnK.fp v' (qs++[(⟨i,s,q,G a2 c.length c2,c⟩:TxnQ)]),w.heap.size≤k):=⟨an,M⟩
   clear T HN Z A ah ag U J N D V ar an M d hb C I O
   go_wp2
   go_roundw
   case rel=>exact⟨k+1,_,by omega,by go_num,au,ax,av,az⟩
   case measure=>simp[intOf];omega
  ·have aA:k=ds.length:=by omega
   subst aA;have hE:=HE.out;rw[List.take_length]at hE;clear HE
   go_wp2
   go_ret;exact⟨_,qs,rfl,hE,hO,HN.out.1,HN.out.2,hb⟩
theorem q3i(w0:World)(v iv:Value)(ds:List DeedQ)(w:World)(h:(z4Y w0).At w v ds)(af:Below w0.heap.size w0 w)(aB:∀p∈ds,p.t.F=0)(hl:ds.length≤100):
  Calls P 181 #[.agg #[v,iv]] w fun e w'=>∃v' qs,e=.returned v'∧qs.map m=ds.map DeedQ.t∧txnK.Own w' v' qs∧(txnK.fp v' qs).Nodup∧(∀k∈txnK.fp v' qs,w.heap.size≤k)∧Below w.heap.size w w':=by
 obtain⟨a,cap,rfl⟩:=h.shape;obtain⟨i0,hi,aG,aH,aI⟩:=info_parts z1y;have ai:Below w.heap.size w (w.alloc (.cells #[G a ds.length cap,iv] 147)):=by go_grown
 have BX:=Blk.new w 147 #[G a ds.length cap,iv];obtain⟨al,am⟩:=Kind.own_nil (K:=txnK) (w.alloc (.cells #[G a ds.length cap,iv] 147));have ad:Hid ((txnK.fp (G none 0 0) ([]:List TxnQ)).Nodup∧∀k∈txnK.fp (G none 0 0) ([]:List TxnQ),w.heap.size≤k):=by
  rw[am];exact⟨by simp,by simp⟩
 clear am;have x0:=BX.cell 0 _ rfl;have aM:(ds.length:Int)≤100:=by omega
 go_enter func181,ntmps181
 go_wp2
 clear x0 BX;generalize w.alloc (.cells #[G a ds.length cap,iv] 147)=WX at*;go_loopw[3,9] (fun v j wr=>∃ (k:Nat) (qs:List TxnQ),k≤ds.length∧j=H Q k∧Hid (qs.map m=(ds.take k).map DeedQ.t)∧txnK.Own wr v qs∧Hid ((txnK.fp v qs).Nodup∧∀k∈txnK.fp v qs,w.heap.size≤k)∧Below w.heap.size w wr) (fun _ j _=>ds.length-(intOf j).toNat)
 case atStart=>exact⟨0,[],n _,rfl,(rfl:_=_),al,ad,ai⟩
 case round=>
  clear ad al ai;obtain⟨k,qs,hk,rfl,HE,hO,HN,hb⟩:=hrel;obtain⟨sa,sc,rfl⟩:=hO.shape;have ae:Hid (qs.length=k):=by
   have:=congrArg List.length HE.out;rw[Va,Va,List.length_take]at this;show qs.length=k;omega
  by_cases W:k<ds.length
  ·obtain⟨b,aJ,rfl,aL,hc,y⟩:=(h.below hb).cell (by show 0<7;decide) k W;have d:∀j x,((z4Y w0).cells ds[k])[j]?=some x→wr.cell? ⟨b,aJ+k*7+j,none⟩=some x:=hc;have c0:=d 0 (H Q ds[k].i) rfl;have c1:=d 1 (H Q ds[k].s) rfl;have c2:=d 2 (H Q ds[k].q) rfl;have c3:=d 3 (ds[k].va) rfl;have c4:=d 4 (H Q ds[k].code) rfl;have c5:=d 5 (H Q ds[k].val) rfl;have c6:=d 6 (ds[k].lv) rfl;have aw:=aB _ (Vb W);have T:Hid (∀p':TxnQ,p'.e=DeedQ.t ds[k]→(qs++[p']).map m=(ds.take (k+1)).map DeedQ.t):=fun p' aC=>by
    rw[List.take_succ_eq_append_getElem W,List.map_append,List.map_append,HE.out,List.map_singleton,List.map_singleton,aC]
   clear hc d;generalize ds[k]=p at*;obtain⟨i,s,q,va,c,z,X,lv,us⟩:=p;obtain⟨y,aD⟩:actK.At w0 va c∧undoK.At wr lv us:=y;obtain⟨la,lc,rfl⟩:=aD.shape;have hz:=(z04 (show txnF i s q c=0 from aw)).1;have O:0<c.length:=by omega
   replace y:=y.below (af.trans (hb.mono af.size));obtain⟨aa,ac,rfl⟩:=y.shape;dsimp only[DeedQ.t]at c0 c1 c2 c3 c4 c5 T;obtain⟨ab,ao,ay⟩:∃ab ao,aa=some ⟨ab,ao,none⟩:=by
    rcases(z0Z y).2 with h0|⟨ab,ao,e,_⟩
    ·have:=z0s c;rw[h0]at this;simp at this;omega
    ·exact⟨ab,ao,e⟩
   subst ay;have L:Below wr.heap.size wr (wr.alloc (.cells #[H Q i,H Q s,H Q q,G (some ⟨ab,ao,none⟩) c.length ac,H Q z,H Q X,G la us.length lc] 258)):=by go_grown
   have BY:=Blk.new wr 258 #[H Q i,H Q s,H Q q,G (some ⟨ab,ao,none⟩) c.length ac,H Q z,H Q X,G la us.length lc];have aj:=z2H i s q ab ao ac c _ ((z0Z y).2.below L) O (by omega);rw[Nat.add_zero]at c0;replace hO:=hO.below L;replace hb:=hb.trans (L.mono hb.size);obtain⟨y0,y1,y2,y3⟩:=BY.cel4;clear HE L
   go_wp2_with fail
   clear c0 c1 c2 c3 c4 c5 c6 y0 y1 y2 y3 BY;generalize wr.alloc (.cells #[H Q i,H Q s,H Q q,G (some ⟨ab,ao,none⟩) c.length ac,H Q z,H Q X,G la us.length lc] 258)=Y at*;have aK:w.heap.size≤Y.heap.size:=hb.size;refine aj.mono ?_;rintro e w2 ⟨a2,c2,rfl,aq,I⟩;have Z:=hO.lt;replace hO:=hO.below I;replace hb:=hb.trans (I.mono hb.size);obtain⟨o2,ak⟩:=z0y aq;have hP:txnK.own w2 ⟨i,s,q,G a2 c.length c2,c⟩:=⟨o2,fun _ _=>trivial⟩
   have A:∀x∈txnK.foot ⟨i,s,q,G a2 c.length c2,c⟩,Y.heap.size≤x:=fun x hx=>ak x (by rw[←z1a (G a2 c.length c2) c];exact hx)
   have ah:(txnK.foot ⟨i,s,q,G a2 c.length c2,c⟩).Nodup:=by
    show(actK.fp _ _).Nodup;rw[z1a];exact z0t _
   have C:Below w2.heap.size w2 (w2.alloc (.cells #[H Q i,H Q s,H Q q,G a2 c.length c2] 158)):=by go_grown
   have U:=hO.below C;have ag:=txnK.own_out (F:=[]) hP (Out.of_below C) (fun _ _=>by simp);have J:=hb.trans (C.mono hb.size);clear aj aq hO hP ak;have E:=U.1
   go_wp2_with (at_builtin;refine wpList_append_own_at _ rfl _ _ 52 rfl 0 158 i0 (.agg #[H Q 0,H Q 0,H Q 0,G none 0 0]) 4 48 Tryz.underlying52 hi aG aH aI rfl (by decide) _ qs.length (txnK.row qs) rfl E ⟨w2.heap.size,0,none⟩ 1 1 [H Q i,H Q s,H Q q,G a2 c.length c2] rfl rfl ?c1 ?c2 ?c3 ?c4 ?c5 ?_)
   all_goals try(case c1=>intro j u hj;match j,hj with|0,hj=>simp at hj;subst hj;simp[Addr.add]|1,hj=>simp at hj;subst hj;simp[Addr.add]|2,hj=>simp at hj;subst hj;simp[Addr.add]|3,hj=>simp at hj;subst hj;simp[Addr.add])
   all_goals try(case c2=>intro u hu;simp at hu;rcases hu with rfl|rfl|rfl|rfl<;>rfl)
   all_goals try(case c3=>have:=ae.out;unfold maxLen;omega)
   all_goals try(case c4=>have:=ae.out;omega)
   all_goals try(case c5=>first|omega|simp)
   intro v' w5 N D ap V;clear ap E;rw[show w2.heap.size+1=(w2.alloc (.cells #[H Q i,H Q s,H Q q,G a2 c.length c2] 158)).heap.size from(World.size_alloc _ _).symm]at V;generalize aE:w2.alloc (.cells #[H Q i,H Q s,H Q q,G a2 c.length c2] 158)=WA at*;clear aE;have aN:Y.heap.size≤WA.heap.size:=by have:=I.size;have:=C.size;omega
   obtain⟨ax,an,M,ar⟩:=U.snoc HN.out.1 HN.out.2 ag ah (fun x hx aF=>by have:=Z x aF;have:=A x hx;omega) (fun x hx=>by have:=A x hx;omega) J.size N D V;have az:Below w.heap.size w w5:=Out.keep J ar J.size (fun x hx=>HN.out.2 x (by simp only[Kind.fp,List.mem_append];exact Or.inl hx));have au:Hid ((qs++[(⟨i,s,q,G a2 c.length c2,c⟩:TxnQ)]).map m=(ds.take (k+1)).map DeedQ.t):=T.out _ rfl;have av:Hid ((txnK.fp v' (qs++[(⟨i,s,q,G a2 c.length c2,c⟩:TxnQ)])).Nodup∧∀k∈txnK.fp v' (qs++[(⟨i,s,q,G a2 c.length c2,c⟩:TxnQ)]),w.heap.size≤k):=⟨an,M⟩
   clear T HN Z A ah ag U J N D V ar an M y hb C I O
   go_wp2
   go_roundw
   case rel=>exact⟨k+1,_,by omega,by go_num,au,ax,av,az⟩
   case measure=>simp[intOf];omega
  ·have aA:k=ds.length:=by omega
   subst aA;have hE:=HE.out;rw[List.take_length]at hE;clear HE
   go_wp2
   go_ret;exact⟨_,qs,rfl,hE,hO,HN.out.1,HN.out.2,hb⟩
end Go.Proofs.YtjjoahhnkpjolaaGreatDoor
