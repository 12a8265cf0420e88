/- Texts joined,with what the laws reach alone. -/
import Derived.Test.YtlkpdgjnhkjpjaaGreatDoorSCAZ
import Derived.Test.YtlkpdgjnhkjpjaaGreatDoorSCAO
set_option linter.unusedVariables false
set_option linter.unusedSimpArgs false
set_option maxRecDepth 100000
set_option maxHeartbeats 8000000
namespace Go.Proofs.YtlkpdgjnhkjpjaaGreatDoor
open Go.RowKit Go.BigFrame
theorem z3P{F:List Nat}{w:World}{b o:Nat}{v:Value}(h:w.cell? ⟨b,o,none⟩=some v)(hF:b∉F):∀u:KeepP (Out F w),u.val.cell? ⟨b,o,none⟩=some v:=fun u=>by
 have hb:=World.block_lt_of_cell? w _ h;have e:=u.isP.block b hb hF;unfold World.cell? at h⊢;simp only at h⊢;rw[e];exact h
theorem q2s(ps:List TxnQ)(k:Nat)(hk:k<ps.length):(ps.map TxnQ.e).take (k+1)=(ps.map TxnQ.e).take k++[TxnQ.e ps[k]]:=by
 rw[List.take_succ_eq_append_getElem (by simpa using hk)];simp
theorem q4S{xs:List ItemD}{t:TxnD}:nextI xs t=if(z0t xs t.acts).1=0 then runR xs t.acts else xs:=by
 unfold nextI runR;split<;>simp_all
def RecPost(w w':World)(vN iN vU iU:Value)(D E:List TxnD):Prop:=∃ (ds us:List DeedQ) (rb B0:Nat),Rec w rb B0 w' vN iN vU iU ds us (allI [] D) (allI (allI [] D) E)∧ds.map DeedQ.e4=z0I [] D∧us.map DeedQ.e4=z0I (allI [] D) E∧w.heap.size≤rb∧rb<B0
theorem Rec.other{w:World}{rb B0 g:Nat}{wr:World}{vN iN vU iU:Value}{ds us:List DeedQ}{xs ys:List ItemD}(h:Rec w rb B0 wr vN iN vU iU ds us xs ys)(hg:g<B0)(hr:rb≠g)(j:Nat)(u:Value):Rec w rb B0 (wr.setCell ⟨g,j,none⟩ u) vN iN vU iU ds us xs ys:=by
 have hO:=Out.setCell wr g j u;have nF:∀ {k},B0≤k→k∉[g]:=fun hk hm=>by simp only[List.mem_singleton]at hm;omega
 exact⟨h.B.other hr j u,z0R h.oN hO (fun k hk=>nF (h.lN k hk)),h.aN,z0R h.oU hO (fun k hk=>nF (h.lU k hk)),fun p hp=>⟨(h.aU p hp).1,(h.aU p hp).2.out hO (fun k hk=>by rw[z0E]at hk;exact nF (h.d3 p hp k hk).1)⟩,h.jN.out hO (fun k hk=>by rw[z0l]at hk;exact nF (h.d1 k hk).1),h.jU.out hO (fun k hk=>by rw[z0l]at hk;exact nF (h.d2 k hk).1),h.nu,h.lN,h.lU,h.d1,h.d2,h.d3⟩
theorem z8z(v1 v2:Value)(ps qs:List TxnQ)(w:World)(h1:txnK.At w v1 ps)(h2:txnK.At w v2 qs)(aC:∀p∈ps,(TxnQ.e p).F=0)(aD:∀p∈qs,(TxnQ.e p).F=0)(aM:ps.length≤40)(aN:qs.length≤40):
  Calls Tryz.prog 104 #[v1,v2] w fun e w'=>∃ (vN iN vU iU:Value),e=.returned (.agg #[vN,iN,vU,iU])∧RecPost w w' vN iN vU iU (ps.map TxnQ.e) (qs.map TxnQ.e)∧Below w.heap.size w w':=by
 obtain⟨a1,k1,rfl⟩:=h1.shape;obtain⟨a2,k2,rfl⟩:=h2.shape;have au:Below w.heap.size w ((w.alloc (.cells #[.slice none 0 0,.slice none 0 0,.slice none 0 0,.slice none 0 0] 157)).alloc (.cells #[.slice none 0 0,.slice none 0 0,.slice none 0 0,.slice none 0 0] 157)):=by go_grown
 have R0:=(Blk.new w 157 #[.slice none 0 0,.slice none 0 0,.slice none 0 0,.slice none 0 0]).below (w':=(w.alloc (.cells #[.slice none 0 0,.slice none 0 0,.slice none 0 0,.slice none 0 0] 157)).alloc (.cells #[.slice none 0 0,.slice none 0 0,.slice none 0 0,.slice none 0 0] 157)) (by go_grown);have B:=Blk.new (w.alloc (.cells #[.slice none 0 0,.slice none 0 0,.slice none 0 0,.slice none 0 0] 157)) 157 #[.slice none 0 0,.slice none 0 0,.slice none 0 0,.slice none 0 0];rw[World.size_alloc]at B;have V:w.heap.size+2≤((w.alloc (.cells #[.slice none 0 0,.slice none 0 0,.slice none 0 0,.slice none 0 0] 157)).alloc (.cells #[.slice none 0 0,.slice none 0 0,.slice none 0 0,.slice none 0 0] 157)).heap.size:=by simp only[World.size_alloc];omega
 have hn:∀k∈blk (Value.slice none 0 0),False:=fun k hk=>by simp[blk,Value.ownBlock]at hk
 have Rz:Rec w (w.heap.size+1) (w.heap.size+2) ((w.alloc (.cells #[.slice none 0 0,.slice none 0 0,.slice none 0 0,.slice none 0 0] 157)).alloc (.cells #[.slice none 0 0,.slice none 0 0,.slice none 0 0,.slice none 0 0] 157)) (.slice none 0 0) (.slice none 0 0) (.slice none 0 0) (.slice none 0 0) [] [] [] []:=
  ⟨B,World.ownsRow_nil _ _ _ _,fun p hp=>by simp at hp,World.ownsRow_nil _ _ _ _,fun p hp=>by simp at hp,(Kind.own_nil _).1,(Kind.own_nil _).1,fun k hk=>(hn k hk).elim,fun k hk=>(hn k hk).elim,fun k hk=>(hn k hk).elim,fun k hk=>(hn k hk).elim,fun k hk=>(hn k hk).elim,fun p hp=>by simp at hp⟩
 clear B;have aE:(ps.length:Int)≤40:=by omega
 have aF:(qs.length:Int)≤40:=by omega
 go_enter Tryz.func104,Tryz.ntmps104
 go_wp2
 generalize (w.alloc (.cells #[.slice none 0 0,.slice none 0 0,.slice none 0 0,.slice none 0 0] 157)).alloc (.cells #[.slice none 0 0,.slice none 0 0,.slice none 0 0,.slice none 0 0] 157)=W0 at*;have H0:Hid (([]:List DeedQ).map DeedQ.e4=z0I [] ((ps.map TxnQ.e).take 0)∧([]:List ItemD)=allI [] ((ps.map TxnQ.e).take 0)∧([]:List ItemD).length≤8∧Good ([]:List ItemD)):=⟨rfl,rfl,by simp,z3O⟩
 go_loopw[13] (fun j wr=>∃ (k:Nat) (vN iN:Value) (ds:List DeedQ) (xs:List ItemD),k≤ps.length∧j=.int .i64 k∧Rec w (w.heap.size+1) (w.heap.size+2) wr vN iN (.slice none 0 0) (.slice none 0 0) ds [] xs []∧Hid (ds.map DeedQ.e4=z0I [] ((ps.map TxnQ.e).take k)∧xs=allI [] ((ps.map TxnQ.e).take k)∧xs.length≤8∧Good xs)∧Blk wr w.heap.size 157 #[.slice none 0 0,.slice none 0 0,.slice none 0 0,.slice none 0 0]∧Below w.heap.size w wr∧w.heap.size+2≤wr.heap.size) (fun j _=>ps.length-(intOf j).toNat)
 case atStart=>exact⟨0,_,_,[],[],Nat.zero_le _,rfl,Rz,H0,R0,au,V⟩
 case round=>
  clear Rz H0 R0 au V hn;obtain⟨k,vN,iN,ds,xs,hk,rfl,R,HD,R0,hb,V⟩:=hrel;obtain⟨ia,ic,rfl⟩:=R.jN.shape;by_cases C:k<ps.length
  ·obtain⟨b,ao,rfl,ai,ab,d⟩:=(h1.below hb).cell (by decide) k C;have A:∀j x,(txnK.cells ps[k])[j]?=some x→wr.cell? ⟨b,ao+k*4+j,none⟩=some x:=ab;have c0:=A 0 (.int .i64 ps[k].i) rfl;have c1:=A 1 (.int .i64 ps[k].s) rfl;have c2:=A 2 (.int .i64 ps[k].q) rfl;have c3:=A 3 (ps[k].va) rfl;rw[Nat.add_zero]at c0;have J:txnK.rd w ps[k]:=h1.rdm (List.getElem_mem C);have O:=aC ps[k] (List.getElem_mem C);have W:=q2s ps k C;have aw:(k:Int)<(ps.length:Int):=by omega
   have ak:Hid (ds.length=k):=by
    have:=congrArg List.length HD.out.1;have e:∀ (xs:List ItemD) (l:List TxnD),(z0I xs l).length=l.length:=fun xs l=>by
     induction l generalizing xs with
     |nil=>rfl
     |cons t r ih=>simp[z0I,ih]
    rw[List.length_map,e,List.length_take,List.length_map]at this;show ds.length=k;omega
   clear ab A;generalize ps[k]=p at*;obtain⟨i,s,q,va,c⟩:=p;replace d:actK.At wr va c:=d;replace J:actK.At w va c:=J;obtain⟨ta,tc,rfl⟩:=d.shape;dsimp only[TxnQ.e]at c0 c1 c2 c3 O W;have y:Below wr.heap.size wr (wr.alloc (.cells #[.int .i64 i,.int .i64 s,.int .i64 q,.slice ta c.length tc] 39)):=by go_grown
   have Bt:=Blk.new wr 39 #[.int .i64 i,.int .i64 s,.int .i64 q,.slice ta c.length tc];have R1:=R.below y;replace R0:=R0.below y;replace d:=d.below y;replace hb:=hb.trans (y.mono hb.size);have L:∀x∈blk vN,x<wr.heap.size:=z0z R.oN;have aI:=y.size
   go_wp2_with fail
   clear c0 c1 c2 c3 y;generalize hX:wr.alloc (.cells #[.int .i64 i,.int .i64 s,.int .i64 q,.slice ta c.length tc] 39)=X at*;generalize hT:wr.heap.size=tb at*;clear hX R;have ah:tb∉(w.heap.size+1)::blk vN:=fun hm=>by
    rcases List.mem_cons.1 hm with e|e
    ·omega
    ·have:=L _ e;omega
   have t0:=z3P (Bt.cell 0 _ rfl) ah;have t1:=z3P (Bt.cell 1 _ rfl) ah;have t2:=z3P (Bt.cell 2 _ rfl) ah;have t3:=z3P (Bt.cell 3 _ rfl) ah;have aq:Out ((w.heap.size+1)::blk vN) X X.drew:=Out.of_below (Below.refl _ _).drew;have hW:Below X.heap.size X X.drew:=(Below.refl _ _).drew;have aH:Nonempty (KeepP (Out ((w.heap.size+1)::blk vN) X)):=⟨⟨X,Out.refl _ _⟩⟩
   refine z0e (S:=fun w'=>∃u:KeepP (Out ((w.heap.size+1)::blk vN) X),w'=u.val) (by kernel_rfl) ?_;refine sgr [(0,4),(5,1),(7,1)] 3 (by kernel_rfl) ⟨⟨_,aq⟩,rfl⟩ ?_;simp only[pkE];repeat go_big_quiet_step (fail)
   refine wpQuiet_nil ?_;clear t0 t1 t2 t3 aH;have r1:=(R1.B.below hW).cell 1 _ rfl;refine ona 4 2 rfl (by kernel_rfl) ?_
   go_wp2
   clear r1;refine ThenGo.to ⟨⟨⟨_,aq⟩,rfl⟩,?_⟩;refine cla 6 (some 23) 161 #[.slice ia xs.length ic,.agg #[.int .i64 i,.int .i64 s,.int .i64 q,.slice ta c.length tc]] 1 (by kernel_rfl) ?_;refine(q2r ia ic xs i s q ta tc c _ (R1.jN.at.below hW) (d.below hW) HD.out.2.2.1 HD.out.2.2.2 O).mono ?_;rintro e w5 ⟨ub,uc,jb,jc,rfl,ou,oi,lu,li,I⟩;have aG:∀x∈blk (.slice jb (runR xs c).length jc),X.heap.size≤x:=fun x hx=>Nat.le_trans hW.size (li x hx)
   replace hW:=hW.trans (I.mono hW.size);refine⟨_,rfl,⟨⟨_,Out.of_below hW⟩,rfl⟩,?_⟩;simp only[Act.put,pjE];have R5:=R1.below hW;have aL:=hW.size;have ae:∀x∈blk (.slice jb (runR xs c).length jc),w.heap.size+2≤x∧x∉blk vN∧x∉blk (Value.slice none 0 0):=fun x hx=>by
    have:=aG x hx;exact⟨by omega,fun e=>by have:=L x e;omega,by simp[blk,Value.ownBlock]⟩
   have al:Hid ((ds++[(⟨i,s,q,.slice ta c.length tc,c,(z0t xs c).1,runV xs c,.slice none 0 0,z0L xs c⟩:DeedQ)]).map DeedQ.e4=z0I [] ((ps.map TxnQ.e).take (k+1))∧nextI xs ⟨i,s,q,c⟩=allI [] ((ps.map TxnQ.e).take (k+1))∧(nextI xs ⟨i,s,q,c⟩).length≤8∧Good (nextI xs ⟨i,s,q,c⟩)):=by
    obtain⟨d1,d2,d3,d4⟩:=HD.out;have g:=z1e d3 d4 O;rw[W,z2T,z3N,←d2,List.map_append,d1];exact⟨rfl,rfl,g.1,g.2⟩
   have ag:=q4S (xs:=xs) (t:=⟨i,s,q,c⟩);dsimp only at ag;refine cla 8 (some 25) 160 #[.pointer (some ⟨w.heap.size+1,0,none⟩),.agg #[.int .i64 i,.int .i64 s,.int .i64 q,.slice ta c.length tc],.agg #[.int .i64 (z0t xs c).1,.int .i64 (runV xs c),.slice ub (z0L xs c).length uc,.slice jb (runR xs c).length jc],.agg #[]] 0 (by kernel_rfl) ?_;refine(q3p (w.heap.size+1) vN (.slice ia xs.length ic) (.slice none 0 0) (.slice none 0 0) ds.length _ i s q (.slice ta c.length tc) _ _ _ jb _ jc w5 R5.B R5.oN (fun e=>by have:=R5.lN _ e;omega) (by have:=ak.out;omega) rfl).mono ?_;rintro e w6 ⟨rfl,d1,B6,o6,ad,z⟩;have aJ:=z.size;refine⟨_,rfl,⟨⟨_,(Out.of_below (F:=(w.heap.size+1)::blk vN) hW).trans z⟩,rfl⟩,?_⟩;simp only[Act.put,pjE];refine z0i (by kernel_rfl) ?_;have af:itemK.Own w5 (if(z0t xs c).1=0 then .slice jb (runR xs c).length jc else .slice ia xs.length ic) (nextI xs ⟨i,s,q,c⟩):=by
    rw[ag];by_cases hc:(z0t xs c).1=0
    ·rw[if_pos hc,if_pos hc];exact oi
    ·rw[if_neg hc,if_neg hc];exact R5.jN
   have N:∀x∈blk (if(z0t xs c).1=0 then .slice jb (runR xs c).length jc else .slice ia xs.length ic),w.heap.size+2≤x∧x∉blk vN∧x∉blk (Value.slice none 0 0):=by
    by_cases hc:(z0t xs c).1=0
    ·rw[if_pos hc];exact ae
    ·rw[if_neg hc];exact R5.d1
   have R6:=R5.addN (p:=⟨i,s,q,.slice ta c.length tc,c,(z0t xs c).1,runV xs c,.slice none 0 0,z0L xs c⟩) (by omega) (by omega) J af N B6 o6 ad z;have aa:Below w.heap.size w w6:=Out.keep (hb.trans (hW.mono hb.size)) z (by omega) (fun x hx=>by
    rcases List.mem_cons.1 hx with e|e
    ·omega
    ·have:=R5.lN x e;omega)
   have Z:=(R0.below hW).outs8 z (fun hx=>by
    rcases List.mem_cons.1 hx with e|e
    ·omega
    ·have:=R5.lN _ e;omega)
   have HR:Hid (_∧_∧_∧_):=⟨R6,Z,aa,(show w.heap.size+2≤w6.heap.size by omega)⟩
   clear R6 Z aa R5 R1 R0 hb af N ae ou oi lu li I hW z ad o6 B6 d J HD
   go_wp2
   go_roundw
   case rel=>exact⟨k+1,d1,_,_,_,by omega,by go_num,HR.out.1,al,HR.out.2.1,HR.out.2.2.1,HR.out.2.2.2⟩
   case measure=>simp[intOf];omega
  ·have am:k=ps.length:=by omega
   subst am;have aw:¬((ps.length:Int)<(ps.length:Int)):=by omega
   obtain⟨T,U,az,gx⟩:=HD.out;rw[List.take_of_length_le (by simp)]at T U;have HE:Hid (ds.map DeedQ.e4=z0I [] (ps.map TxnQ.e)∧xs=allI [] (ps.map TxnQ.e)):=⟨T,U⟩
   clear HD T U C;have r1:=R.B.cell 1 _ rfl;have r3:=R.B.cell 3 _ rfl;have f3:=R.B.frozen 3;have Rs:=R.share (by omega);have ap:=R0.other (b':=w.heap.size+1) (by omega) 3 (.slice ia xs.length ic);have ai:=hb.setCell (p:=⟨w.heap.size+1,3,none⟩) (by show w.heap.size≤w.heap.size+1;omega) (.slice ia xs.length ic);have ax:w.heap.size+2≤(wr.setCell ⟨w.heap.size+1,3,none⟩ (.slice ia xs.length ic)).heap.size:=by simpa using V
   go_wp2
   clear r1 r3 f3 R R0 hb V;generalize wr.setCell ⟨w.heap.size+1,3,none⟩ (.slice ia xs.length ic)=Y at*;have H0:Hid (([]:List DeedQ).map DeedQ.e4=z0I xs ((qs.map TxnQ.e).take 0)∧xs=allI xs ((qs.map TxnQ.e).take 0)∧xs.length≤8∧Good xs):=⟨rfl,rfl,az,gx⟩
   clear az gx;go_loopw[34] (fun j wr=>∃ (k:Nat) (vU iU:Value) (us:List DeedQ) (ys:List ItemD),k≤qs.length∧j=.int .i64 k∧Rec w (w.heap.size+1) (w.heap.size+2) wr vN (.slice ia xs.length ic) vU iU ds us xs ys∧Hid (us.map DeedQ.e4=z0I xs ((qs.map TxnQ.e).take k)∧ys=allI xs ((qs.map TxnQ.e).take k)∧ys.length≤8∧Good ys)∧Blk wr w.heap.size 157 #[.slice none 0 0,.slice none 0 0,.slice none 0 0,.slice none 0 0]∧Below w.heap.size w wr∧w.heap.size+2≤wr.heap.size) (fun j _=>qs.length-(intOf j).toNat)
   case atStart=>exact⟨0,_,_,[],_,Nat.zero_le _,rfl,Rs,H0,ap,ai,ax⟩
   case round=>
    clear Rs H0 ap ai ax;obtain⟨k,vU,iU,us,ys,hk,rfl,R,HD,R0,hb,V⟩:=hrel;obtain⟨ja,jc,rfl⟩:=R.jU.shape;by_cases C:k<qs.length
    ·obtain⟨b,ao,rfl,ai,ab,d⟩:=(h2.below hb).cell (by decide) k C;have A:∀j x,(txnK.cells qs[k])[j]?=some x→wr.cell? ⟨b,ao+k*4+j,none⟩=some x:=ab;have c0:=A 0 (.int .i64 qs[k].i) rfl;have c1:=A 1 (.int .i64 qs[k].s) rfl;have c2:=A 2 (.int .i64 qs[k].q) rfl;have c3:=A 3 (qs[k].va) rfl;rw[Nat.add_zero]at c0;have J:txnK.rd w qs[k]:=h2.rdm (List.getElem_mem C);have O:=aD qs[k] (List.getElem_mem C);have W:=q2s qs k C;have an:(k:Int)<(qs.length:Int):=by omega
     have ak:Hid (us.length=k):=by
      have:=congrArg List.length HD.out.1;have e:∀ (xs:List ItemD) (l:List TxnD),(z0I xs l).length=l.length:=fun xs l=>by
       induction l generalizing xs with
       |nil=>rfl
       |cons t r ih=>simp[z0I,ih]
      rw[List.length_map,e,List.length_take,List.length_map]at this;show us.length=k;omega
     clear ab A;generalize qs[k]=p at*;obtain⟨i,s,q,va,c⟩:=p;replace d:actK.At wr va c:=d;replace J:actK.At w va c:=J;obtain⟨ta,tc,rfl⟩:=d.shape;dsimp only[TxnQ.e]at c0 c1 c2 c3 O W;have y:Below wr.heap.size wr (wr.alloc (.cells #[.int .i64 i,.int .i64 s,.int .i64 q,.slice ta c.length tc] 39)):=by go_grown
     have Bt:=Blk.new wr 39 #[.int .i64 i,.int .i64 s,.int .i64 q,.slice ta c.length tc];have R1:=R.below y;replace R0:=R0.below y;replace d:=d.below y;replace hb:=hb.trans (y.mono hb.size);have L:∀x∈blk vN,x<wr.heap.size:=z0z R.oN;have aj:∀x∈blk vU,x<wr.heap.size:=z0z R.oU;have aI:=y.size;obtain⟨x0,x1,x2,x3⟩:=Bt.cel4;have r3:=R1.B.cell 3 _ rfl;have av:=q2r ja jc ys i s q ta tc c _ R1.jU.at d HD.out.2.2.1 HD.out.2.2.2 O
     go_wp2_with fail
     clear c0 c1 c2 c3 y x0 x1 x2 x3 r3;generalize hX:wr.alloc (.cells #[.int .i64 i,.int .i64 s,.int .i64 q,.slice ta c.length tc] 39)=X at*;generalize hT:wr.heap.size=tb at*;clear hX R;refine av.mono ?_;rintro e w5 ⟨ub,uc,jb,jd,rfl,ou,oi,lu,li,I⟩;clear av;have M:Below w5.heap.size w5 (w5.alloc (.cells #[.int .i64 (z0t ys c).1,.int .i64 (runV ys c),.slice ub (z0L ys c).length uc,.slice jb (runR ys c).length jd] 228)):=by go_grown
     have Bu:=Blk.new w5 228 #[.int .i64 (z0t ys c).1,.int .i64 (runV ys c),.slice ub (z0L ys c).length uc,.slice jb (runR ys c).length jd];have aO:=I.size;have aJ:=M.size;have R5:=(R1.below I).below M;replace R0:=(R0.below I).below M;replace hb:=(hb.trans (I.mono hb.size))
     replace hb:=hb.trans (M.mono hb.size);replace Bt:=(Bt.below I).below M;replace ou:=ou.below M;replace oi:=oi.below M;obtain⟨x0,x1,x2,x3⟩:=Bt.cel4;obtain⟨y0,y1,y2,y3⟩:=Bu.cel4;have ae:∀x∈blk (.slice jb (runR ys c).length jd),w.heap.size+2≤x∧x∉blk vN∧x∉blk vU:=fun x hx=>by
      have:=li x hx;exact⟨by omega,fun e=>by have:=L x e;omega,fun e=>by have:=aj x e;omega⟩
     have ay:∀x∈blk (.slice ub (z0L ys c).length uc),w.heap.size+2≤x∧x∉blk vN∧x∉blk vU:=fun x hx=>by
      have:=lu x hx;exact⟨by omega,fun e=>by have:=L x e;omega,fun e=>by have:=aj x e;omega⟩
     have al:Hid ((us++[(⟨i,s,q,.slice ta c.length tc,c,(z0t ys c).1,runV ys c,.slice ub (z0L ys c).length uc,z0L ys c⟩:DeedQ)]).map DeedQ.e4=z0I xs ((qs.map TxnQ.e).take (k+1))∧nextI ys ⟨i,s,q,c⟩=allI xs ((qs.map TxnQ.e).take (k+1))∧(nextI ys ⟨i,s,q,c⟩).length≤8∧Good (nextI ys ⟨i,s,q,c⟩)):=by
      obtain⟨d1,d2,d3,d4⟩:=HD.out;have g:=z1e d3 d4 O;rw[W,z2T,z3N,←d2,List.map_append,d1];exact⟨rfl,rfl,g.1,g.2⟩
     have ag:=q4S (xs:=ys) (t:=⟨i,s,q,c⟩);dsimp only at ag;have ar:=q3q (w.heap.size+1) vU (.slice ja ys.length jc) vN (.slice ia xs.length ic) us.length _ i s q (.slice ta c.length tc) (z0t ys c).1 (runV ys c) (.slice ub (z0L ys c).length uc) jb (runR ys c).length jd ub (z0L ys c).length uc _ R5.B R5.oU (fun e=>by have:=R5.lU _ e;omega) (by have:=ak.out;omega) rfl
     go_wp2_with fail
     clear x0 x1 x2 x3 y0 y1 y2 y3 Bt Bu M I;generalize w5.alloc (.cells #[.int .i64 (z0t ys c).1,.int .i64 (runV ys c),.slice ub (z0L ys c).length uc,.slice jb (runR ys c).length jd] 228)=aK at*;refine ar.mono ?_;rintro e w6 ⟨rfl,d1,B6,o6,ad,z⟩;have aP:=z.size;have af:itemK.Own aK (if(z0t ys c).1=0 then .slice jb (runR ys c).length jd else .slice ja ys.length jc) (nextI ys ⟨i,s,q,c⟩):=by
      rw[ag];by_cases hc:(z0t ys c).1=0
      ·rw[if_pos hc,if_pos hc];exact oi
      ·rw[if_neg hc,if_neg hc];exact R5.jU
     have N:∀x∈blk (if(z0t ys c).1=0 then .slice jb (runR ys c).length jd else .slice ja ys.length jc),w.heap.size+2≤x∧x∉blk vN∧x∉blk vU:=by
      by_cases hc:(z0t ys c).1=0
      ·rw[if_pos hc];exact ae
      ·rw[if_neg hc];exact R5.d2
     have R6:=R5.addU (p:=⟨i,s,q,.slice ta c.length tc,c,(z0t ys c).1,runV ys c,.slice ub (z0L ys c).length uc,z0L ys c⟩) (by omega) (by omega) J ou ay af N B6 o6 ad z;have aa:Below w.heap.size w w6:=Out.keep hb z (by omega) (fun x hx=>by
      rcases List.mem_cons.1 hx with e|e
      ·omega
      ·have:=R5.lU x e;omega)
     have Z:=R0.outs8 z (fun hx=>by
      rcases List.mem_cons.1 hx with e|e
      ·omega
      ·have:=R5.lU _ e;omega)
     have HR:Hid (_∧_∧_∧_):=⟨R6,Z,aa,(show w.heap.size+2≤w6.heap.size by omega)⟩
     clear R6 Z aa R5 R1 R0 hb af N ae ay ou oi lu li z ad o6 B6 d J HD ar
     go_wp2
     go_roundw
     case rel=>exact⟨k+1,d1,_,_,_,by omega,by go_num,HR.out.1,al,HR.out.2.1,HR.out.2.2.1,HR.out.2.2.2⟩
     case measure=>simp[intOf];omega
    ·have am:k=qs.length:=by omega
     subst am;have an:¬((qs.length:Int)<(qs.length:Int)):=by omega
     obtain⟨T,U,_,_⟩:=HD.out;rw[List.take_of_length_le (by simp)]at T U;obtain⟨aA,aB⟩:=HE.out;subst aB;subst U;clear HD HE C;have r0:=R.B.cell 0 _ rfl;have r1:=R.B.cell 1 _ rfl;have r2:=R.B.cell 2 _ rfl;have r3:=R.B.cell 3 _ rfl;obtain⟨z0,z1,z2,z3⟩:=R0.cel4;obtain⟨g0,g1,g2,g3⟩:=R0.frz4;obtain⟨na,nc,rfl⟩:=z0g R.oN;obtain⟨ua,uc,rfl⟩:=z0g R.oU;have RF:Hid (∀u0 u1 u2 u3:Value,Rec w (w.heap.size+1) (w.heap.size+2) ((((wr.setCell ⟨w.heap.size,0,none⟩ u0).setCell ⟨w.heap.size,1,none⟩ u1).setCell ⟨w.heap.size,2,none⟩ u2).setCell ⟨w.heap.size,3,none⟩ u3) _ _ _ _ ds us _ _∧Below w.heap.size w ((((wr.setCell ⟨w.heap.size,0,none⟩ u0).setCell ⟨w.heap.size,1,none⟩ u1).setCell ⟨w.heap.size,2,none⟩ u2).setCell ⟨w.heap.size,3,none⟩ u3)):=fun u0 u1 u2 u3=>
      ⟨(((R.other (by omega) (by omega) 0 u0).other (by omega) (by omega) 1 u1).other (by omega) (by omega) 2 u2).other (by omega) (by omega) 3 u3,(((hb.setCell (p:=⟨w.heap.size,0,none⟩) (Nat.le_refl _) u0).setCell (p:=⟨w.heap.size,1,none⟩) (Nat.le_refl _) u1).setCell (p:=⟨w.heap.size,2,none⟩) (Nat.le_refl _) u2).setCell (p:=⟨w.heap.size,3,none⟩) (Nat.le_refl _) u3⟩
     clear R R0
     go_wp2
     exact bodyPost_ret (v:=.agg #[.slice na ds.length nc,_,.slice ua us.length uc,_]) (by simp[results,Tryz.results104,go_sem,z0,z1,z2,z3]) rfl ⟨_,_,_,_,rfl,⟨ds,us,w.heap.size+1,w.heap.size+2,(RF.out _ _ _ _).1,aA,T,by omega,by omega⟩,(RF.out _ _ _ _).2⟩
theorem z7s(zs:List UndoD):∀u∈z0m zs,u.oneCell'=true:=by
 intro u hu;obtain⟨z,_,hz⟩:=List.mem_flatMap.1 hu;simp only[UndoD.cells,List.mem_cons,List.not_mem_nil,or_false]at hz;rcases hz with rfl|rfl|rfl<;>rfl
theorem z1r(sa:Option Addr)(sc:Nat)(xs:List ItemD)(w:World)(h:itemK.At w (.slice sa xs.length sc) xs)(hN:z6a sa xs.length sc)(hl:xs.length≤1048576):
  Calls Tryz.prog 165 #[.slice sa xs.length sc] w fun e w'=>∃a c,e=.returned (.slice a xs.length c)∧itemK.Own w' (.slice a xs.length c) xs∧(∀k∈blk (.slice a xs.length c),w.heap.size≤k)∧Below w.heap.size w w':=by
 rcases hN with⟨ad,rfl⟩|⟨rfl,hn,rfl⟩
 ·obtain⟨i0,hi,I,J,L⟩:=info_parts z1h;have y:Below w.heap.size w (w.alloc (.cells #[] 119)):=by go_grown
  have hr:=(h.below y)
  obtain⟨_,_,e1,l1,_⟩:=hr;simp only[Value.slice.injEq]at e1;obtain⟨rfl,_,rfl⟩:=e1;have ho:=World.ownsRow_lit (e:=119) (size:=2) w #[] 0 (Nat.le_refl _) (by decide) rfl;have z:∀w,(binOp .eql 26 (.slice (some ad) xs.length sc) (.slice none 0 0)).run Tryz.prog w=.ok (.bool false) w:=fun w=>by first|rfl|kernel_rfl|(simp only[binOp];simp[Op.equal,Op.maxDepth,Op.equalIn,run_underlying Tryz.underlying26])
  have x1:([]:List ItemD).length+xs.length≤maxLen:=by unfold maxLen;rw[List.length_nil];omega
  have x2:(([]:List ItemD).length+xs.length)*16≤140737488355328:=by rw[List.length_nil];omega
  have A:=y.size;go_enter Tryz.func165,Tryz.ntmps165
  go_wp2_with (at_builtin;refine z1d (K:=itemK) _ rfl _ _ 26 rfl i0 (.agg #[.int .i64 0,.int .i64 0]) 16 Tryz.underlying26 hi I J L rfl (by decide) w.heap.size _ [] rfl ho _ xs _ rfl l1 (z1k xs) (Or.inl ⟨_,rfl⟩) x1 x2 A ?_)
  intro v' w2 d x;have C:Below w.heap.size w w2:=y.grown x A (fun k hk=>(ho.lt k hk).1);try simp only[List.nil_append]at d
  obtain⟨a2,c2,rfl⟩:=z0g d;obtain⟨o2,l2⟩:=z0u d;clear x ho l1 d
  go_wp2
  go_ret;exact⟨a2,c2,rfl,⟨o2,fun _ _=>trivial⟩,l2,C⟩
 ·have hz:xs=[]:=List.eq_nil_of_length_eq_zero hn;subst hz;have z:∀w,(binOp .eql 26 (.slice none 0 0) (.slice none 0 0)).run Tryz.prog w=.ok (.bool true) w:=fun w=>by first|rfl|kernel_rfl|(simp only[binOp];simp[Op.equal,Op.maxDepth,Op.equalIn,run_underlying Tryz.underlying26])
  rw[List.length_nil];go_enter Tryz.func165,Tryz.ntmps165
  go_wp2
  go_ret;exact⟨none,0,rfl,(Kind.own_nil _).1,fun k hk=>by simp[blk,Value.ownBlock]at hk,Below.refl _ _⟩
theorem z3e(sa:Option Addr)(sc:Nat)(xs:List UndoD)(w:World)(h:undoK.At w (.slice sa xs.length sc) xs)(hN:z6a sa xs.length sc)(hl:xs.length≤1048576):
  Calls Tryz.prog 167 #[.slice sa xs.length sc] w fun e w'=>∃a c,e=.returned (.slice a xs.length c)∧undoK.Own w' (.slice a xs.length c) xs∧(∀k∈blk (.slice a xs.length c),w.heap.size≤k)∧Below w.heap.size w w':=by
 rcases hN with⟨ad,rfl⟩|⟨rfl,hn,rfl⟩
 ·obtain⟨i0,hi,I,J,L⟩:=info_parts z4P;have y:Below w.heap.size w (w.alloc (.cells #[] 235)):=by go_grown
  have hr:=(h.below y)
  obtain⟨_,_,e1,l1,_⟩:=hr;simp only[Value.slice.injEq]at e1;obtain⟨rfl,_,rfl⟩:=e1;have ho:=World.ownsRow_lit (e:=235) (size:=3) w #[] 0 (Nat.le_refl _) (by decide) rfl;have z:∀w,(binOp .eql 160 (.slice (some ad) xs.length sc) (.slice none 0 0)).run Tryz.prog w=.ok (.bool false) w:=fun w=>by first|rfl|kernel_rfl|(simp only[binOp];simp[Op.equal,Op.maxDepth,Op.equalIn,run_underlying Tryz.underlying160])
  have x1:([]:List UndoD).length+xs.length≤maxLen:=by unfold maxLen;rw[List.length_nil];omega
  have x2:(([]:List UndoD).length+xs.length)*24≤140737488355328:=by rw[List.length_nil];omega
  have A:=y.size;go_enter Tryz.func167,Tryz.ntmps167
  go_wp2_with (at_builtin;refine z1d (K:=undoK) _ rfl _ _ 160 rfl i0 (.agg #[.int .i64 0,.bool false,.int .i64 0]) 24 Tryz.underlying160 hi I J L rfl (by decide) w.heap.size _ [] rfl ho _ xs _ rfl l1 (z7s xs) (Or.inl ⟨_,rfl⟩) x1 x2 A ?_)
  intro v' w2 d x;have C:Below w.heap.size w w2:=y.grown x A (fun k hk=>(ho.lt k hk).1);try simp only[List.nil_append]at d
  obtain⟨a2,c2,rfl⟩:=z0g d;obtain⟨o2,l2⟩:=z0u d;clear x ho l1 d
  go_wp2
  go_ret;exact⟨a2,c2,rfl,⟨o2,fun _ _=>trivial⟩,l2,C⟩
 ·have hz:xs=[]:=List.eq_nil_of_length_eq_zero hn;subst hz;have z:∀w,(binOp .eql 160 (.slice none 0 0) (.slice none 0 0)).run Tryz.prog w=.ok (.bool true) w:=fun w=>by first|rfl|kernel_rfl|(simp only[binOp];simp[Op.equal,Op.maxDepth,Op.equalIn,run_underlying Tryz.underlying160])
  rw[List.length_nil];go_enter Tryz.func167,Tryz.ntmps167
  go_wp2
  go_ret;exact⟨none,0,rfl,(Kind.own_nil _).1,fun k hk=>by simp[blk,Value.ownBlock]at hk,Below.refl _ _⟩
theorem q2t(w0:World)(v iv:Value)(ds:List DeedQ)(w:World)(h:(z5G w0).At w v ds)(ah:Below w0.heap.size w0 w)(aD:∀p∈ds,p.t.F=0)(hl:ds.length≤100):
  Calls Tryz.prog 164 #[.agg #[v,iv]] w fun e w'=>∃v' qs,e=.returned v'∧qs.map TxnQ.e=ds.map DeedQ.t∧txnK.Own w' v' qs∧(txnK.fp v' qs).Nodup∧(∀k∈txnK.fp v' qs,w.heap.size≤k)∧Below w.heap.size w w':=by
 obtain⟨a,cap,rfl⟩:=h.shape;obtain⟨i0,hi,aH,aI,aJ⟩:=info_parts z1p;have ak:Below w.heap.size w (w.alloc (.cells #[.slice a ds.length cap,iv] 152)):=by go_grown
 have BX:=Blk.new w 152 #[.slice a ds.length cap,iv];obtain⟨an,ap⟩:=Kind.own_nil (K:=txnK) (w.alloc (.cells #[.slice a ds.length cap,iv] 152));have af:Hid ((txnK.fp (.slice none 0 0) ([]:List TxnQ)).Nodup∧∀k∈txnK.fp (.slice none 0 0) ([]:List TxnQ),w.heap.size≤k):=by
  rw[ap];exact⟨by simp,by simp⟩
 clear ap;have x0:=BX.cell 0 _ rfl;have aN:(ds.length:Int)≤100:=by omega
 go_enter Tryz.func164,Tryz.ntmps164
 go_wp2
 clear x0 BX;generalize w.alloc (.cells #[.slice a ds.length cap,iv] 152)=WX at*;go_loopw[3,9] (fun v j wr=>∃ (k:Nat) (qs:List TxnQ),k≤ds.length∧j=.int .i64 k∧Hid (qs.map TxnQ.e=(ds.take k).map DeedQ.t)∧txnK.Own wr v qs∧Hid ((txnK.fp v qs).Nodup∧∀k∈txnK.fp v qs,w.heap.size≤k)∧Below w.heap.size w wr) (fun _ j _=>ds.length-(intOf j).toNat)
 case atStart=>exact⟨0,[],Nat.zero_le _,rfl,(rfl:_=_),an,af,ak⟩
 case round=>
  clear af an ak;obtain⟨k,qs,hk,rfl,HE,hO,HN,hb⟩:=hrel;obtain⟨sa,sc,rfl⟩:=hO.shape;have ag:Hid (qs.length=k):=by
   have:=congrArg List.length HE.out;rw[List.length_map,List.length_map,List.length_take]at this;show qs.length=k;omega
  by_cases Z:k<ds.length
  ·obtain⟨b,aK,rfl,aM,hc,d⟩:=(h.below hb).cell (by show 0<6;decide) k Z;have y:∀j x,((z5G w0).cells ds[k])[j]?=some x→wr.cell? ⟨b,aK+k*6+j,none⟩=some x:=hc;have c0:=y 0 (.int .i64 ds[k].i) rfl;have c1:=y 1 (.int .i64 ds[k].s) rfl;have c2:=y 2 (.int .i64 ds[k].q) rfl;have c3:=y 3 (ds[k].va) rfl;have c4:=y 4 (.int .i64 ds[k].code) rfl;have c5:=y 5 (.int .i64 ds[k].val) rfl;skip;have ay:=aD _ (List.getElem_mem Z);have V:Hid (∀p':TxnQ,p'.e=DeedQ.t ds[k]→(qs++[p']).map TxnQ.e=(ds.take (k+1)).map DeedQ.t):=fun p' aE=>by
    rw[List.take_succ_eq_append_getElem Z,List.map_append,List.map_append,HE.out,List.map_singleton,List.map_singleton,aE]
   clear hc y;generalize ds[k]=p at*;obtain⟨i,s,q,va,c,z,ad,lv,us⟩:=p;replace d:actK.At w0 va c:=d;skip;have hz:=(z0W (show txnF i s q c=0 from ay)).1;have U:0<c.length:=by omega
   replace d:=d.below (ah.trans (hb.mono ah.size));obtain⟨aa,ac,rfl⟩:=d.shape;dsimp only[DeedQ.t]at c0 c1 c2 c3 c4 c5 V;obtain⟨ab,ao,aA⟩:∃ab ao,aa=some ⟨ab,ao,none⟩:=by
    rcases(z0T d).2 with h0|⟨ab,ao,e,_⟩
    ·have:=z0q c;rw[h0]at this;simp at this;omega
    ·exact⟨ab,ao,e⟩
   subst aA;have N:Below wr.heap.size wr (wr.alloc (.cells #[.int .i64 i,.int .i64 s,.int .i64 q,.slice (some ⟨ab,ao,none⟩) c.length ac,.int .i64 z,.int .i64 ad] 307)):=by go_grown
   have BY:=Blk.new wr 307 #[.int .i64 i,.int .i64 s,.int .i64 q,.slice (some ⟨ab,ao,none⟩) c.length ac,.int .i64 z,.int .i64 ad];have al:=z2t i s q ab ao ac c _ ((z0T d).2.below N) U (by omega);rw[Nat.add_zero]at c0;replace hO:=hO.below N;replace hb:=hb.trans (N.mono hb.size);obtain⟨y0,y1,y2,y3⟩:=BY.cel4;clear HE N
   go_wp2_with fail
   clear c0 c1 c2 c3 c4 c5 y0 y1 y2 y3 BY;generalize wr.alloc (.cells #[.int .i64 i,.int .i64 s,.int .i64 q,.slice (some ⟨ab,ao,none⟩) c.length ac,.int .i64 z,.int .i64 ad] 307)=Y at*;have aL:w.heap.size≤Y.heap.size:=hb.size;refine al.mono ?_;rintro e w2 ⟨a2,c2,rfl,au,L⟩;have ae:=hO.lt;replace hO:=hO.below L;replace hb:=hb.trans (L.mono hb.size);obtain⟨o2,am⟩:=z0u au;have hP:txnK.own w2 ⟨i,s,q,.slice a2 c.length c2,c⟩:=⟨o2,fun _ _=>trivial⟩
   have A:∀x∈txnK.foot ⟨i,s,q,.slice a2 c.length c2,c⟩,Y.heap.size≤x:=fun x hx=>am x (by rw[←z03 (.slice a2 c.length c2) c];exact hx)
   have aj:(txnK.foot ⟨i,s,q,.slice a2 c.length c2,c⟩).Nodup:=by
    show(actK.fp _ _).Nodup;rw[z03];exact z0r _
   have C:Below w2.heap.size w2 (w2.alloc (.cells #[.int .i64 i,.int .i64 s,.int .i64 q,.slice a2 c.length c2] 39)):=by go_grown
   have W:=hO.below C;have ai:=txnK.own_out (F:=[]) hP (Out.of_below C) (fun _ _=>by simp);have M:=hb.trans (C.mono hb.size);clear al au hO hP am;have J:=W.1
   go_wp2_with (at_builtin;refine wpList_append_own_at _ rfl _ _ 25 rfl 0 39 i0 (.agg #[.int .i64 0,.int .i64 0,.int .i64 0,.slice none 0 0]) 4 48 Tryz.underlying25 hi aH aI aJ rfl (by decide) _ qs.length (txnK.row qs) rfl J ⟨w2.heap.size,0,none⟩ 1 1 [.int .i64 i,.int .i64 s,.int .i64 q,.slice a2 c.length c2] rfl rfl ?c1 ?c2 ?c3 ?c4 ?c5 ?_)
   all_goals try(case c1=>intro j u hj;match j,hj with|0,hj=>simp at hj;subst hj;simp[Addr.add]|1,hj=>simp at hj;subst hj;simp[Addr.add]|2,hj=>simp at hj;subst hj;simp[Addr.add]|3,hj=>simp at hj;subst hj;simp[Addr.add])
   all_goals try(case c2=>intro u hu;simp at hu;rcases hu with rfl|rfl|rfl|rfl<;>rfl)
   all_goals try(case c3=>have:=ag.out;unfold maxLen;omega)
   all_goals try(case c4=>have:=ag.out;omega)
   all_goals try(case c5=>first|omega|simp)
   intro v' w5 T I ar X;clear ar J;rw[show w2.heap.size+1=(w2.alloc (.cells #[.int .i64 i,.int .i64 s,.int .i64 q,.slice a2 c.length c2] 39)).heap.size from(World.size_alloc _ _).symm]at X;generalize aF:w2.alloc (.cells #[.int .i64 i,.int .i64 s,.int .i64 q,.slice a2 c.length c2] 39)=WA at*;clear aF;have aO:Y.heap.size≤WA.heap.size:=by have:=L.size;have:=C.size;omega
   obtain⟨az,aq,O,av⟩:=W.snoc HN.out.1 HN.out.2 ai aj (fun x hx aG=>by have:=ae x aG;have:=A x hx;omega) (fun x hx=>by have:=A x hx;omega) M.size T I X;have aB:Below w.heap.size w w5:=Out.keep M av M.size (fun x hx=>HN.out.2 x (by simp only[Kind.fp,List.mem_append];exact Or.inl hx));have aw:Hid ((qs++[(⟨i,s,q,.slice a2 c.length c2,c⟩:TxnQ)]).map TxnQ.e=(ds.take (k+1)).map DeedQ.t):=V.out _ rfl;have ax:Hid ((txnK.fp v' (qs++[(⟨i,s,q,.slice a2 c.length c2,c⟩:TxnQ)])).Nodup∧∀k∈txnK.fp v' (qs++[(⟨i,s,q,.slice a2 c.length c2,c⟩:TxnQ)]),w.heap.size≤k):=⟨aq,O⟩
   clear V HN ae A aj ai W M T I X av aq O d hb C L U
   go_wp2
   go_roundw
   case rel=>exact⟨k+1,_,by omega,by go_num,aw,az,ax,aB⟩
   case measure=>simp[intOf];omega
  ·have aC:k=ds.length:=by omega
   subst aC;have hE:=HE.out;rw[List.take_length]at hE;clear HE
   go_wp2
   go_ret;exact⟨_,qs,rfl,hE,hO,HN.out.1,HN.out.2,hb⟩
theorem q2u(w0:World)(v iv:Value)(ds:List DeedQ)(w:World)(h:(z4A w0).At w v ds)(ah:Below w0.heap.size w0 w)(aD:∀p∈ds,p.t.F=0)(hl:ds.length≤100):
  Calls Tryz.prog 166 #[.agg #[v,iv]] w fun e w'=>∃v' qs,e=.returned v'∧qs.map TxnQ.e=ds.map DeedQ.t∧txnK.Own w' v' qs∧(txnK.fp v' qs).Nodup∧(∀k∈txnK.fp v' qs,w.heap.size≤k)∧Below w.heap.size w w':=by
 obtain⟨a,cap,rfl⟩:=h.shape;obtain⟨i0,hi,aI,aJ,aK⟩:=info_parts z1p;have ak:Below w.heap.size w (w.alloc (.cells #[.slice a ds.length cap,iv] 155)):=by go_grown
 have BX:=Blk.new w 155 #[.slice a ds.length cap,iv];obtain⟨an,ap⟩:=Kind.own_nil (K:=txnK) (w.alloc (.cells #[.slice a ds.length cap,iv] 155));have af:Hid ((txnK.fp (.slice none 0 0) ([]:List TxnQ)).Nodup∧∀k∈txnK.fp (.slice none 0 0) ([]:List TxnQ),w.heap.size≤k):=by
  rw[ap];exact⟨by simp,by simp⟩
 clear ap;have x0:=BX.cell 0 _ rfl;have aO:(ds.length:Int)≤100:=by omega
 go_enter Tryz.func166,Tryz.ntmps166
 go_wp2
 clear x0 BX;generalize w.alloc (.cells #[.slice a ds.length cap,iv] 155)=WX at*;go_loopw[3,9] (fun v j wr=>∃ (k:Nat) (qs:List TxnQ),k≤ds.length∧j=.int .i64 k∧Hid (qs.map TxnQ.e=(ds.take k).map DeedQ.t)∧txnK.Own wr v qs∧Hid ((txnK.fp v qs).Nodup∧∀k∈txnK.fp v qs,w.heap.size≤k)∧Below w.heap.size w wr) (fun _ j _=>ds.length-(intOf j).toNat)
 case atStart=>exact⟨0,[],Nat.zero_le _,rfl,(rfl:_=_),an,af,ak⟩
 case round=>
  clear af an ak;obtain⟨k,qs,hk,rfl,HE,hO,HN,hb⟩:=hrel;obtain⟨sa,sc,rfl⟩:=hO.shape;have ag:Hid (qs.length=k):=by
   have:=congrArg List.length HE.out;rw[List.length_map,List.length_map,List.length_take]at this;show qs.length=k;omega
  by_cases Z:k<ds.length
  ·obtain⟨b,aL,rfl,aN,hc,y⟩:=(h.below hb).cell (by show 0<7;decide) k Z;have d:∀j x,((z4A w0).cells ds[k])[j]?=some x→wr.cell? ⟨b,aL+k*7+j,none⟩=some x:=hc;have c0:=d 0 (.int .i64 ds[k].i) rfl;have c1:=d 1 (.int .i64 ds[k].s) rfl;have c2:=d 2 (.int .i64 ds[k].q) rfl;have c3:=d 3 (ds[k].va) rfl;have c4:=d 4 (.int .i64 ds[k].code) rfl;have c5:=d 5 (.int .i64 ds[k].val) rfl;have c6:=d 6 (ds[k].lv) rfl;have ay:=aD _ (List.getElem_mem Z);have V:Hid (∀p':TxnQ,p'.e=DeedQ.t ds[k]→(qs++[p']).map TxnQ.e=(ds.take (k+1)).map DeedQ.t):=fun p' aE=>by
    rw[List.take_succ_eq_append_getElem Z,List.map_append,List.map_append,HE.out,List.map_singleton,List.map_singleton,aE]
   clear hc d;generalize ds[k]=p at*;obtain⟨i,s,q,va,c,z,ad,lv,us⟩:=p;obtain⟨y,aF⟩:actK.At w0 va c∧undoK.At wr lv us:=y;obtain⟨la,lc,rfl⟩:=aF.shape;have hz:=(z0W (show txnF i s q c=0 from ay)).1;have U:0<c.length:=by omega
   replace y:=y.below (ah.trans (hb.mono ah.size));obtain⟨aa,ac,rfl⟩:=y.shape;dsimp only[DeedQ.t]at c0 c1 c2 c3 c4 c5 V;obtain⟨ab,ao,aA⟩:∃ab ao,aa=some ⟨ab,ao,none⟩:=by
    rcases(z0T y).2 with h0|⟨ab,ao,e,_⟩
    ·have:=z0q c;rw[h0]at this;simp at this;omega
    ·exact⟨ab,ao,e⟩
   subst aA;have N:Below wr.heap.size wr (wr.alloc (.cells #[.int .i64 i,.int .i64 s,.int .i64 q,.slice (some ⟨ab,ao,none⟩) c.length ac,.int .i64 z,.int .i64 ad,.slice la us.length lc] 162)):=by go_grown
   have BY:=Blk.new wr 162 #[.int .i64 i,.int .i64 s,.int .i64 q,.slice (some ⟨ab,ao,none⟩) c.length ac,.int .i64 z,.int .i64 ad,.slice la us.length lc];have al:=z2t i s q ab ao ac c _ ((z0T y).2.below N) U (by omega);rw[Nat.add_zero]at c0;replace hO:=hO.below N;replace hb:=hb.trans (N.mono hb.size);obtain⟨y0,y1,y2,y3⟩:=BY.cel4;clear HE N
   go_wp2_with fail
   clear c0 c1 c2 c3 c4 c5 c6 y0 y1 y2 y3 BY;generalize wr.alloc (.cells #[.int .i64 i,.int .i64 s,.int .i64 q,.slice (some ⟨ab,ao,none⟩) c.length ac,.int .i64 z,.int .i64 ad,.slice la us.length lc] 162)=Y at*;have aM:w.heap.size≤Y.heap.size:=hb.size;refine al.mono ?_;rintro e w2 ⟨a2,c2,rfl,au,L⟩;have ae:=hO.lt;replace hO:=hO.below L;replace hb:=hb.trans (L.mono hb.size);obtain⟨o2,am⟩:=z0u au;have hP:txnK.own w2 ⟨i,s,q,.slice a2 c.length c2,c⟩:=⟨o2,fun _ _=>trivial⟩
   have A:∀x∈txnK.foot ⟨i,s,q,.slice a2 c.length c2,c⟩,Y.heap.size≤x:=fun x hx=>am x (by rw[←z03 (.slice a2 c.length c2) c];exact hx)
   have aj:(txnK.foot ⟨i,s,q,.slice a2 c.length c2,c⟩).Nodup:=by
    show(actK.fp _ _).Nodup;rw[z03];exact z0r _
   have C:Below w2.heap.size w2 (w2.alloc (.cells #[.int .i64 i,.int .i64 s,.int .i64 q,.slice a2 c.length c2] 39)):=by go_grown
   have W:=hO.below C;have ai:=txnK.own_out (F:=[]) hP (Out.of_below C) (fun _ _=>by simp);have M:=hb.trans (C.mono hb.size);clear al au hO hP am;have J:=W.1
   go_wp2_with (at_builtin;refine wpList_append_own_at _ rfl _ _ 25 rfl 0 39 i0 (.agg #[.int .i64 0,.int .i64 0,.int .i64 0,.slice none 0 0]) 4 48 Tryz.underlying25 hi aI aJ aK rfl (by decide) _ qs.length (txnK.row qs) rfl J ⟨w2.heap.size,0,none⟩ 1 1 [.int .i64 i,.int .i64 s,.int .i64 q,.slice a2 c.length c2] rfl rfl ?c1 ?c2 ?c3 ?c4 ?c5 ?_)
   all_goals try(case c1=>intro j u hj;match j,hj with|0,hj=>simp at hj;subst hj;simp[Addr.add]|1,hj=>simp at hj;subst hj;simp[Addr.add]|2,hj=>simp at hj;subst hj;simp[Addr.add]|3,hj=>simp at hj;subst hj;simp[Addr.add])
   all_goals try(case c2=>intro u hu;simp at hu;rcases hu with rfl|rfl|rfl|rfl<;>rfl)
   all_goals try(case c3=>have:=ag.out;unfold maxLen;omega)
   all_goals try(case c4=>have:=ag.out;omega)
   all_goals try(case c5=>first|omega|simp)
   intro v' w5 T I ar X;clear ar J;rw[show w2.heap.size+1=(w2.alloc (.cells #[.int .i64 i,.int .i64 s,.int .i64 q,.slice a2 c.length c2] 39)).heap.size from(World.size_alloc _ _).symm]at X;generalize aG:w2.alloc (.cells #[.int .i64 i,.int .i64 s,.int .i64 q,.slice a2 c.length c2] 39)=WA at*;clear aG;have aP:Y.heap.size≤WA.heap.size:=by have:=L.size;have:=C.size;omega
   obtain⟨az,aq,O,av⟩:=W.snoc HN.out.1 HN.out.2 ai aj (fun x hx aH=>by have:=ae x aH;have:=A x hx;omega) (fun x hx=>by have:=A x hx;omega) M.size T I X;have aB:Below w.heap.size w w5:=Out.keep M av M.size (fun x hx=>HN.out.2 x (by simp only[Kind.fp,List.mem_append];exact Or.inl hx));have aw:Hid ((qs++[(⟨i,s,q,.slice a2 c.length c2,c⟩:TxnQ)]).map TxnQ.e=(ds.take (k+1)).map DeedQ.t):=V.out _ rfl;have ax:Hid ((txnK.fp v' (qs++[(⟨i,s,q,.slice a2 c.length c2,c⟩:TxnQ)])).Nodup∧∀k∈txnK.fp v' (qs++[(⟨i,s,q,.slice a2 c.length c2,c⟩:TxnQ)]),w.heap.size≤k):=⟨aq,O⟩
   clear V HN ae A aj ai W M T I X av aq O y hb C L U
   go_wp2
   go_roundw
   case rel=>exact⟨k+1,_,by omega,by go_num,aw,az,ax,aB⟩
   case measure=>simp[intOf];omega
  ·have aC:k=ds.length:=by omega
   subst aC;have hE:=HE.out;rw[List.take_length]at hE;clear HE
   go_wp2
   go_ret;exact⟨_,qs,rfl,hE,hO,HN.out.1,HN.out.2,hb⟩
end Go.Proofs.YtlkpdgjnhkjpjaaGreatDoor
