import Derived.Test.YtlkpdgjnhkjpjaaGreatDoorSUAK
set_option linter.unusedVariables false
set_option linter.unusedSimpArgs false
set_option maxRecDepth 100000
set_option maxHeartbeats 8000000
namespace Go.Proofs.YtlkpdgjnhkjpjaaGreatDoor
open Go.RowKit Go.BigFrame
open RoundQ renaming e->P
open List renaming getD->s,length_map->i,mem_singleton->l
open Blk renaming new->f
open Act renaming put->Va
open IntKind renaming i64->K
open Value renaming int->G,slice->Q
open Go.Proofs.Tryz renaming prog->H
open Go.Proofs.Tryz
theorem z7e(p:InstQ)(w:World)(h:instK.rd w p)(hl:p.n≤1048576):
  Calls H 238 #[.agg #[.bool p.has,p.vb,p.vr,p.vd]] w fun e w'=>e=.returned (G K (shpF p.e))∧Below w.heap.size w w':=by
 obtain⟨has,vb,d,vr,c,vd,dec⟩:=p;dsimp only[InstQ.n]at hl;have HE:Hid (shpF (InstQ.e ⟨has,vb,d,vr,c,vd,dec⟩)=if has=false∧0 < (d.map TxnQ.e).length then 1 else
  if has=true∧batF (d.map TxnQ.e)≠0 then batF (d.map TxnQ.e)else
  if(c.map P).length<1∨4<(c.map P).length then 2 else
  if z0N (c.map P)=0 then vf dec 1 else z0N (c.map P)):=by
  exact(rfl:shpF _=_)
 generalize shpF (InstQ.e ⟨has,vb,d,vr,c,vd,dec⟩)=E at HE⊢;obtain⟨hT,hR,hD⟩:txnK.At w vb d∧roundK.At w vr c∧intK.At w vd dec:=h;obtain⟨ba,bk,rfl⟩:=hT.shape;obtain⟨va,vk,rfl⟩:=hR.shape;obtain⟨da,dk,rfl⟩:=hD.shape;have hv:=fun w h=>z6e (Q ba d.length bk) (d.map TxnQ.e) w h (by rw[i,q2d];omega)
 have hB:Below w.heap.size w (w.alloc (.cells #[.bool has,Q ba d.length bk,Q va c.length vk,Q da dec.length dk] 117)):=by go_grown
 have Bx:=f w 117 #[.bool has,Q ba d.length bk,Q va c.length vk,Q da dec.length dk];replace hT:=hT.below hB;replace hR:=hR.below hB;replace hD:=hD.below hB
 cases has with
 |false=>
  by_cases h0:0<d.length
  ·have E1:Hid (E=1):=by rw[HE.out,if_pos ⟨rfl,by simpa using h0⟩];rfl
   clear HE hv;go_enter func238,ntmps238
   go_wp2
   go_ret;exact⟨by rw[E1.out];rfl,hB⟩
  ·have HS:Hid (E=if(c.map P).length<1∨4<(c.map P).length then 2 else if z0N (c.map P)=0 then vf dec 1 else z0N (c.map P)):=by
    have:=HE.out;rw[if_neg (fun h=>h0 (by simpa using h.2)),if_neg (by simp)]at this;exact this
   clear HE hv;have ai:¬(0:Int)<d.length:=by omega
   go_enter func238,ntmps238;by_cases T:c.length<1
   ·have E2:Hid (E=2):=by rw[HS.out,if_pos (Or.inl (by simpa using T))];rfl
    clear HS
    go_wp2
    go_ret;exact⟨by rw[E2.out];rfl,hB⟩
   ·by_cases U:4<c.length
    ·have E2:Hid (E=2):=by rw[HS.out,if_pos (Or.inr (by simpa using U))];rfl
     clear HS
     go_wp2
     go_ret;exact⟨by rw[E2.out];rfl,hB⟩
    ·have D:Hid (E=if z0N (c.map P)=0 then vf dec 1 else z0N (c.map P)):=by
      have:=HS.out;rw[if_neg (by simp only[i];omega)]at this;exact this
     have ad:¬(c.length:Int)<1:=by omega
     have ae:¬(4:Int)<c.length:=by omega
     clear HS T U
     go_wp2
     generalize (w.alloc (.cells #[.bool false,Q ba d.length bk,Q va c.length vk,Q da dec.length dk] 117))=W at*;go_loopw[38] (fun j wr=>∃k:Nat,k≤c.length∧j=G K k∧Hid (∀j,j<k→vf ((c.map P).getD j z0H).rep 1=0∧vf ((c.map P).getD j z0H).pro 2=0)∧Below W.heap.size W wr) (fun j _=>c.length-(intOf j).toNat)
     case atStart=>exact⟨0,Nat.zero_le _,rfl,fun j hj=>absurd hj (Nat.not_lt_zero _),Below.refl _ _⟩
     case round=>
      obtain⟨k,hk,rfl,HA,hb⟩:=hrel;have A:=hB.trans (hb.mono hB.size);by_cases C:k<c.length
      ·obtain⟨rb,ro,rfl,ag,hc,aa⟩:=(hR.below hb).cell (by decide) k C;have N:∀j x,(roundK.cells c[k])[j]?=some x→wr.cell? ⟨rb,ro+k*2+j,none⟩=some x:=hc;have r0:=N 0 (c[k].vr) rfl;have r1:=N 1 (c[k].vp) rfl;have ah:=q0j c k C;have y:=z2k (c.map P) k HA.out (by simpa using C);rw[z1u c k C]at y;dsimp only[P]at y;have J:Hid (vf c[k].rep 1≠0→E=vf c[k].rep 1):=fun h=>by rw[D.out,y.1 h,if_neg h]
       have L:Hid (vf c[k].rep 1=0→vf c[k].pro 2≠0→E=vf c[k].pro 2):=fun h h2=>by rw[D.out,y.2 h h2,if_neg h2]
       have HN:Hid (vf c[k].rep 1=0→vf c[k].pro 2=0→∀j,j<k+1→vf ((c.map P).getD j z0H).rep 1=0∧vf ((c.map P).getD j z0H).pro 2=0):=by
        intro h1 h2 j hj;by_cases Y:j=k
        ·subst Y;rw[z1u c j C];exact⟨h1,h2⟩
        ·exact HA.out j (by omega)
       clear HA y hc N;generalize c[k]=q at*;obtain⟨qv,qr,qw,qp⟩:=q;obtain⟨rA,rP⟩:intK.At wr qv qr∧intK.At wr qw qp:=aa;dsimp only at*;obtain⟨ra,rk,rfl⟩:=rA.shape;obtain⟨pa,pk,rfl⟩:=rP.shape;have M:Below wr.heap.size wr (wr.alloc (.cells #[Q ra qr.length rk,Q pa qp.length pk] 203)):=by go_grown
       have V:=hb.alloc hb.size (.cells #[Q ra qr.length rk,Q pa qp.length pk] 203);have A:=A.alloc A.size (.cells #[Q ra qr.length rk,Q pa qp.length pk] 203);have Bx:=f wr 203 #[Q ra qr.length rk,Q pa qp.length pk];have z:=z0A ra rk qr 1 _ (z04 (rA.below M)).2 (by omega);have I:=z0A pa pk qp 2 _ (z04 (rP.below M)).2 (by omega);rw[q6d]at z;rw[q6W]at I;rw[Nat.add_zero]at r0;clear rA rP M
       go_wp2_with fail
       generalize wr.alloc (.cells #[Q ra qr.length rk,Q pa qp.length pk] 203)=X at*;refine z.mono ?_;rintro e w2 ⟨rfl,hw⟩;replace hw:=hw.symm;subst hw;clear z r0 r1;by_cases h1:vf qr 1=0
       ·have HF:Hid (vf qp 2≠0→E=vf qp 2):=L.out h1;have HM:Hid (vf qp 2=0→_):=HN.out h1;rw[h1];clear J L HN h1;have p1:=Bx.cell 1 _ rfl
        go_wp2_with fail
        refine I.mono ?_;rintro e w2 ⟨rfl,hw⟩;replace hw:=hw.symm;subst hw;clear I p1 Bx;by_cases h2:vf qp 2=0
        ·have R:=HM.out h2;have HR:Hid _:=R;rw[h2];clear HF HM R h2
         go_wp2
         go_roundw
         case rel=>exact⟨k+1,by omega,by go_num,HR.out,V⟩
         case measure=>simp[intOf];omega
        ·have E2:Hid (E=vf qp 2):=HF.out h2;have af:(vf qp 2 !=0)=true:=by simpa using h2
         clear HF HM h2;generalize vf qp 2=r at*
         go_wp2
         go_ret;exact⟨by rw[E2.out];rfl,A⟩
       ·have E2:Hid (E=vf qr 1):=J.out h1;have ab:(vf qr 1 !=0)=true:=by simpa using h1
        clear J L HN h1 I;generalize vf qr 1=r at*
        go_wp2
        go_ret;exact⟨by rw[E2.out];rfl,A⟩
      ·have Z:k=c.length:=by omega
       subst Z;have E2:Hid (E=vf dec 1):=by
        have:=D.out;rw[if_pos (z2Q _ (by simpa using HA.out))]at this;exact this
       have Br:=Bx.below hb;have c3:=Br.cell 3 _ rfl;have z:=z0A da dk dec 1 wr (z04 (hD.below hb)).2 (by omega);rw[q6d]at z;clear HA D
       go_wp2_with fail
       refine z.mono ?_;rintro e w2 ⟨rfl,hw⟩;replace hw:=hw.symm;subst hw;generalize vf dec 1=r at*;clear z c3
       go_wp2
       go_ret;exact⟨by rw[E2.out];rfl,A⟩
 |true=>
  go_enter func238,ntmps238
  go_wp2_with fail
  generalize w.alloc (.cells #[.bool true,Q ba d.length bk,Q va c.length vk,Q da dec.length dk] 117)=W at*;refine(hv W (z8n hT)).mono ?_;rintro e w1 ⟨rfl,O⟩;replace hR:=hR.below O;replace hD:=hD.below O;replace Bx:=Bx.below O;replace hB:=hB.trans (O.mono hB.size);clear hv O hT;by_cases h1:batF (d.map TxnQ.e)=0
  ·have HS:Hid (E=if(c.map P).length<1∨4<(c.map P).length then 2 else if z0N (c.map P)=0 then vf dec 1 else z0N (c.map P)):=by
    have:=HE.out;rw[if_neg (by simp),if_neg (fun h=>h.2 h1)]at this;exact this
   rw[h1];clear HE h1;by_cases T:c.length<1
   ·have E2:Hid (E=2):=by rw[HS.out,if_pos (Or.inl (by simpa using T))];rfl
    clear HS;obtain⟨c0,c1,c2⟩:=Bx.cel3
    go_wp2
    go_ret;exact⟨by rw[E2.out];rfl,hB⟩
   ·by_cases U:4<c.length
    ·have E2:Hid (E=2):=by rw[HS.out,if_pos (Or.inr (by simpa using U))];rfl
     clear HS;obtain⟨c0,c1,c2⟩:=Bx.cel3
     go_wp2
     go_ret;exact⟨by rw[E2.out];rfl,hB⟩
    ·have D:Hid (E=if z0N (c.map P)=0 then vf dec 1 else z0N (c.map P)):=by
      have:=HS.out;rw[if_neg (by simp only[i];omega)]at this;exact this
     have ad:¬(c.length:Int)<1:=by omega
     have ae:¬(4:Int)<c.length:=by omega
     clear HS T U;obtain⟨c0,c1,c2⟩:=Bx.cel3
     go_wp2
     clear c0 c1 c2;go_loopw[38] (fun j wr=>∃k:Nat,k≤c.length∧j=G K k∧Hid (∀j,j<k→vf ((c.map P).getD j z0H).rep 1=0∧vf ((c.map P).getD j z0H).pro 2=0)∧Below w1.heap.size w1 wr) (fun j _=>c.length-(intOf j).toNat)
     case atStart=>exact⟨0,Nat.zero_le _,rfl,fun j hj=>absurd hj (Nat.not_lt_zero _),Below.refl _ _⟩
     case round=>
      obtain⟨k,hk,rfl,HA,hb⟩:=hrel;have A:=hB.trans (hb.mono hB.size);by_cases C:k<c.length
      ·obtain⟨rb,ro,rfl,ag,hc,aa⟩:=(hR.below hb).cell (by decide) k C;have N:∀j x,(roundK.cells c[k])[j]?=some x→wr.cell? ⟨rb,ro+k*2+j,none⟩=some x:=hc;have r0:=N 0 (c[k].vr) rfl;have r1:=N 1 (c[k].vp) rfl;have ah:=q0j c k C;have y:=z2k (c.map P) k HA.out (by simpa using C);rw[z1u c k C]at y;dsimp only[P]at y;have J:Hid (vf c[k].rep 1≠0→E=vf c[k].rep 1):=fun h=>by rw[D.out,y.1 h,if_neg h]
       have L:Hid (vf c[k].rep 1=0→vf c[k].pro 2≠0→E=vf c[k].pro 2):=fun h h2=>by rw[D.out,y.2 h h2,if_neg h2]
       have HN:Hid (vf c[k].rep 1=0→vf c[k].pro 2=0→∀j,j<k+1→vf ((c.map P).getD j z0H).rep 1=0∧vf ((c.map P).getD j z0H).pro 2=0):=by
        intro h1 h2 j hj;by_cases Y:j=k
        ·subst Y;rw[z1u c j C];exact⟨h1,h2⟩
        ·exact HA.out j (by omega)
       clear HA y hc N;generalize c[k]=q at*;obtain⟨qv,qr,qw,qp⟩:=q;obtain⟨rA,rP⟩:intK.At wr qv qr∧intK.At wr qw qp:=aa;dsimp only at*;obtain⟨ra,rk,rfl⟩:=rA.shape;obtain⟨pa,pk,rfl⟩:=rP.shape;have M:Below wr.heap.size wr (wr.alloc (.cells #[Q ra qr.length rk,Q pa qp.length pk] 203)):=by go_grown
       have V:=hb.alloc hb.size (.cells #[Q ra qr.length rk,Q pa qp.length pk] 203);have A:=A.alloc A.size (.cells #[Q ra qr.length rk,Q pa qp.length pk] 203);have Bx:=f wr 203 #[Q ra qr.length rk,Q pa qp.length pk];have z:=z0A ra rk qr 1 _ (z04 (rA.below M)).2 (by omega);have I:=z0A pa pk qp 2 _ (z04 (rP.below M)).2 (by omega);rw[q6d]at z;rw[q6W]at I;rw[Nat.add_zero]at r0;clear rA rP M
       go_wp2_with fail
       generalize wr.alloc (.cells #[Q ra qr.length rk,Q pa qp.length pk] 203)=X at*;refine z.mono ?_;rintro e w2 ⟨rfl,hw⟩;replace hw:=hw.symm;subst hw;clear z r0 r1;by_cases h1:vf qr 1=0
       ·have HF:Hid (vf qp 2≠0→E=vf qp 2):=L.out h1;have HM:Hid (vf qp 2=0→_):=HN.out h1;rw[h1];clear J L HN h1;have p1:=Bx.cell 1 _ rfl
        go_wp2_with fail
        refine I.mono ?_;rintro e w2 ⟨rfl,hw⟩;replace hw:=hw.symm;subst hw;clear I p1 Bx;by_cases h2:vf qp 2=0
        ·have R:=HM.out h2;have HR:Hid _:=R;rw[h2];clear HF HM R h2
         go_wp2
         go_roundw
         case rel=>exact⟨k+1,by omega,by go_num,HR.out,V⟩
         case measure=>simp[intOf];omega
        ·have E2:Hid (E=vf qp 2):=HF.out h2;have af:(vf qp 2 !=0)=true:=by simpa using h2
         clear HF HM h2;generalize vf qp 2=r at*
         go_wp2
         go_ret;exact⟨by rw[E2.out];rfl,A⟩
       ·have E2:Hid (E=vf qr 1):=J.out h1;have ab:(vf qr 1 !=0)=true:=by simpa using h1
        clear J L HN h1 I;generalize vf qr 1=r at*
        go_wp2
        go_ret;exact⟨by rw[E2.out];rfl,A⟩
      ·have Z:k=c.length:=by omega
       subst Z;have E2:Hid (E=vf dec 1):=by
        have:=D.out;rw[if_pos (z2Q _ (by simpa using HA.out))]at this;exact this
       have Br:=Bx.below hb;have c3:=Br.cell 3 _ rfl;have z:=z0A da dk dec 1 wr (z04 (hD.below hb)).2 (by omega);rw[q6d]at z;clear HA D
       go_wp2_with fail
       refine z.mono ?_;rintro e w2 ⟨rfl,hw⟩;replace hw:=hw.symm;subst hw;generalize vf dec 1=r at*;clear z c3
       go_wp2
       go_ret;exact⟨by rw[E2.out];rfl,A⟩
  ·have E1:Hid (E=batF (d.map TxnQ.e)):=by
    have:=HE.out;rw[if_neg (by simp),if_pos ⟨by simp,h1⟩]at this;exact this
   have ab:(batF (d.map TxnQ.e) !=0)=true:=by simpa using h1
   clear HE h1;generalize batF (d.map TxnQ.e)=r at*
   go_wp2
   go_ret;exact⟨by rw[E1.out];rfl,hB⟩
def brd0:List Value:=brdC false (Q none 0 0) [] [0,0,0]
theorem z3v{fn:Func}{p q:Tmp}{ty:TypeId}(h:fn.results=#[.cell p ty,.tmp q])(tmps:Array Value)(w:World)(g:Nat)(cs:Array Value)(v:Value)
  (hp:tmps.getD p undef=.pointer (some ⟨g,0,none⟩)) (hq:tmps.getD q undef=v) (hld:(loadVar ty ⟨g,0,none⟩).run H w=.ok (.agg cs) w):
  (results fn tmps).run H w=.ok (.tuple #[.agg cs,v]) w:=by
 have hp':tmps[p]?.getD undef=.pointer (some ⟨g,0,none⟩):=by simpa using hp
 have hq':tmps[q]?.getD undef=v:=by simpa using hq
 simp[results,h,hp',hq',asAddr,hld]
theorem q2p{w:World}{g:Nat}{t:TypeId}{L:List Value}(hB:Blk w g t L.toArray)(hl:L.length=30):(loadVar 261 ⟨g,0,none⟩).run H w=.ok (.agg L.toArray) w:=
 run_loadVar_mid w g 0 261 L _ (rng hB L (fun j v hv=>by rw[Nat.zero_add,List.getElem?_toArray];exact hv)) Tryz.underlying261 rfl (by rw[hl];exact z3M)
theorem q4B{rs:List RoundE}(h:z0N rs=0):Wel rs:=fun r hr=>by
 obtain⟨k,hk,rfl⟩:=List.getElem_of_mem hr;have:=z1Z h k hk;have e:rs.getD k z0H=rs[k]:=by simp[s,hk]
 rw[e]at this;exact⟨z06 this.1,z06 this.2⟩
theorem q3X{rs:List RoundE}(h:Wel rs)(k:Nat):Wel (rs.take k):=fun r hr=>h r (List.mem_of_mem_take hr)
theorem q6i{x:InstE}(h:shpF x=0):insF x=if q51 x then 0 else 10:=if_pos h
theorem z5t(p:InstQ)(w:World)(hG:Rul w)(h:instK.rd w p)(hl:p.n≤1048576):
  Calls H 187 #[.agg #[.bool p.has,p.vb,p.vr,p.vd]] w fun e w'=>e=.returned (.tuple #[.agg (if insF p.e=0 then brdC p.has p.vb p.e.rounds p.dec else brd0).toArray,G K (insF p.e)])∧Below w.heap.size w w':=by
 have aw:=fun w h=>z7e p w h hl
 have az:=fun(w':World) hb=>instK.rd_below (w':=w') h hb
 generalize hC:insF p.e=C;generalize aI:(if C=0 then brdC p.has p.vb p.e.rounds p.dec else brd0)=BD;have HC:Hid (insF p.e=C∧(if C=0 then brdC p.has p.vb p.e.rounds p.dec else brd0)=BD):=And.intro hC aI;clear hC aI;obtain⟨has,vb,d,vr,c,vd,dec⟩:=p;obtain⟨hT,hR,hD⟩:txnK.At w vb d∧roundK.At w vr c∧intK.At w vd dec:=h;obtain⟨ba,bk,rfl⟩:=hT.shape;obtain⟨va,vk,rfl⟩:=hR.shape;obtain⟨da,dk,rfl⟩:=hD.shape;dsimp only at aw az;have B:=(f w 117 #[.bool has,Q ba d.length bk,Q va c.length vk,Q da dec.length dk]).below (w':=(w.alloc (.cells #[.bool has,Q ba d.length bk,Q va c.length vk,Q da dec.length dk] 117)).alloc (.cells brd0.toArray 261)) (by go_grown);have Rb:=f (w.alloc (.cells #[.bool has,Q ba d.length bk,Q va c.length vk,Q da dec.length dk] 117)) 261 brd0.toArray;simp only[World.size_alloc]at Rb;have hB:Below w.heap.size w ((w.alloc (.cells #[.bool has,Q ba d.length bk,Q va c.length vk,Q da dec.length dk] 117)).alloc (.cells brd0.toArray 261)):=by go_grown
 have bg:(H.info? 261).map (·.size)=some brd0.toArray.size:=by kernel_rfl
 have a8:brd0.toArray.size=brd0.toArray.size:=rfl;have ap:(H.info? 261).map (·.size)=some (#[G K 0,G K 0,G K 0,G K 0,G K 0,G K 0,G K 0,G K 0,G K 0,G K 0,G K 0,G K 0,G K 0,G K 0,G K 0,G K 0,G K 0,G K 0,G K 0,G K 0,G K 0,G K 0,G K 0,G K 0,G K 0,.bool false,Q none 0 0,G K 0,G K 0,G K 0]:Array Value).size:=by kernel_rfl
 have V:brd0.toArray.size=(#[G K 0,G K 0,G K 0,G K 0,G K 0,G K 0,G K 0,G K 0,G K 0,G K 0,G K 0,G K 0,G K 0,G K 0,G K 0,G K 0,G K 0,G K 0,G K 0,G K 0,G K 0,G K 0,G K 0,G K 0,G K 0,.bool false,Q none 0 0,G K 0,G K 0,G K 0]:Array Value).size:=rfl;have Z:(#[G K 0,G K 0,G K 0,G K 0,G K 0,G K 0,G K 0,G K 0,G K 0,G K 0,G K 0,G K 0,G K 0,G K 0,G K 0,G K 0,G K 0,G K 0,G K 0,G K 0,G K 0,G K 0,G K 0,G K 0,G K 0,.bool false,Q none 0 0,G K 0,G K 0,G K 0]:Array Value).all (·.oneCell')=true:=by kernel_rfl
 have bb:brd0.toArray.all (·.oneCell')=true:=by kernel_rfl
 have bh:#[G K 0,G K 0,G K 0,G K 0,G K 0,G K 0,G K 0,G K 0,G K 0,G K 0,G K 0,G K 0,G K 0,G K 0,G K 0,G K 0,G K 0,G K 0,G K 0,G K 0,G K 0,G K 0,G K 0,G K 0,G K 0,.bool false,Q none 0 0,G K 0,G K 0,G K 0]=brd0.toArray:=rfl;go_enter func187,ntmps187
 go_wp2_with fail
 generalize (w.alloc (.cells #[.bool has,Q ba d.length bk,Q va c.length vk,Q da dec.length dk] 117)).alloc (.cells brd0.toArray 261)=W at*;refine(aw W (az W hB)).mono ?_;rintro e w1 ⟨rfl,aj⟩;have Bx:=B.below aj;replace Rb:=Rb.below aj;replace hB:=hB.trans (aj.mono hB.size);have br:w.heap.size+1<w1.heap.size:=Rb.lt;clear aw az aj B;by_cases h0:shpF (InstQ.e ⟨has,Q ba d.length bk,d,Q va c.length vk,c,Q da dec.length dk,dec⟩)=0
 ·obtain⟨⟨h1,h4⟩,hF,aq,_,_⟩:=z1z h0;have aJ:=q6i h0;replace hF:z0N (c.map P)=0:=hF;replace aq:vf dec 1=0:=aq;replace h1:1≤(c.map P).length:=h1;replace h4:(c.map P).length≤4:=h4;rw[i]at h1 h4;have ag:Hid (C=if(List.range (c.map P).length).all (q1C has (c.map P)) && z55 (c.map P) dec then 0 else 10):=HC.out.1.symm.trans aJ;have af:Hid ((if C=0 then brdC has (Q ba d.length bk) (c.map P) dec else brd0)=BD):=HC.out.2;rw[h0];clear h0 aJ HC;have a2:=z06 aq;obtain⟨d0,d1,d2,rfl⟩:=q0G a2;have ai:=(z04 (hD.below hB)).2;obtain⟨db,O,a6,_,_⟩:=ai 0 (by simp);subst a6;have aA:=fun b aB cap w h h3=>z8p b aB cap [d0,d1,d2] w h h3
  have aa:=fun zs b aB cap w h h3=>z8p b aB cap zs w h h3
  have a1:[d0,d1,d2].length=3:=rfl;rw[a1]at Bx
  go_wp2_with fail
  refine z0X [some 14,some 15,some 16,some 17,some 18,some 19,some 20,some 21,some 5] (fun vs w'=>∃g:Nat,vs=[.pointer (some ⟨w.heap.size,0,none⟩),.bool has,.pointer (some ⟨w.heap.size,1,none⟩),Q ba d.length bk,.pointer (some ⟨w.heap.size,3,none⟩),Q (some ⟨db,O,none⟩) 3 dk,.agg #[iv d0,iv d1,iv d2],.agg (brdC has (Q ba d.length bk) [] [d0,d1,d2]).toArray,.pointer (some ⟨g,0,none⟩)]∧w1.heap.size≤g∧Blk w' g 261 (brdC has (Q ba d.length bk) [] [d0,d1,d2]).toArray∧Below w1.heap.size w1 w') ?_ ?_
  ·have hW:Below w1.heap.size w1 w1.drew:=(Below.refl _ _).drew;have aM:Nonempty (Lat w1):=⟨⟨w1,Below.refl _ _⟩⟩
   obtain⟨p0,p1⟩:=Bx.lts2;have p3:=Bx.lat 3 _ rfl;have D:(H.info? 261).map (·.size)=some (brdC has (Q ba d.length bk) [] [d0,d1,d2]).toArray.size:=by kernel_rfl
   have an:brd0.toArray.size=(brdC has (Q ba d.length bk) [] [d0,d1,d2]).toArray.size:=rfl;have ao:(brdC has (Q ba d.length bk) [] [d0,d1,d2]).toArray.all (·.oneCell')=true:=by kernel_rfl
   refine z0a (S:=fun w'=>∃u:Lat w1,w'=u.val) (by kernel_rfl) ?_;refine sgr [(0,6)] 4 (by kernel_rfl) ⟨⟨_,hW⟩,rfl⟩ ?_;simp only[pkE];repeat go_big_quiet_step (fail)
   refine wpQuiet_nil ?_;clear p0 p1 p3;generalize w1.drew=wd at hW⊢;refine twa 6 8 3 (by kernel_rfl) ?_ ?_
   ·refine opc 6 (some 20) 239 #[Q (some ⟨db,O,none⟩) 3 dk] (by kernel_rfl) ?_;refine(aA db O dk _ (ai.below hW) rfl).mono ?_;rintro e w8 ⟨rfl,A⟩;replace hW:=hW.trans (A.mono hW.size);clear A;refine⟨_,rfl,⟨⟨_,hW⟩,rfl⟩,?_⟩;simp only[Va,pgE,pjE];refine qta 7 (some 21) (.agg (brdC has (Q ba d.length bk) [] [d0,d1,d2]).toArray) 2 (by kernel_rfl) (fun u _=>by kernel_rfl) ⟨⟨_,hW⟩,rfl⟩ ?_;simp only[Va,pgE,pjE];refine ona 8 1 rfl (by kernel_rfl) ?_;have Bz:=f w8 261 brd0.toArray;have M:w1.heap.size≤w8.heap.size:=hW.size;replace hW:=hW.alloc hW.size (.cells brd0.toArray 261)
    go_wp2
    refine ThenGo.to ⟨⟨⟨_,hW⟩,rfl⟩,?_⟩;generalize w8.alloc (.cells brd0.toArray 261)=Z8 at Bz hW⊢;refine ona 9 0 rfl (by kernel_rfl) ?_;refine z0s (by kernel_rfl) 261 _ _ rfl _ (brdC has (Q ba d.length bk) [] [d0,d1,d2]).toArray rfl rfl 261 _ Bz D an ao ?_;refine ThenGo.to ⟨⟨⟨_,z0j hW M _⟩,rfl⟩,?_⟩;refine z0e (by kernel_rfl) ?_;refine⟨rfl,_,⟨w8.heap.size,rfl,M,Bz.row _,z0j hW M _⟩,?_⟩;simp only[z1a,Va,pgE,pjE];try rfl
   ·refine z00 8 _ rfl ?_;have Bz:=f wd 261 brd0.toArray;have M:w1.heap.size≤wd.heap.size:=hW.size;replace hW:=hW.alloc hW.size (.cells brd0.toArray 261)
    go_wp2
    refine ThenGo.to ⟨⟨⟨_,hW⟩,rfl⟩,?_⟩;generalize wd.alloc (.cells brd0.toArray 261)=Z8 at Bz hW⊢;refine cla 6 (some 20) 239 #[Q (some ⟨db,O,none⟩) 3 dk] 2 (by kernel_rfl) ?_;refine(aA db O dk _ (ai.below hW) rfl).mono ?_;rintro e w8 ⟨rfl,A⟩;replace hW:=hW.trans (A.mono hW.size);replace Bz:=Bz.below A;clear A;refine⟨_,rfl,⟨⟨_,hW⟩,rfl⟩,?_⟩;simp only[Va,pgE,pjE];refine qta 7 (some 21) (.agg (brdC has (Q ba d.length bk) [] [d0,d1,d2]).toArray) 1 (by kernel_rfl) (fun u _=>by kernel_rfl) ⟨⟨_,hW⟩,rfl⟩ ?_;simp only[Va,pgE,pjE];refine ona 9 0 rfl (by kernel_rfl) ?_;refine z0s (by kernel_rfl) 261 _ _ rfl _ (brdC has (Q ba d.length bk) [] [d0,d1,d2]).toArray rfl rfl 261 _ Bz D an ao ?_;refine ThenGo.to ⟨⟨⟨_,z0j hW M _⟩,rfl⟩,?_⟩;refine z0e (by kernel_rfl) ?_;refine⟨rfl,_,⟨wd.heap.size,rfl,M,Bz.row _,z0j hW M _⟩,?_⟩;simp only[z1a,Va,pgE,pjE];try rfl
  rintro vs X ⟨g,rfl,hg,Bg,hX⟩;simp only[z1a,Va,pjE];have ah:Below w.heap.size w X:=hB.trans (hX.mono hB.size);have aF:=Rb.below hX;have aV:=Bx.below hX;have bp:w.heap.size+1<g:=by omega
  have bl:=hR.below ah;have bj:=hG.below ah;have p2:=aV.cell 2 _ rfl;clear hX hB Rb Bx aA ai
  go_wp2
  clear p2;generalize aO:c.map P=rs at*;have ae:=q4B hF;have L:rs.length=c.length:=by rw[←aO,i]
  go_loopw[25] (fun j wr=>∃k:Nat,k≤c.length∧j=G K k∧Hid (Blk wr g 261 (brdC has (Q ba d.length bk) (rs.take k) [d0,d1,d2]).toArray)∧Hid (Out [g] X wr)) (fun j _=>c.length-(intOf j).toNat)
  case atStart=>exact⟨0,Nat.zero_le _,rfl,Bg,Out.refl _ _⟩
  case round=>
   obtain⟨k,hk,rfl,HB,HO⟩:=hrel;have y:Below w.heap.size w wr:=Out.keep ah HO.out ah.size (fun k hk=>by simp only[l]at hk;omega);by_cases J:k<c.length
   ·obtain⟨rb,ro,bc,bn,hc,bd⟩:=(hR.below y).cell (by decide) k J;have av:∀j x,(roundK.cells c[k])[j]?=some x→wr.cell? ⟨rb,ro+k*2+j,none⟩=some x:=hc;have r0:=av 0 (c[k].vr) rfl;have r1:=av 1 (c[k].vp) rfl;have ar:rs.getD k z0H=P c[k]:=by rw[←aO];exact z1u c k J
    obtain⟨ab,ad⟩:=z1Z hF k (by rw[L];exact J);rw[ar]at ab ad;replace ab:vf c[k].rep 1=0:=ab;replace ad:vf c[k].pro 2=0:=ad;have aK:rs[k]'(by rw[L];exact J)=P c[k]:=by rw[←ar];simp[s,show k<rs.length by rw[L];exact J]
    have aE:Hid (rs.take (k+1)=rs.take k++[RoundE.mk c[k].rep c[k].pro]):=by
     rw[List.take_succ_eq_append_getElem (show k<rs.length by rw[L];exact J),aK];exact(rfl:_=_)
    have aN:roundK.rd w c[k]:=by
     obtain⟨_,_,_,_,_,hx⟩:=hR.cell (by decide) k J;exact hx
    obtain⟨aG,aH⟩:intK.At w c[k].vr c[k].rep∧intK.At w c[k].vp c[k].pro:=aN;clear hc av ar aK bd;generalize c[k].vr=qv at*;generalize c[k].rep=qr at*;generalize c[k].vp=qw at*;generalize c[k].pro=qp at*;obtain⟨xa,xc,xb,xo,rfl,be,_,aT⟩:=z3O aG ab 0 (by omega);obtain⟨ya,yc,yb,yo,rfl,bf,_,aU⟩:=z3O aH ad 0 (by omega);subst bc be bf;obtain⟨x0,x1,x2,rfl⟩:=q0G (z06 ab);obtain⟨y0,y1,y2,rfl⟩:=q0G (z06 ad);have By:=f wr 203 #[Q (some ⟨xb,xo,none⟩) 3 xc,Q (some ⟨yb,yo,none⟩) 3 yc];have ak:Below wr.heap.size wr (wr.alloc (.cells #[Q (some ⟨xb,xo,none⟩) 3 xc,Q (some ⟨yb,yo,none⟩) 3 yc] 203)):=by go_grown
    have aD:Hid (Out [g] X (wr.alloc (.cells #[Q (some ⟨xb,xo,none⟩) 3 xc,Q (some ⟨yb,yo,none⟩) 3 yc] 203))):=HO.out.call ak;have aC:Hid (Blk (wr.alloc (.cells #[Q (some ⟨xb,xo,none⟩) 3 xc,Q (some ⟨yb,yo,none⟩) 3 yc] 203)) g 261 (brdC has (Q ba d.length bk) (rs.take k) [d0,d1,d2]).toArray):=HB.out.below ak;have bq:g<wr.heap.size:=HB.out.lt;have aQ:wr.heap.size≠g:=by omega
    replace y:=y.trans (ak.mono y.size);rw[Nat.add_zero]at r0;clear HB HO ak aG aH
    go_wp2_with fail
    clear r0 r1;generalize wr.alloc (.cells #[Q (some ⟨xb,xo,none⟩) 3 xc,Q (some ⟨yb,yo,none⟩) 3 yc] 203)=Y at*;have I:∀W',Out [g] Y W'→Below w.heap.size w W':=fun W' aZ=>Out.keep y aZ y.size (fun k hk=>by simp only[l]at hk;omega)
    have am:=fun w' aY=>z8q g 261 (rs.take k) ([.bool has,Q ba d.length bk]++[d0,d1,d2].map iv) ⟨[x0,x1,x2],[y0,y1,y2]⟩ w' aY (q3X ae k) ⟨rfl,rfl⟩ (by rw[List.length_take];omega)
    have aM:Nonempty (LatO [g] Y):=⟨⟨Y,Out.refl _ _⟩⟩
    have hW:Out [g] Y Y.drew:=Out.of_below ((Below.refl _ _).drew);have p0:=z8r (F:=[g]) (By.cell 0 _ rfl) (by simp only[l];exact aQ);have p1:=z8r (F:=[g]) (By.cell 1 _ rfl) (by simp only[l];exact aQ);have N:=aC.out.below (w':=Y.drew) ((Below.refl _ _).drew);refine z0a (S:=fun w'=>∃u:LatO [g] Y,w'=u.val) (by kernel_rfl) ?_;refine sgr [(0,3),(4,2)] 4 (by kernel_rfl) ⟨⟨_,hW⟩,rfl⟩ ?_;simp only[pkE];repeat go_big_quiet_step (fail)
    refine wpQuiet_nil ?_;refine cla 3 (some 32) 239 #[Q (some ⟨xb,xo,none⟩) 3 xc] 3 (by kernel_rfl) ?_;refine(aa _ xb xo xc _ (aT.below (I _ hW)) rfl).mono ?_;rintro e w8 ⟨rfl,A⟩;replace hW:=hW.call A;replace N:=N.below A;clear A;refine⟨_,rfl,⟨⟨_,hW⟩,rfl⟩,?_⟩;simp only[Va,pjE];refine cla 6 (some 35) 239 #[Q (some ⟨yb,yo,none⟩) 3 yc] 2 (by kernel_rfl) ?_;refine(aa _ yb yo yc _ (aU.below (I _ hW)) rfl).mono ?_;rintro e w9 ⟨rfl,au⟩;replace hW:=hW.call au;replace N:=N.below au;clear au;refine⟨_,rfl,⟨⟨_,hW⟩,rfl⟩,?_⟩;simp only[Va,pjE];refine qta 7 (some 36) (.agg (z1F ⟨[x0,x1,x2],[y0,y1,y2]⟩).toArray) 1 (by kernel_rfl) (fun u _=>by kernel_rfl) ⟨⟨_,hW⟩,rfl⟩ ?_;simp only[Va,pjE];refine cla 8 (some 37) 240 #[.pointer (some ⟨g,0,none⟩),.agg (z1F ⟨[x0,x1,x2],[y0,y1,y2]⟩).toArray] 0 (by kernel_rfl) ?_;refine(am w9 N).mono ?_;rintro e aS ⟨rfl,al,aR⟩;replace hW:=hW.trans aR;clear aR;refine⟨_,rfl,⟨⟨_,hW⟩,rfl⟩,?_⟩;simp only[Va,pjE];refine z0e (by kernel_rfl) ?_;have aW:Hid (Blk aS g 261 (brdC has (Q ba d.length bk) (rs.take (k+1)) [d0,d1,d2]).toArray):=by rw[aE.out];exact al
    have aX:Hid (Out [g] X aS):=aD.out.trans hW;clear al hW am aC aD p0 p1 aM I aE
    go_wp2
    go_roundw
    case rel=>exact⟨k+1,by omega,by go_num,aW.out,aX.out⟩
    case measure=>simp[intOf];omega
   ·have a7:k=c.length:=by omega
    subst a7;have Bw:=HB.out;rw[←L,List.take_length]at Bw;have Rw:Blk wr (w.heap.size+1) 261 brd0.toArray:=(HO.out.block _ aF.lt (by simp only[l];omega)).trans aF;have U:=z3t (has:=has) (vb:=Q ba d.length bk) (dec:=[d0,d1,d2]) ae (by rw[L];exact h4) rfl;have aL:=z9z has (Q ba d.length bk) rs [d0,d1,d2] wr (hG.below y) ae (by rw[L];exact h4) rfl;have E:=rng Bw (brdC has (Q ba d.length bk) rs [d0,d1,d2]) (o:=0) (fun j v hv=>by rw[Nat.zero_add,List.getElem?_toArray];exact hv);have D:(H.info? 261).map (·.size)=some (brdC has (Q ba d.length bk) rs [d0,d1,d2]).length:=by rw[U];exact z3M
    have ay:(brdC has (Q ba d.length bk) rs [d0,d1,d2]).toArray.all (·.oneCell')=true:=all_oneCell_toArray (fun v hv=>by
     simp only[brdC,rndC,z4b,List.mem_append,List.mem_cons,List.mem_flatMap,List.mem_replicate,List.mem_map,z1F,List.not_mem_nil,or_false]at hv;rcases hv with (rfl | ⟨r,_,z,_,rfl⟩ | ⟨_,rfl⟩) | (rfl | rfl) | ⟨z,_,rfl⟩ <;> rfl)
    clear HB HO aa;generalize bm:((List.range rs.length).all (q1C has rs) && z55 rs [d0,d1,d2])=XX at*;generalize bo:brdC has (Q ba d.length bk) rs [d0,d1,d2]=cs at*
    go_wp2_with (refine q02 (by kernel_rfl) 261 _ rfl _ _ rfl cs _ E Tryz.underlying261 rfl D ?_)
    refine aL.mono ?_;rintro e w5 ⟨rfl,T⟩;replace Rw:=Rw.below T;replace Bw:=Bw.below T;replace y:=y.trans (T.mono y.size);replace E:=z2F E T;clear aL T
    cases XX with
    |false=>
     have E1:Hid (C=10):=by rw[ag.out];exact(rfl:_=_)
     have E2:Hid (BD=brd0):=by
      have:=af.out;rw[E1.out,if_neg (by decide)]at this;exact this.symm
     clear ag af E
     go_wp2_with (refine z0s (by kernel_rfl) 261 _ _ rfl _ #[G K 0,G K 0,G K 0,G K 0,G K 0,G K 0,G K 0,G K 0,G K 0,G K 0,G K 0,G K 0,G K 0,G K 0,G K 0,G K 0,G K 0,G K 0,G K 0,G K 0,G K 0,G K 0,G K 0,G K 0,G K 0,.bool false,Q none 0 0,G K 0,G K 0,G K 0] rfl rfl 261 _ Rw ap V Z ?_)
     rw[E2.out,E1.out];exact bodyPost_ret (v:=.tuple #[.agg brd0.toArray,G K 10]) (z3v results187 _ _ (w.heap.size+1) brd0.toArray _ rfl rfl (q2p (Rw.row _) rfl)) rfl ⟨rfl,z0j y (by omega) _⟩
    |true=>
     have E1:Hid (C=0):=by rw[ag.out];exact(rfl:_=_)
     have E2:Hid (BD=cs):=by
      have:=af.out;rw[E1.out,if_pos rfl]at this;exact this.symm
     have aP:(H.info? 261).map (·.size)=some cs.toArray.size:=D;have ax:brd0.toArray.size=cs.toArray.size:=(show 30=cs.length from U.symm)
     clear ag af
     go_wp2_with (first|(refine q02 (by kernel_rfl) 261 _ rfl _ _ rfl cs _ E Tryz.underlying261 rfl D ?_)|(refine z0s (by kernel_rfl) 261 _ _ rfl _ cs.toArray rfl rfl 261 _ Rw aP ax ay ?_))
     rw[E2.out,E1.out];exact bodyPost_ret (v:=.tuple #[.agg cs.toArray,G K 0]) (z3v results187 _ _ (w.heap.size+1) cs.toArray _ rfl rfl (q2p (Rw.row _) U)) rfl ⟨rfl,z0j y (by omega) _⟩
 ·have hC:C≠0∧C=shpF (InstQ.e ⟨has,Q ba d.length bk,d,Q va c.length vk,c,Q da dec.length dk,dec⟩):=by
   have:=HC.out.1;unfold insF at this;rw[if_neg h0]at this;exact⟨by rw[←this];exact h0,this.symm⟩
  have E2:Hid (BD=brd0):=by
   have:=HC.out.2;rw[if_neg hC.1]at this;exact this.symm
  rw[←hC.2];have bi:(C !=0)=true:=by simpa using hC.1
  clear HC h0 hC hR hT hD
  go_wp2_with (refine z0s (by kernel_rfl) 261 _ _ rfl _ #[G K 0,G K 0,G K 0,G K 0,G K 0,G K 0,G K 0,G K 0,G K 0,G K 0,G K 0,G K 0,G K 0,G K 0,G K 0,G K 0,G K 0,G K 0,G K 0,G K 0,G K 0,G K 0,G K 0,G K 0,G K 0,.bool false,Q none 0 0,G K 0,G K 0,G K 0] rfl rfl 261 _ Rb ap V Z ?_)
  rw[E2.out];exact bodyPost_ret (v:=.tuple #[.agg brd0.toArray,G K C]) (z3v results187 _ _ (w.heap.size+1) brd0.toArray _ rfl rfl (q2p (Rb.row _) rfl)) rfl ⟨rfl,z0j hB (by omega) _⟩
def bdOf(p:InstQ):List Value:=if insF p.e=0 then brdC p.has p.vb p.e.rounds p.dec else brd0
theorem z2l{x:InstE}(h:insF x=0):shpF x=0∧q51 x=true:=by
 unfold insF at h;by_cases h0:shpF x=0
 ·rw[if_pos h0]at h;refine⟨h0,?_⟩;by_cases h1:q51 x=true
  ·exact h1
  ·rw[if_neg h1]at h;simp at h
 ·rw[if_neg h0]at h;exact absurd h h0
theorem q2q{x:InstE}(h:insF x=0):Wel x.rounds∧(1≤x.rounds.length∧x.rounds.length≤4)∧x.dec.length=3∧z0N x.rounds=0∧vf x.dec 1=0:=by
 obtain⟨h0,_⟩:=z2l h;obtain⟨h1,h2,h3,_⟩:=z1z h0;exact⟨q4B h2,h1,z06 h3,h2,h3⟩
theorem q5i {has:Bool} {vb:Value} {rs:List RoundE} {dec:List Int} (hv:vb.oneCell' = true):(brdC has vb rs dec).toArray.all (·.oneCell')=true:=all_oneCell_toArray (fun v hm=>by
 simp only[brdC,rndC,z4b,List.mem_append,List.mem_cons,List.mem_flatMap,List.mem_replicate,List.mem_map,z1F,List.not_mem_nil,or_false]at hm;rcases hm with (rfl | ⟨r,_,z,_,rfl⟩ | ⟨_,rfl⟩) | (rfl | rfl) | ⟨z,_,rfl⟩ <;> first | rfl | exact hv)
theorem q6j{w:World}{p:InstQ}(h:instK.rd w p):(bdOf p).length=30∧(bdOf p).toArray.all (·.oneCell')=true:=by
 unfold bdOf;by_cases h0:insF p.e=0
 ·rw[if_pos h0];obtain⟨h1,h2,h3,_⟩:=q2q h0;refine⟨z3t h1 h2.2 h3,q5i ?_⟩;obtain⟨a,c,e⟩:=h.1.shape;rw[e];rfl
 ·rw[if_neg h0];exact⟨rfl,by kernel_rfl⟩
theorem z2H(p:InstQ)(w:World)(hG:Rul w)(h:instK.rd w p)(hl:p.n≤1048576):
  Calls H 127 #[.agg #[.bool p.has,p.vb,p.vr,p.vd]] w fun e w'=>e=.returned (G K (insF p.e))∧Below w.heap.size w w':=by
 obtain⟨z,I⟩:=q6j h;have y:=fun w hG h=>z5t p w hG h hl
 have A:=fun(w':World) hb=>instK.rd_below (w':=w') h hb
 change∀w hG h,Calls _ _ _ _ fun e w'=>e=.returned (.tuple #[.agg (bdOf p).toArray,_])∧_ at y
 generalize bdOf p=BD at*;generalize insF p.e=C at*;obtain⟨has,vb,x,vr,d,vd,dec⟩:=p;obtain⟨ba,bk,rfl⟩:∃a c,vb=Q a x.length c:=h.1.shape;obtain⟨va,vk,rfl⟩:∃a c,vr=Q a d.length c:=h.2.1.shape;obtain⟨da,dk,rfl⟩:∃a c,vd=Q a dec.length c:=h.2.2.shape;dsimp only at y A;have hB:Below w.heap.size w (w.alloc (.cells #[.bool has,Q ba x.length bk,Q va d.length vk,Q da dec.length dk] 117)):=by go_grown
 have J:(H.info? 261).map (·.size)=some BD.toArray.size:=by rw[List.size_toArray,z];exact z3M
 have E:(#[G K 0,G K 0,G K 0,G K 0,G K 0,G K 0,G K 0,G K 0,G K 0,G K 0,G K 0,G K 0,G K 0,G K 0,G K 0,G K 0,G K 0,G K 0,G K 0,G K 0,G K 0,G K 0,G K 0,G K 0,G K 0,.bool false,Q none 0 0,G K 0,G K 0,G K 0]:Array Value).size=BD.toArray.size:=(show 30=BD.length from z.symm)
 go_enter func127,ntmps127
 go_wp2_with fail
 generalize w.alloc (.cells #[.bool has,Q ba x.length bk,Q va d.length vk,Q da dec.length dk] 117)=W at*;refine(y W (hG.below hB) (A W hB)).mono ?_;rintro e w1 ⟨rfl,D⟩;replace hB:=hB.trans (D.mono hB.size);have Bz:=f w1 261 #[G K 0,G K 0,G K 0,G K 0,G K 0,G K 0,G K 0,G K 0,G K 0,G K 0,G K 0,G K 0,G K 0,G K 0,G K 0,G K 0,G K 0,G K 0,G K 0,G K 0,G K 0,G K 0,G K 0,G K 0,G K 0,.bool false,Q none 0 0,G K 0,G K 0,G K 0];have L:=z0j (hB.alloc hB.size (.cells #[G K 0,G K 0,G K 0,G K 0,G K 0,G K 0,G K 0,G K 0,G K 0,G K 0,G K 0,G K 0,G K 0,G K 0,G K 0,G K 0,G K 0,G K 0,G K 0,G K 0,G K 0,G K 0,G K 0,G K 0,G K 0,.bool false,Q none 0 0,G K 0,G K 0,G K 0] 261)) (g:=w1.heap.size) hB.size BD.toArray;clear y A D
 go_wp2_with (refine z0s (by kernel_rfl) 261 _ _ rfl _ BD.toArray rfl rfl 261 _ Bz J E I ?_)
 go_ret;exact⟨rfl,L⟩
def outV:List Int→Int
 |[]=>3
 |x::r=>if x=3 then outV r else x
theorem q2r(L:List Int):∀k,(∀j,j<k→L.getD j 0=3)→k<L.length→L.getD k 0≠3→outV L=L.getD k 0:=by
 induction L with
 |nil=>intro k _ h;simp at h
 |cons x r ih=>
  intro k h0 hk hne
  cases k with
  |zero=>simp[s]at hne⊢;simp[outV,hne]
  |succ k=>
   have hx:x=3:=by simpa[s]using h0 0 (by omega)
   have:=ih k (fun j hj=>by simpa[s]using h0 (j+1) (by omega)) (by simpa using hk) (by simpa[s]using hne);simp only[outV,hx,if_true];rw[this];simp[s]
theorem z8u(L:List Int)(h:∀j,j<L.length→L.getD j 0=3):outV L=3:=by
 induction L with
 |nil=>rfl
 |cons x r ih=>
  have hx:x=3:=by simpa[s]using h 0 (by simp)
  simp only[outV,hx,if_true];exact ih (fun j hj=>by simpa[s]using h (j+1) (by simpa using hj))
def ocC(x:InstE):Int:=if insF x=0 then(if outV x.dec=3 then 4 else 0)else insF x
def ocV(x:InstE):Int:=if insF x=0 then(if outV x.dec=3 then 0 else outV x.dec)else 0
theorem z2I(p:InstQ)(w:World)(hG:Rul w)(h:instK.rd w p)(hl:p.n≤1048576):
  Calls H 126 #[.agg #[.bool p.has,p.vb,p.vr,p.vd]] w fun e w'=>e=.returned (.agg #[G K (ocC p.e),G K (ocV p.e)])∧Below w.heap.size w w':=by
 obtain⟨N,T⟩:=q6j h;have M:=fun w hG h=>z5t p w hG h hl
 have Y:=fun(w':World) hb=>instK.rd_below (w':=w') h hb
 change∀w hG h,Calls _ _ _ _ fun e w'=>e=.returned (.tuple #[.agg (bdOf p).toArray,_])∧_ at M
 have J:Hid (insF p.e=0→bdOf p=brdC p.has p.vb p.e.rounds p.dec∧Wel p.e.rounds∧p.e.rounds.length≤4∧p.dec.length=3):=fun h0=>by
  obtain⟨h1,h2,h3,_⟩:=q2q h0;exact⟨if_pos h0,h1,h2.2,h3⟩
 obtain⟨D,hD⟩:∃D,ocC p.e=D:=⟨_,rfl⟩
 obtain⟨E,hE⟩:∃E,ocV p.e=E:=⟨_,rfl⟩
 have z:Hid ((insF p.e=0→(D=if outV p.dec=3 then 4 else 0)∧(E=if outV p.dec=3 then 0 else outV p.dec))∧(insF p.e≠0→D=insF p.e∧E=0)):=by
  refine⟨fun h0=>⟨?_,?_⟩,fun h0=>⟨?_,?_⟩⟩
  ·rw[←hD];exact if_pos h0
  ·rw[←hE];exact if_pos h0
  ·rw[←hD];exact if_neg h0
  ·rw[←hE];exact if_neg h0
 rw[hD,hE];clear hD hE;generalize bdOf p=BD at*;generalize insF p.e=C at*;generalize p.e.rounds=rs at*;obtain⟨has,vb,x,vr,d,vd,dec⟩:=p;obtain⟨ba,bk,rfl⟩:∃a c,vb=Q a x.length c:=h.1.shape;obtain⟨va,vk,rfl⟩:∃a c,vr=Q a d.length c:=h.2.1.shape;obtain⟨da,dk,rfl⟩:∃a c,vd=Q a dec.length c:=h.2.2.shape;dsimp only at M Y J z;have hB:Below w.heap.size w ((w.alloc (.cells #[.bool has,Q ba x.length bk,Q va d.length vk,Q da dec.length dk] 117)).alloc (.cells #[G K 0,G K 0] 53)):=by go_grown
 have Rb:=f (w.alloc (.cells #[.bool has,Q ba x.length bk,Q va d.length vk,Q da dec.length dk] 117)) 53 #[G K 0,G K 0];simp only[World.size_alloc]at Rb;have U:(H.info? 261).map (·.size)=some BD.toArray.size:=by rw[List.size_toArray,N];exact z3M
 have O:(#[G K 0,G K 0,G K 0,G K 0,G K 0,G K 0,G K 0,G K 0,G K 0,G K 0,G K 0,G K 0,G K 0,G K 0,G K 0,G K 0,G K 0,G K 0,G K 0,G K 0,G K 0,G K 0,G K 0,G K 0,G K 0,.bool false,Q none 0 0,G K 0,G K 0,G K 0]:Array Value).size=BD.toArray.size:=(show 30=BD.length from N.symm)
 go_enter func126,ntmps126
 go_wp2_with fail
 generalize (w.alloc (.cells #[.bool has,Q ba x.length bk,Q va d.length vk,Q da dec.length dk] 117)).alloc (.cells #[G K 0,G K 0] 53)=W at*;refine(M W (hG.below hB) (Y W hB)).mono ?_;rintro e w1 ⟨rfl,V⟩;replace hB:=hB.trans (V.mono hB.size);replace Rb:=Rb.below V;have Bz:=f w1 261 #[G K 0,G K 0,G K 0,G K 0,G K 0,G K 0,G K 0,G K 0,G K 0,G K 0,G K 0,G K 0,G K 0,G K 0,G K 0,G K 0,G K 0,G K 0,G K 0,G K 0,G K 0,G K 0,G K 0,G K 0,G K 0,.bool false,Q none 0 0,G K 0,G K 0,G K 0];have L:=z0j (hB.alloc hB.size (.cells #[G K 0,G K 0,G K 0,G K 0,G K 0,G K 0,G K 0,G K 0,G K 0,G K 0,G K 0,G K 0,G K 0,G K 0,G K 0,G K 0,G K 0,G K 0,G K 0,G K 0,G K 0,G K 0,G K 0,G K 0,G K 0,.bool false,Q none 0 0,G K 0,G K 0,G K 0] 261)) (g:=w1.heap.size) hB.size BD.toArray;have A:Blk ((w1.alloc (.cells #[G K 0,G K 0,G K 0,G K 0,G K 0,G K 0,G K 0,G K 0,G K 0,G K 0,G K 0,G K 0,G K 0,G K 0,G K 0,G K 0,G K 0,G K 0,G K 0,G K 0,G K 0,G K 0,G K 0,G K 0,G K 0,.bool false,Q none 0 0,G K 0,G K 0,G K 0] 261)).setRow w1.heap.size BD.toArray) (w.heap.size+1) 53 #[G K 0,G K 0]:=(setRow_other _ _ _ _ (by have:=Rb.lt;omega)).trans (Rb.below ((Below.refl _ _).alloc (Nat.le_refl _) _));have B2:=Bz.row BD.toArray;clear M Y V Rb;by_cases h0:C=0
 ·obtain⟨Z,ad,h4,I⟩:=J.out h0;have HD:Hid (D=if outV dec=3 then 4 else 0):=(z.out.1 h0).1;have HV:Hid (E=if outV dec=3 then 0 else outV dec):=(z.out.1 h0).2;subst h0;have aa:=rng B2 (dec.map iv) (o:=27) (fun j v hv=>by
   obtain⟨hj,rfl⟩:=row_get I hv;rw[List.getElem?_toArray,Z];exact q2b ad h4 I j hj)
  have ab:(H.info? 254).map (·.size)=some (dec.map iv).length:=by rw[i,I];exact z6y
  clear J z Z
  go_wp2_with (first|(refine z0s (by kernel_rfl) 261 _ _ rfl _ BD.toArray rfl rfl 261 _ Bz U O T ?_)|(refine q02 (by kernel_rfl) 254 _ rfl _ _ rfl (dec.map iv) _ aa Tryz.underlying254 rfl ab ?_))
  clear aa Bz;generalize (w1.alloc (.cells #[G K 0,G K 0,G K 0,G K 0,G K 0,G K 0,G K 0,G K 0,G K 0,G K 0,G K 0,G K 0,G K 0,G K 0,G K 0,G K 0,G K 0,G K 0,G K 0,G K 0,G K 0,G K 0,G K 0,G K 0,G K 0,.bool false,Q none 0 0,G K 0,G K 0,G K 0] 261)).setRow w1.heap.size BD.toArray=X at*;go_loopw[18] (fun j wr=>∃m:Nat,m≤3∧j=G K m∧Hid (∀j,j<m→dec.getD j 0=3)∧wr=X) (fun j _=>3-(intOf j).toNat)
  case atStart=>exact⟨0,Nat.zero_le _,rfl,fun j hj=>absurd hj (Nat.not_lt_zero _),rfl⟩
  case round=>
   obtain⟨m,hm,rfl,HA,rfl⟩:=hrel;obtain⟨q0,q1⟩:=A.cel2;obtain⟨f0,f1⟩:=A.frz2;by_cases af:m<3
   ·have ai:(m:Int)<3:=by omega
    have ak:=fun w=>q2l I m af w
    have HY:Hid (dec.getD m 0≠3→outV dec=dec.getD m 0):=fun hx=>q2r dec m HA.out (by omega) hx
    have HN:Hid (dec.getD m 0=3→∀j,j<m+1→dec.getD j 0=3):=fun hx j hj=>by
     by_cases ae:j=m
     ·subst ae;exact hx
     ·exact HA.out j (by omega)
    clear HA;generalize dec.getD m 0=v at*;by_cases hv:v=3
    ·have ah:(v !=3)=false:=by simp[hv]
     have R:=HN.out hv;have HR:Hid _:=R;clear HY HN R hv
     go_wp2
     go_roundw
     case rel=>exact⟨m+1,by omega,by go_num,HR.out,by first|rfl|trivial⟩
     case measure=>simp[intOf];omega
    ·have ah:(v !=3)=true:=by simpa using hv
     have y:=HY.out hv;have E1:Hid (D=0∧E=v):=by
      refine⟨?_,?_⟩
      ·rw[HD.out,y,if_neg hv]
      ·rw[HV.out,y,if_neg hv]
     clear HY HN HD HV y hv
     go_wp2
     exact bodyPost_ret (v:=.agg #[G K 0,G K v]) (by simp[results,results126,go_sem,q0,q1]) rfl ⟨by rw[E1.out.1,E1.out.2],(L.setCell (p:=⟨w.heap.size+1,0,none⟩) (by show w.heap.size≤w.heap.size+1;omega) _).setCell (p:=⟨w.heap.size+1,1,none⟩) (by show w.heap.size≤w.heap.size+1;omega) _⟩
   ·have ag:m=3:=by omega
    subst ag;have y:=z8u dec (by rw[I];exact HA.out);have E1:Hid (D=4∧E=0):=by
     refine⟨?_,?_⟩
     ·rw[HD.out,y,if_pos rfl]
     ·rw[HV.out,y,if_pos rfl]
    clear HA HD HV y
    go_wp2
    exact bodyPost_ret (v:=.agg #[G K 4,G K 0]) (by simp[results,results126,go_sem,q0,q1]) rfl ⟨by rw[E1.out.1,E1.out.2],(L.setCell (p:=⟨w.heap.size+1,0,none⟩) (by show w.heap.size≤w.heap.size+1;omega) _).setCell (p:=⟨w.heap.size+1,1,none⟩) (by show w.heap.size≤w.heap.size+1;omega) _⟩
 ·have E1:Hid (D=C∧E=0):=z.out.2 h0;have aj:(C !=0)=true:=by simpa using h0
  obtain⟨q0,q1⟩:=A.cel2;obtain⟨f0,f1⟩:=A.frz2;clear z J h0 B2 A;generalize hX:(w1.alloc (.cells #[G K 0,G K 0,G K 0,G K 0,G K 0,G K 0,G K 0,G K 0,G K 0,G K 0,G K 0,G K 0,G K 0,G K 0,G K 0,G K 0,G K 0,G K 0,G K 0,G K 0,G K 0,G K 0,G K 0,G K 0,G K 0,.bool false,Q none 0 0,G K 0,G K 0,G K 0] 261)).setRow w1.heap.size BD.toArray=X at q0 q1 f0 f1 L
  go_wp2_with (refine z0s (by kernel_rfl) 261 _ _ rfl _ BD.toArray rfl rfl 261 _ Bz U O T ?_)
  exact bodyPost_ret (v:=.agg #[G K C,G K 0]) (by simp[results,results126,go_sem,q0,q1]) rfl ⟨by rw[E1.out.1,E1.out.2],(L.setCell (p:=⟨w.heap.size+1,0,none⟩) (by show w.heap.size≤w.heap.size+1;omega) _).setCell (p:=⟨w.heap.size+1,1,none⟩) (by show w.heap.size≤w.heap.size+1;omega) _⟩
theorem z2m(b o:Nat)(p:InstQ)(w:World)(hP:InstP w b o p)(hl:p.n≤1048576):
  Calls H 124 #[.pointer (some ⟨b,o,none⟩)] w fun e w'=>e=.returned (G K (outV p.dec))∧w'=w:=by
 obtain⟨has,vb,batch,vr,rounds,vd,dec⟩:=p;have hD:intK.At w vd dec:=hP.dec;obtain⟨da,dk,rfl⟩:=hD.shape;have hRow:=(z04 hD).2;obtain⟨c0,c1,c2,c3⟩:=hP.box;dsimp only[InstQ.n]at c0 c1 c2 c3 hl⊢;generalize hE:outV dec=E;have HE:Hid (outV dec=E):=hE;clear hE;go_enter func124,ntmps124
 go_wp2
 go_loop[3] (fun j=>∃k:Nat,k≤dec.length∧j=G K k∧Hid (∀j,j<k→dec.getD j 0=3)) (fun j=>dec.length-(intOf j).toNat)
 case atStart=>exact⟨0,Nat.zero_le _,rfl,fun j hj=>absurd hj (Nat.not_lt_zero _)⟩
 case round=>
  obtain⟨k,hk,rfl,HA⟩:=hrel;by_cases hlt:k<dec.length
  ·obtain⟨bb,off,rfl,hbs,hc⟩:=hRow k hlt;have HY:Hid (dec.getD k 0≠3→E=dec.getD k 0):=fun hx=>by rw[←HE.out];exact q2r dec k HA.out hlt hx
   have HN:Hid (dec.getD k 0=3→∀j,j<k+1→dec.getD j 0=3):=fun hx j hj=>by
    by_cases hjm:j=k
    ·subst hjm;exact hx
    ·exact HA.out j (by omega)
   clear HA;generalize dec.getD k 0=v at*;by_cases hv:v=3
   ·have hv':(v !=3)=false:=by simp[hv]
    have R:=HN.out hv;have HR:Hid _:=R;clear HY HN R hv
    go_wp2
    go_round
    case rel=>exact⟨k+1,by omega,by go_num,HR.out⟩
    case measure=>simp[intOf];omega
   ·have hv':(v !=3)=true:=by simpa using hv
    have E1:Hid (E=v):=HY.out hv;clear HY HN hv
    go_wp2
    go_ret;exact⟨by rw[E1.out];rfl,rfl⟩
  ·have hkl:k=dec.length:=by omega
   subst hkl;have E1:Hid (E=3):=by rw[←HE.out];exact z8u dec HA.out
   clear HA HE
   go_wp2
   go_ret;exact⟨by rw[E1.out];rfl,rfl⟩
end Go.Proofs.YtlkpdgjnhkjpjaaGreatDoor
