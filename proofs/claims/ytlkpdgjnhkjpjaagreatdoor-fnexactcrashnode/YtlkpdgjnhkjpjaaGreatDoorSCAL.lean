/- Texts joined,with what the laws reach alone. -/
import Derived.Test.YtlkpdgjnhkjpjaaGreatDoorSCAK
set_option linter.unusedVariables false
set_option linter.unusedSimpArgs false
set_option maxRecDepth 100000
set_option maxHeartbeats 8000000
namespace Go.Proofs.YtlkpdgjnhkjpjaaGreatDoor
open Go.RowKit Go.BigFrame
theorem z6W(p:InstQ)(w:World)(h:instK.rd w p)(hl:p.n≤1048576):
  Calls Tryz.prog 238 #[.agg #[.bool p.has,p.vb,p.vr,p.vd]] w fun e w'=>e=.returned (.int .i64 (shpF p.e))∧Below w.heap.size w w':=by
 obtain⟨has,vb,d,vr,c,vd,dec⟩:=p;dsimp only[InstQ.n]at hl;have HE:Hid (shpF (InstQ.e ⟨has,vb,d,vr,c,vd,dec⟩)=if has=false∧0 < (d.map TxnQ.e).length then 1 else
  if has=true∧batF (d.map TxnQ.e)≠0 then batF (d.map TxnQ.e)else
  if(c.map RoundQ.e).length<1∨4<(c.map RoundQ.e).length then 2 else
  if z0M (c.map RoundQ.e)=0 then vf dec 1 else z0M (c.map RoundQ.e)):=by
  exact(rfl:shpF _=_)
 generalize shpF (InstQ.e ⟨has,vb,d,vr,c,vd,dec⟩)=E at HE⊢;obtain⟨hT,hR,hD⟩:txnK.At w vb d∧roundK.At w vr c∧intK.At w vd dec:=h;obtain⟨ba,bk,rfl⟩:=hT.shape;obtain⟨va,vk,rfl⟩:=hR.shape;obtain⟨da,dk,rfl⟩:=hD.shape;have hv:=fun w h=>z5Z (.slice ba d.length bk) (d.map TxnQ.e) w h (by rw[List.length_map,q1A];omega)
 have hB:Below w.heap.size w (w.alloc (.cells #[.bool has,.slice ba d.length bk,.slice va c.length vk,.slice da dec.length dk] 117)):=by go_grown
 have Bx:=Blk.new w 117 #[.bool has,.slice ba d.length bk,.slice va c.length vk,.slice da dec.length dk];replace hT:=hT.below hB;replace hR:=hR.below hB;replace hD:=hD.below hB
 cases has with
 |false=>
  by_cases h0:0<d.length
  ·have E1:Hid (E=1):=by rw[HE.out,if_pos ⟨rfl,by simpa using h0⟩];rfl
   clear HE hv;go_enter Tryz.func238,Tryz.ntmps238
   go_wp2
   go_ret;exact⟨by rw[E1.out];rfl,hB⟩
  ·have HS:Hid (E=if(c.map RoundQ.e).length<1∨4<(c.map RoundQ.e).length then 2 else if z0M (c.map RoundQ.e)=0 then vf dec 1 else z0M (c.map RoundQ.e)):=by
    have:=HE.out;rw[if_neg (fun h=>h0 (by simpa using h.2)),if_neg (by simp)]at this;exact this
   clear HE hv;have aj:¬(0:Int)<d.length:=by omega
   go_enter Tryz.func238,Tryz.ntmps238;by_cases U:c.length<1
   ·have E2:Hid (E=2):=by rw[HS.out,if_pos (Or.inl (by simpa using U))];rfl
    clear HS
    go_wp2
    go_ret;exact⟨by rw[E2.out];rfl,hB⟩
   ·by_cases V:4<c.length
    ·have E2:Hid (E=2):=by rw[HS.out,if_pos (Or.inr (by simpa using V))];rfl
     clear HS
     go_wp2
     go_ret;exact⟨by rw[E2.out];rfl,hB⟩
    ·have I:Hid (E=if z0M (c.map RoundQ.e)=0 then vf dec 1 else z0M (c.map RoundQ.e)):=by
      have:=HS.out;rw[if_neg (by simp only[List.length_map];omega)]at this;exact this
     have ae:¬(c.length:Int)<1:=by omega
     have af:¬(4:Int)<c.length:=by omega
     clear HS U V
     go_wp2
     generalize (w.alloc (.cells #[.bool false,.slice ba d.length bk,.slice va c.length vk,.slice da dec.length dk] 117))=W at*;go_loopw[38] (fun j wr=>∃k:Nat,k≤c.length∧j=.int .i64 k∧Hid (∀j,j<k→vf ((c.map RoundQ.e).getD j z0F).rep 1=0∧vf ((c.map RoundQ.e).getD j z0F).pro 2=0)∧Below W.heap.size W wr) (fun j _=>c.length-(intOf j).toNat)
     case atStart=>exact⟨0,Nat.zero_le _,rfl,fun j hj=>absurd hj (Nat.not_lt_zero _),Below.refl _ _⟩
     case round=>
      obtain⟨k,hk,rfl,HA,hb⟩:=hrel;have A:=hB.trans (hb.mono hB.size);by_cases C:k<c.length
      ·obtain⟨rb,ro,rfl,ah,hc,ab⟩:=(hR.below hb).cell (by decide) k C;have O:∀j x,(roundK.cells c[k])[j]?=some x→wr.cell? ⟨rb,ro+k*2+j,none⟩=some x:=hc;have r0:=O 0 (c[k].vr) rfl;have r1:=O 1 (c[k].vp) rfl;have ai:=z9L c k C;have y:=z19 (c.map RoundQ.e) k HA.out (by simpa using C);rw[z1m c k C]at y;dsimp only[RoundQ.e]at y;have L:Hid (vf c[k].rep 1≠0→E=vf c[k].rep 1):=fun h=>by rw[I.out,y.1 h,if_neg h]
       have M:Hid (vf c[k].rep 1=0→vf c[k].pro 2≠0→E=vf c[k].pro 2):=fun h h2=>by rw[I.out,y.2 h h2,if_neg h2]
       have HN:Hid (vf c[k].rep 1=0→vf c[k].pro 2=0→∀j,j<k+1→vf ((c.map RoundQ.e).getD j z0F).rep 1=0∧vf ((c.map RoundQ.e).getD j z0F).pro 2=0):=by
        intro h1 h2 j hj;by_cases Z:j=k
        ·subst Z;rw[z1m c j C];exact⟨h1,h2⟩
        ·exact HA.out j (by omega)
       clear HA y hc O;generalize c[k]=q at*;obtain⟨qv,qr,qw,qp⟩:=q;obtain⟨rA,rP⟩:intK.At wr qv qr∧intK.At wr qw qp:=ab;dsimp only at*;obtain⟨ra,rk,rfl⟩:=rA.shape;obtain⟨pa,pk,rfl⟩:=rP.shape;have N:Below wr.heap.size wr (wr.alloc (.cells #[.slice ra qr.length rk,.slice pa qp.length pk] 203)):=by go_grown
       have Y:=hb.alloc hb.size (.cells #[.slice ra qr.length rk,.slice pa qp.length pk] 203);have A:=A.alloc A.size (.cells #[.slice ra qr.length rk,.slice pa qp.length pk] 203);have Bx:=Blk.new wr 203 #[.slice ra qr.length rk,.slice pa qp.length pk];have z:=z0A ra rk qr 1 _ (z0Y (rA.below N)).2 (by omega);have J:=z0A pa pk qp 2 _ (z0Y (rP.below N)).2 (by omega);rw[q5d]at z;rw[q5V]at J;rw[Nat.add_zero]at r0;clear rA rP N
       go_wp2_with fail
       generalize wr.alloc (.cells #[.slice ra qr.length rk,.slice pa qp.length pk] 203)=X at*;refine z.mono ?_;rintro e w2 ⟨rfl,hw⟩;replace hw:=hw.symm;subst hw;clear z r0 r1;by_cases h1:vf qr 1=0
       ·have HF:Hid (vf qp 2≠0→E=vf qp 2):=M.out h1;have HM:Hid (vf qp 2=0→_):=HN.out h1;rw[h1];clear L M HN h1;have p1:=Bx.cell 1 _ rfl
        go_wp2_with fail
        refine J.mono ?_;rintro e w2 ⟨rfl,hw⟩;replace hw:=hw.symm;subst hw;clear J p1 Bx;by_cases h2:vf qp 2=0
        ·have R:=HM.out h2;have HR:Hid _:=R;rw[h2];clear HF HM R h2
         go_wp2
         go_roundw
         case rel=>exact⟨k+1,by omega,by go_num,HR.out,Y⟩
         case measure=>simp[intOf];omega
        ·have E2:Hid (E=vf qp 2):=HF.out h2;have ag:(vf qp 2 !=0)=true:=by simpa using h2
         clear HF HM h2;generalize vf qp 2=r at*
         go_wp2
         go_ret;exact⟨by rw[E2.out];rfl,A⟩
       ·have E2:Hid (E=vf qr 1):=L.out h1;have ad:(vf qr 1 !=0)=true:=by simpa using h1
        clear L M HN h1 J;generalize vf qr 1=r at*
        go_wp2
        go_ret;exact⟨by rw[E2.out];rfl,A⟩
      ·have aa:k=c.length:=by omega
       subst aa;have E2:Hid (E=vf dec 1):=by
        have:=I.out;rw[if_pos (z2I _ (by simpa using HA.out))]at this;exact this
       have Br:=Bx.below hb;have c3:=Br.cell 3 _ rfl;have z:=z0A da dk dec 1 wr (z0Y (hD.below hb)).2 (by omega);rw[q5d]at z;clear HA I
       go_wp2_with fail
       refine z.mono ?_;rintro e w2 ⟨rfl,hw⟩;replace hw:=hw.symm;subst hw;generalize vf dec 1=r at*;clear z c3
       go_wp2
       go_ret;exact⟨by rw[E2.out];rfl,A⟩
 |true=>
  go_enter Tryz.func238,Tryz.ntmps238
  go_wp2_with fail
  generalize w.alloc (.cells #[.bool true,.slice ba d.length bk,.slice va c.length vk,.slice da dec.length dk] 117)=W at*;refine(hv W (z71 hT)).mono ?_;rintro e w1 ⟨rfl,T⟩;replace hR:=hR.below T;replace hD:=hD.below T;replace Bx:=Bx.below T;replace hB:=hB.trans (T.mono hB.size);clear hv T hT;by_cases h1:batF (d.map TxnQ.e)=0
  ·have HS:Hid (E=if(c.map RoundQ.e).length<1∨4<(c.map RoundQ.e).length then 2 else if z0M (c.map RoundQ.e)=0 then vf dec 1 else z0M (c.map RoundQ.e)):=by
    have:=HE.out;rw[if_neg (by simp),if_neg (fun h=>h.2 h1)]at this;exact this
   rw[h1];clear HE h1;by_cases U:c.length<1
   ·have E2:Hid (E=2):=by rw[HS.out,if_pos (Or.inl (by simpa using U))];rfl
    clear HS;obtain⟨c0,c1,c2⟩:=Bx.cel3
    go_wp2
    go_ret;exact⟨by rw[E2.out];rfl,hB⟩
   ·by_cases V:4<c.length
    ·have E2:Hid (E=2):=by rw[HS.out,if_pos (Or.inr (by simpa using V))];rfl
     clear HS;obtain⟨c0,c1,c2⟩:=Bx.cel3
     go_wp2
     go_ret;exact⟨by rw[E2.out];rfl,hB⟩
    ·have I:Hid (E=if z0M (c.map RoundQ.e)=0 then vf dec 1 else z0M (c.map RoundQ.e)):=by
      have:=HS.out;rw[if_neg (by simp only[List.length_map];omega)]at this;exact this
     have ae:¬(c.length:Int)<1:=by omega
     have af:¬(4:Int)<c.length:=by omega
     clear HS U V;obtain⟨c0,c1,c2⟩:=Bx.cel3
     go_wp2
     clear c0 c1 c2;go_loopw[38] (fun j wr=>∃k:Nat,k≤c.length∧j=.int .i64 k∧Hid (∀j,j<k→vf ((c.map RoundQ.e).getD j z0F).rep 1=0∧vf ((c.map RoundQ.e).getD j z0F).pro 2=0)∧Below w1.heap.size w1 wr) (fun j _=>c.length-(intOf j).toNat)
     case atStart=>exact⟨0,Nat.zero_le _,rfl,fun j hj=>absurd hj (Nat.not_lt_zero _),Below.refl _ _⟩
     case round=>
      obtain⟨k,hk,rfl,HA,hb⟩:=hrel;have A:=hB.trans (hb.mono hB.size);by_cases C:k<c.length
      ·obtain⟨rb,ro,rfl,ah,hc,ab⟩:=(hR.below hb).cell (by decide) k C;have O:∀j x,(roundK.cells c[k])[j]?=some x→wr.cell? ⟨rb,ro+k*2+j,none⟩=some x:=hc;have r0:=O 0 (c[k].vr) rfl;have r1:=O 1 (c[k].vp) rfl;have ai:=z9L c k C;have y:=z19 (c.map RoundQ.e) k HA.out (by simpa using C);rw[z1m c k C]at y;dsimp only[RoundQ.e]at y;have L:Hid (vf c[k].rep 1≠0→E=vf c[k].rep 1):=fun h=>by rw[I.out,y.1 h,if_neg h]
       have M:Hid (vf c[k].rep 1=0→vf c[k].pro 2≠0→E=vf c[k].pro 2):=fun h h2=>by rw[I.out,y.2 h h2,if_neg h2]
       have HN:Hid (vf c[k].rep 1=0→vf c[k].pro 2=0→∀j,j<k+1→vf ((c.map RoundQ.e).getD j z0F).rep 1=0∧vf ((c.map RoundQ.e).getD j z0F).pro 2=0):=by
        intro h1 h2 j hj;by_cases Z:j=k
        ·subst Z;rw[z1m c j C];exact⟨h1,h2⟩
        ·exact HA.out j (by omega)
       clear HA y hc O;generalize c[k]=q at*;obtain⟨qv,qr,qw,qp⟩:=q;obtain⟨rA,rP⟩:intK.At wr qv qr∧intK.At wr qw qp:=ab;dsimp only at*;obtain⟨ra,rk,rfl⟩:=rA.shape;obtain⟨pa,pk,rfl⟩:=rP.shape;have N:Below wr.heap.size wr (wr.alloc (.cells #[.slice ra qr.length rk,.slice pa qp.length pk] 203)):=by go_grown
       have Y:=hb.alloc hb.size (.cells #[.slice ra qr.length rk,.slice pa qp.length pk] 203);have A:=A.alloc A.size (.cells #[.slice ra qr.length rk,.slice pa qp.length pk] 203);have Bx:=Blk.new wr 203 #[.slice ra qr.length rk,.slice pa qp.length pk];have z:=z0A ra rk qr 1 _ (z0Y (rA.below N)).2 (by omega);have J:=z0A pa pk qp 2 _ (z0Y (rP.below N)).2 (by omega);rw[q5d]at z;rw[q5V]at J;rw[Nat.add_zero]at r0;clear rA rP N
       go_wp2_with fail
       generalize wr.alloc (.cells #[.slice ra qr.length rk,.slice pa qp.length pk] 203)=X at*;refine z.mono ?_;rintro e w2 ⟨rfl,hw⟩;replace hw:=hw.symm;subst hw;clear z r0 r1;by_cases h1:vf qr 1=0
       ·have HF:Hid (vf qp 2≠0→E=vf qp 2):=M.out h1;have HM:Hid (vf qp 2=0→_):=HN.out h1;rw[h1];clear L M HN h1;have p1:=Bx.cell 1 _ rfl
        go_wp2_with fail
        refine J.mono ?_;rintro e w2 ⟨rfl,hw⟩;replace hw:=hw.symm;subst hw;clear J p1 Bx;by_cases h2:vf qp 2=0
        ·have R:=HM.out h2;have HR:Hid _:=R;rw[h2];clear HF HM R h2
         go_wp2
         go_roundw
         case rel=>exact⟨k+1,by omega,by go_num,HR.out,Y⟩
         case measure=>simp[intOf];omega
        ·have E2:Hid (E=vf qp 2):=HF.out h2;have ag:(vf qp 2 !=0)=true:=by simpa using h2
         clear HF HM h2;generalize vf qp 2=r at*
         go_wp2
         go_ret;exact⟨by rw[E2.out];rfl,A⟩
       ·have E2:Hid (E=vf qr 1):=L.out h1;have ad:(vf qr 1 !=0)=true:=by simpa using h1
        clear L M HN h1 J;generalize vf qr 1=r at*
        go_wp2
        go_ret;exact⟨by rw[E2.out];rfl,A⟩
      ·have aa:k=c.length:=by omega
       subst aa;have E2:Hid (E=vf dec 1):=by
        have:=I.out;rw[if_pos (z2I _ (by simpa using HA.out))]at this;exact this
       have Br:=Bx.below hb;have c3:=Br.cell 3 _ rfl;have z:=z0A da dk dec 1 wr (z0Y (hD.below hb)).2 (by omega);rw[q5d]at z;clear HA I
       go_wp2_with fail
       refine z.mono ?_;rintro e w2 ⟨rfl,hw⟩;replace hw:=hw.symm;subst hw;generalize vf dec 1=r at*;clear z c3
       go_wp2
       go_ret;exact⟨by rw[E2.out];rfl,A⟩
  ·have E1:Hid (E=batF (d.map TxnQ.e)):=by
    have:=HE.out;rw[if_neg (by simp),if_pos ⟨by simp,h1⟩]at this;exact this
   have ad:(batF (d.map TxnQ.e) !=0)=true:=by simpa using h1
   clear HE h1;generalize batF (d.map TxnQ.e)=r at*
   go_wp2
   go_ret;exact⟨by rw[E1.out];rfl,hB⟩
def brd0:List Value:=brdC false (.slice none 0 0) [] [0,0,0]
theorem z3l{fn:Func}{p q:Tmp}{ty:TypeId}(h:fn.results=#[.cell p ty,.tmp q])(tmps:Array Value)(w:World)(g:Nat)(cs:Array Value)(v:Value)
  (hp:tmps.getD p undef=.pointer (some ⟨g,0,none⟩)) (hq:tmps.getD q undef=v) (hld:(loadVar ty ⟨g,0,none⟩).run Tryz.prog w=.ok (.agg cs) w):
  (results fn tmps).run Tryz.prog w=.ok (.tuple #[.agg cs,v]) w:=by
 have hp':tmps[p]?.getD undef=.pointer (some ⟨g,0,none⟩):=by simpa using hp
 have hq':tmps[q]?.getD undef=v:=by simpa using hq
 simp[results,h,hp',hq',asAddr,hld]
theorem q1M{w:World}{g:Nat}{t:TypeId}{L:List Value}(hB:Blk w g t L.toArray)(hl:L.length=30):(loadVar 261 ⟨g,0,none⟩).run Tryz.prog w=.ok (.agg L.toArray) w:=
 run_loadVar_mid w g 0 261 L _ (rng hB L (fun j v hv=>by rw[Nat.zero_add,List.getElem?_toArray];exact hv)) Tryz.underlying261 rfl (by rw[hl];exact z3D)
theorem q3M{rs:List RoundE}(h:z0M rs=0):Wel rs:=fun r hr=>by
 obtain⟨k,hk,rfl⟩:=List.getElem_of_mem hr;have:=z1O h k hk;have e:rs.getD k z0F=rs[k]:=by simp[List.getD,hk]
 rw[e]at this;exact⟨z00 this.1,z00 this.2⟩
theorem q29{rs:List RoundE}(h:Wel rs)(k:Nat):Wel (rs.take k):=fun r hr=>h r (List.mem_of_mem_take hr)
theorem q5i{x:InstE}(h:shpF x=0):insF x=if q42 x then 0 else 10:=if_pos h
theorem z5m(p:InstQ)(w:World)(hG:Rul w)(h:instK.rd w p)(hl:p.n≤1048576):
  Calls Tryz.prog 187 #[.agg #[.bool p.has,p.vb,p.vr,p.vd]] w fun e w'=>e=.returned (.tuple #[.agg (if insF p.e=0 then brdC p.has p.vb p.e.rounds p.dec else brd0).toArray,.int .i64 (insF p.e)])∧Below w.heap.size w w':=by
 have ay:=fun w h=>z6W p w h hl
 have aB:=fun(w':World) hb=>instK.rd_below (w':=w') h hb
 generalize hC:insF p.e=C;generalize aK:(if C=0 then brdC p.has p.vb p.e.rounds p.dec else brd0)=BD;have HC:Hid (insF p.e=C∧(if C=0 then brdC p.has p.vb p.e.rounds p.dec else brd0)=BD):=And.intro hC aK;clear hC aK;obtain⟨has,vb,d,vr,c,vd,dec⟩:=p;obtain⟨hT,hR,hD⟩:txnK.At w vb d∧roundK.At w vr c∧intK.At w vd dec:=h;obtain⟨ba,bk,rfl⟩:=hT.shape;obtain⟨va,vk,rfl⟩:=hR.shape;obtain⟨da,dk,rfl⟩:=hD.shape;dsimp only at ay aB;have B:=(Blk.new w 117 #[.bool has,.slice ba d.length bk,.slice va c.length vk,.slice da dec.length dk]).below (w':=(w.alloc (.cells #[.bool has,.slice ba d.length bk,.slice va c.length vk,.slice da dec.length dk] 117)).alloc (.cells brd0.toArray 261)) (by go_grown);have Rb:=Blk.new (w.alloc (.cells #[.bool has,.slice ba d.length bk,.slice va c.length vk,.slice da dec.length dk] 117)) 261 brd0.toArray;simp only[World.size_alloc]at Rb;have hB:Below w.heap.size w ((w.alloc (.cells #[.bool has,.slice ba d.length bk,.slice va c.length vk,.slice da dec.length dk] 117)).alloc (.cells brd0.toArray 261)):=by go_grown
 have bi:(Tryz.prog.info? 261).map (·.size)=some brd0.toArray.size:=by kernel_rfl
 have bc:brd0.toArray.size=brd0.toArray.size:=rfl;have ar:(Tryz.prog.info? 261).map (·.size)=some (#[.int .i64 0,.int .i64 0,.int .i64 0,.int .i64 0,.int .i64 0,.int .i64 0,.int .i64 0,.int .i64 0,.int .i64 0,.int .i64 0,.int .i64 0,.int .i64 0,.int .i64 0,.int .i64 0,.int .i64 0,.int .i64 0,.int .i64 0,.int .i64 0,.int .i64 0,.int .i64 0,.int .i64 0,.int .i64 0,.int .i64 0,.int .i64 0,.int .i64 0,.bool false,.slice none 0 0,.int .i64 0,.int .i64 0,.int .i64 0]:Array Value).size:=by kernel_rfl
 have aa:brd0.toArray.size=(#[.int .i64 0,.int .i64 0,.int .i64 0,.int .i64 0,.int .i64 0,.int .i64 0,.int .i64 0,.int .i64 0,.int .i64 0,.int .i64 0,.int .i64 0,.int .i64 0,.int .i64 0,.int .i64 0,.int .i64 0,.int .i64 0,.int .i64 0,.int .i64 0,.int .i64 0,.int .i64 0,.int .i64 0,.int .i64 0,.int .i64 0,.int .i64 0,.int .i64 0,.bool false,.slice none 0 0,.int .i64 0,.int .i64 0,.int .i64 0]:Array Value).size:=rfl;have ab:(#[.int .i64 0,.int .i64 0,.int .i64 0,.int .i64 0,.int .i64 0,.int .i64 0,.int .i64 0,.int .i64 0,.int .i64 0,.int .i64 0,.int .i64 0,.int .i64 0,.int .i64 0,.int .i64 0,.int .i64 0,.int .i64 0,.int .i64 0,.int .i64 0,.int .i64 0,.int .i64 0,.int .i64 0,.int .i64 0,.int .i64 0,.int .i64 0,.int .i64 0,.bool false,.slice none 0 0,.int .i64 0,.int .i64 0,.int .i64 0]:Array Value).all (·.oneCell')=true:=by kernel_rfl
 have bd:brd0.toArray.all (·.oneCell')=true:=by kernel_rfl
 have bj:#[.int .i64 0,.int .i64 0,.int .i64 0,.int .i64 0,.int .i64 0,.int .i64 0,.int .i64 0,.int .i64 0,.int .i64 0,.int .i64 0,.int .i64 0,.int .i64 0,.int .i64 0,.int .i64 0,.int .i64 0,.int .i64 0,.int .i64 0,.int .i64 0,.int .i64 0,.int .i64 0,.int .i64 0,.int .i64 0,.int .i64 0,.int .i64 0,.int .i64 0,.bool false,.slice none 0 0,.int .i64 0,.int .i64 0,.int .i64 0]=brd0.toArray:=rfl;go_enter Tryz.func187,Tryz.ntmps187
 go_wp2_with fail
 generalize (w.alloc (.cells #[.bool has,.slice ba d.length bk,.slice va c.length vk,.slice da dec.length dk] 117)).alloc (.cells brd0.toArray 261)=W at*;refine(ay W (aB W hB)).mono ?_;rintro e w1 ⟨rfl,al⟩;have Bx:=B.below al;replace Rb:=Rb.below al;replace hB:=hB.trans (al.mono hB.size);have bt:w.heap.size+1<w1.heap.size:=Rb.lt;clear ay aB al B;by_cases h0:shpF (InstQ.e ⟨has,.slice ba d.length bk,d,.slice va c.length vk,c,.slice da dec.length dk,dec⟩)=0
 ·obtain⟨⟨h1,h4⟩,hF,au,_,_⟩:=z1q h0;have aL:=q5i h0;replace hF:z0M (c.map RoundQ.e)=0:=hF;replace au:vf dec 1=0:=au;replace h1:1≤(c.map RoundQ.e).length:=h1;replace h4:(c.map RoundQ.e).length≤4:=h4;rw[List.length_map]at h1 h4;have ai:Hid (C=if(List.range (c.map RoundQ.e).length).all (q00 has (c.map RoundQ.e)) && z5R (c.map RoundQ.e) dec then 0 else 10):=HC.out.1.symm.trans aL;have ah:Hid ((if C=0 then brdC has (.slice ba d.length bk) (c.map RoundQ.e) dec else brd0)=BD):=HC.out.2;rw[h0];clear h0 aL HC;have a7:=z00 au;obtain⟨d0,d1,d2,rfl⟩:=z96 a7;have ak:=(z0Y (hD.below hB)).2;obtain⟨db,U,a8,_,_⟩:=ak 0 (by simp);subst a8;have aC:=fun b aD cap w h h3=>z73 b aD cap [d0,d1,d2] w h h3
  have ad:=fun zs b aD cap w h h3=>z73 b aD cap zs w h h3
  have a6:[d0,d1,d2].length=3:=rfl;rw[a6]at Bx
  go_wp2_with fail
  refine z05 [some 14,some 15,some 16,some 17,some 18,some 19,some 20,some 21,some 5] (fun vs w'=>∃g:Nat,vs=[.pointer (some ⟨w.heap.size,0,none⟩),.bool has,.pointer (some ⟨w.heap.size,1,none⟩),.slice ba d.length bk,.pointer (some ⟨w.heap.size,3,none⟩),.slice (some ⟨db,U,none⟩) 3 dk,.agg #[iv d0,iv d1,iv d2],.agg (brdC has (.slice ba d.length bk) [] [d0,d1,d2]).toArray,.pointer (some ⟨g,0,none⟩)]∧w1.heap.size≤g∧Blk w' g 261 (brdC has (.slice ba d.length bk) [] [d0,d1,d2]).toArray∧Below w1.heap.size w1 w') ?_ ?_
  ·have hW:Below w1.heap.size w1 w1.drew:=(Below.refl _ _).drew;have aO:Nonempty (Lat w1):=⟨⟨w1,Below.refl _ _⟩⟩
   obtain⟨p0,p1⟩:=Bx.lts2;have p3:=Bx.lat 3 _ rfl;have I:(Tryz.prog.info? 261).map (·.size)=some (brdC has (.slice ba d.length bk) [] [d0,d1,d2]).toArray.size:=by kernel_rfl
   have ap:brd0.toArray.size=(brdC has (.slice ba d.length bk) [] [d0,d1,d2]).toArray.size:=rfl;have aq:(brdC has (.slice ba d.length bk) [] [d0,d1,d2]).toArray.all (·.oneCell')=true:=by kernel_rfl
   refine z0e (S:=fun w'=>∃u:Lat w1,w'=u.val) (by kernel_rfl) ?_;refine sgr [(0,6)] 4 (by kernel_rfl) ⟨⟨_,hW⟩,rfl⟩ ?_;simp only[pkE];repeat go_big_quiet_step (fail)
   refine wpQuiet_nil ?_;clear p0 p1 p3;generalize w1.drew=wd at hW⊢;refine twa 6 8 3 (by kernel_rfl) ?_ ?_
   ·refine opc 6 (some 20) 239 #[.slice (some ⟨db,U,none⟩) 3 dk] (by kernel_rfl) ?_;refine(aC db U dk _ (ak.below hW) rfl).mono ?_;rintro e w8 ⟨rfl,A⟩;replace hW:=hW.trans (A.mono hW.size);clear A;refine⟨_,rfl,⟨⟨_,hW⟩,rfl⟩,?_⟩;simp only[Act.put,pgE,pjE];refine qta 7 (some 21) (.agg (brdC has (.slice ba d.length bk) [] [d0,d1,d2]).toArray) 2 (by kernel_rfl) (fun u _=>by kernel_rfl) ⟨⟨_,hW⟩,rfl⟩ ?_;simp only[Act.put,pgE,pjE];refine ona 8 1 rfl (by kernel_rfl) ?_;have Bz:=Blk.new w8 261 brd0.toArray;have O:w1.heap.size≤w8.heap.size:=hW.size;replace hW:=hW.alloc hW.size (.cells brd0.toArray 261)
    go_wp2
    refine ThenGo.to ⟨⟨⟨_,hW⟩,rfl⟩,?_⟩;generalize w8.alloc (.cells brd0.toArray 261)=Z8 at Bz hW⊢;refine ona 9 0 rfl (by kernel_rfl) ?_;refine z0K (by kernel_rfl) 261 _ _ rfl _ (brdC has (.slice ba d.length bk) [] [d0,d1,d2]).toArray rfl rfl 261 _ Bz I ap aq ?_;refine ThenGo.to ⟨⟨⟨_,z0p hW O _⟩,rfl⟩,?_⟩;refine z0i (by kernel_rfl) ?_;refine⟨rfl,_,⟨w8.heap.size,rfl,O,Bz.row _,z0p hW O _⟩,?_⟩;simp only[z1n,Act.put,pgE,pjE];try rfl
   ·refine z1c 8 _ rfl ?_;have Bz:=Blk.new wd 261 brd0.toArray;have O:w1.heap.size≤wd.heap.size:=hW.size;replace hW:=hW.alloc hW.size (.cells brd0.toArray 261)
    go_wp2
    refine ThenGo.to ⟨⟨⟨_,hW⟩,rfl⟩,?_⟩;generalize wd.alloc (.cells brd0.toArray 261)=Z8 at Bz hW⊢;refine cla 6 (some 20) 239 #[.slice (some ⟨db,U,none⟩) 3 dk] 2 (by kernel_rfl) ?_;refine(aC db U dk _ (ak.below hW) rfl).mono ?_;rintro e w8 ⟨rfl,A⟩;replace hW:=hW.trans (A.mono hW.size);replace Bz:=Bz.below A;clear A;refine⟨_,rfl,⟨⟨_,hW⟩,rfl⟩,?_⟩;simp only[Act.put,pgE,pjE];refine qta 7 (some 21) (.agg (brdC has (.slice ba d.length bk) [] [d0,d1,d2]).toArray) 1 (by kernel_rfl) (fun u _=>by kernel_rfl) ⟨⟨_,hW⟩,rfl⟩ ?_;simp only[Act.put,pgE,pjE];refine ona 9 0 rfl (by kernel_rfl) ?_;refine z0K (by kernel_rfl) 261 _ _ rfl _ (brdC has (.slice ba d.length bk) [] [d0,d1,d2]).toArray rfl rfl 261 _ Bz I ap aq ?_;refine ThenGo.to ⟨⟨⟨_,z0p hW O _⟩,rfl⟩,?_⟩;refine z0i (by kernel_rfl) ?_;refine⟨rfl,_,⟨wd.heap.size,rfl,O,Bz.row _,z0p hW O _⟩,?_⟩;simp only[z1n,Act.put,pgE,pjE];try rfl
  rintro vs X ⟨g,rfl,hg,Bg,hX⟩;simp only[z1n,Act.put,pjE];have aj:Below w.heap.size w X:=hB.trans (hX.mono hB.size);have aH:=Rb.below hX;have aX:=Bx.below hX;have br:w.heap.size+1<g:=by omega
  have bn:=hR.below aj;have bm:=hG.below aj;have p2:=aX.cell 2 _ rfl;clear hX hB Rb Bx aC ak
  go_wp2
  clear p2;generalize aQ:c.map RoundQ.e=rs at*;have ag:=q3M hF;have N:rs.length=c.length:=by rw[←aQ,List.length_map]
  go_loopw[25] (fun j wr=>∃k:Nat,k≤c.length∧j=.int .i64 k∧Hid (Blk wr g 261 (brdC has (.slice ba d.length bk) (rs.take k) [d0,d1,d2]).toArray)∧Hid (Out [g] X wr)) (fun j _=>c.length-(intOf j).toNat)
  case atStart=>exact⟨0,Nat.zero_le _,rfl,Bg,Out.refl _ _⟩
  case round=>
   obtain⟨k,hk,rfl,HB,HO⟩:=hrel;have y:Below w.heap.size w wr:=Out.keep aj HO.out aj.size (fun k hk=>by simp only[List.mem_singleton]at hk;omega);by_cases M:k<c.length
   ·obtain⟨rb,ro,be,bp,hc,bf⟩:=(hR.below y).cell (by decide) k M;have ax:∀j x,(roundK.cells c[k])[j]?=some x→wr.cell? ⟨rb,ro+k*2+j,none⟩=some x:=hc;have r0:=ax 0 (c[k].vr) rfl;have r1:=ax 1 (c[k].vp) rfl;have av:rs.getD k z0F=RoundQ.e c[k]:=by rw[←aQ];exact z1m c k M
    obtain⟨ae,af⟩:=z1O hF k (by rw[N];exact M);rw[av]at ae af;replace ae:vf c[k].rep 1=0:=ae;replace af:vf c[k].pro 2=0:=af;have aM:rs[k]'(by rw[N];exact M)=RoundQ.e c[k]:=by rw[←av];simp[List.getD,show k<rs.length by rw[N];exact M]
    have aG:Hid (rs.take (k+1)=rs.take k++[RoundE.mk c[k].rep c[k].pro]):=by
     rw[List.take_succ_eq_append_getElem (show k<rs.length by rw[N];exact M),aM];exact(rfl:_=_)
    have aP:roundK.rd w c[k]:=by
     obtain⟨_,_,_,_,_,hx⟩:=hR.cell (by decide) k M;exact hx
    obtain⟨aI,aJ⟩:intK.At w c[k].vr c[k].rep∧intK.At w c[k].vp c[k].pro:=aP;clear hc ax av aM bf;generalize c[k].vr=qv at*;generalize c[k].rep=qr at*;generalize c[k].vp=qw at*;generalize c[k].pro=qp at*;obtain⟨xa,xc,xb,xo,rfl,bg,_,aV⟩:=z3F aI ae 0 (by omega);obtain⟨ya,yc,yb,yo,rfl,bh,_,aW⟩:=z3F aJ af 0 (by omega);subst be bg bh;obtain⟨x0,x1,x2,rfl⟩:=z96 (z00 ae);obtain⟨y0,y1,y2,rfl⟩:=z96 (z00 af);have By:=Blk.new wr 203 #[.slice (some ⟨xb,xo,none⟩) 3 xc,.slice (some ⟨yb,yo,none⟩) 3 yc];have am:Below wr.heap.size wr (wr.alloc (.cells #[.slice (some ⟨xb,xo,none⟩) 3 xc,.slice (some ⟨yb,yo,none⟩) 3 yc] 203)):=by go_grown
    have aF:Hid (Out [g] X (wr.alloc (.cells #[.slice (some ⟨xb,xo,none⟩) 3 xc,.slice (some ⟨yb,yo,none⟩) 3 yc] 203))):=HO.out.call am;have aE:Hid (Blk (wr.alloc (.cells #[.slice (some ⟨xb,xo,none⟩) 3 xc,.slice (some ⟨yb,yo,none⟩) 3 yc] 203)) g 261 (brdC has (.slice ba d.length bk) (rs.take k) [d0,d1,d2]).toArray):=HB.out.below am;have bs:g<wr.heap.size:=HB.out.lt;have aS:wr.heap.size≠g:=by omega
    replace y:=y.trans (am.mono y.size);rw[Nat.add_zero]at r0;clear HB HO am aI aJ
    go_wp2_with fail
    clear r0 r1;generalize wr.alloc (.cells #[.slice (some ⟨xb,xo,none⟩) 3 xc,.slice (some ⟨yb,yo,none⟩) 3 yc] 203)=Y at*;have L:∀W',Out [g] Y W'→Below w.heap.size w W':=fun W' a2=>Out.keep y a2 y.size (fun k hk=>by simp only[List.mem_singleton]at hk;omega)
    have ao:=fun w' a1=>z74 g 261 (rs.take k) ([.bool has,.slice ba d.length bk]++[d0,d1,d2].map iv) ⟨[x0,x1,x2],[y0,y1,y2]⟩ w' a1 (q29 ag k) ⟨rfl,rfl⟩ (by rw[List.length_take];omega)
    have aO:Nonempty (LatO [g] Y):=⟨⟨Y,Out.refl _ _⟩⟩
    have hW:Out [g] Y Y.drew:=Out.of_below ((Below.refl _ _).drew);have p0:=z5l (F:=[g]) (By.cell 0 _ rfl) (by simp only[List.mem_singleton];exact aS);have p1:=z5l (F:=[g]) (By.cell 1 _ rfl) (by simp only[List.mem_singleton];exact aS);have T:=aE.out.below (w':=Y.drew) ((Below.refl _ _).drew);refine z0e (S:=fun w'=>∃u:LatO [g] Y,w'=u.val) (by kernel_rfl) ?_;refine sgr [(0,3),(4,2)] 4 (by kernel_rfl) ⟨⟨_,hW⟩,rfl⟩ ?_;simp only[pkE];repeat go_big_quiet_step (fail)
    refine wpQuiet_nil ?_;refine cla 3 (some 32) 239 #[.slice (some ⟨xb,xo,none⟩) 3 xc] 3 (by kernel_rfl) ?_;refine(ad _ xb xo xc _ (aV.below (L _ hW)) rfl).mono ?_;rintro e w8 ⟨rfl,A⟩;replace hW:=hW.call A;replace T:=T.below A;clear A;refine⟨_,rfl,⟨⟨_,hW⟩,rfl⟩,?_⟩;simp only[Act.put,pjE];refine cla 6 (some 35) 239 #[.slice (some ⟨yb,yo,none⟩) 3 yc] 2 (by kernel_rfl) ?_;refine(ad _ yb yo yc _ (aW.below (L _ hW)) rfl).mono ?_;rintro e w9 ⟨rfl,aw⟩;replace hW:=hW.call aw;replace T:=T.below aw;clear aw;refine⟨_,rfl,⟨⟨_,hW⟩,rfl⟩,?_⟩;simp only[Act.put,pjE];refine qta 7 (some 36) (.agg (z1v ⟨[x0,x1,x2],[y0,y1,y2]⟩).toArray) 1 (by kernel_rfl) (fun u _=>by kernel_rfl) ⟨⟨_,hW⟩,rfl⟩ ?_;simp only[Act.put,pjE];refine cla 8 (some 37) 240 #[.pointer (some ⟨g,0,none⟩),.agg (z1v ⟨[x0,x1,x2],[y0,y1,y2]⟩).toArray] 0 (by kernel_rfl) ?_;refine(ao w9 T).mono ?_;rintro e aU ⟨rfl,an,aT⟩;replace hW:=hW.trans aT;clear aT;refine⟨_,rfl,⟨⟨_,hW⟩,rfl⟩,?_⟩;simp only[Act.put,pjE];refine z0i (by kernel_rfl) ?_;have aY:Hid (Blk aU g 261 (brdC has (.slice ba d.length bk) (rs.take (k+1)) [d0,d1,d2]).toArray):=by rw[aG.out];exact an
    have aZ:Hid (Out [g] X aU):=aF.out.trans hW;clear an hW ao aE aF p0 p1 aO L aG
    go_wp2
    go_roundw
    case rel=>exact⟨k+1,by omega,by go_num,aY.out,aZ.out⟩
    case measure=>simp[intOf];omega
   ·have bb:k=c.length:=by omega
    subst bb;have Bw:=HB.out;rw[←N,List.take_length]at Bw;have Rw:Blk wr (w.heap.size+1) 261 brd0.toArray:=(HO.out.block _ aH.lt (by simp only[List.mem_singleton];omega)).trans aH;have Z:=z3j (has:=has) (vb:=.slice ba d.length bk) (dec:=[d0,d1,d2]) ag (by rw[N];exact h4) rfl;have aN:=z86 has (.slice ba d.length bk) rs [d0,d1,d2] wr (hG.below y) ag (by rw[N];exact h4) rfl;have J:=rng Bw (brdC has (.slice ba d.length bk) rs [d0,d1,d2]) (o:=0) (fun j v hv=>by rw[Nat.zero_add,List.getElem?_toArray];exact hv);have I:(Tryz.prog.info? 261).map (·.size)=some (brdC has (.slice ba d.length bk) rs [d0,d1,d2]).length:=by rw[Z];exact z3D
    have aA:(brdC has (.slice ba d.length bk) rs [d0,d1,d2]).toArray.all (·.oneCell')=true:=all_oneCell_toArray (fun v hv=>by
     simp only[brdC,rndC,z3W,List.mem_append,List.mem_cons,List.mem_flatMap,List.mem_replicate,List.mem_map,z1v,List.not_mem_nil,or_false]at hv;rcases hv with (rfl | ⟨r,_,z,_,rfl⟩ | ⟨_,rfl⟩) | (rfl | rfl) | ⟨z,_,rfl⟩ <;> rfl)
    clear HB HO ad;generalize bo:((List.range rs.length).all (q00 has rs) && z5R rs [d0,d1,d2])=XX at*;generalize bq:brdC has (.slice ba d.length bk) rs [d0,d1,d2]=cs at*
    go_wp2_with (refine q0s (by kernel_rfl) 261 _ rfl _ _ rfl cs _ J Tryz.underlying261 rfl I ?_)
    refine aN.mono ?_;rintro e w5 ⟨rfl,V⟩;replace Rw:=Rw.below V;replace Bw:=Bw.below V;replace y:=y.trans (V.mono y.size);replace J:=z2w J V;clear aN V
    cases XX with
    |false=>
     have E1:Hid (C=10):=by rw[ai.out];exact(rfl:_=_)
     have E2:Hid (BD=brd0):=by
      have:=ah.out;rw[E1.out,if_neg (by decide)]at this;exact this.symm
     clear ai ah J
     go_wp2_with (refine z0K (by kernel_rfl) 261 _ _ rfl _ #[.int .i64 0,.int .i64 0,.int .i64 0,.int .i64 0,.int .i64 0,.int .i64 0,.int .i64 0,.int .i64 0,.int .i64 0,.int .i64 0,.int .i64 0,.int .i64 0,.int .i64 0,.int .i64 0,.int .i64 0,.int .i64 0,.int .i64 0,.int .i64 0,.int .i64 0,.int .i64 0,.int .i64 0,.int .i64 0,.int .i64 0,.int .i64 0,.int .i64 0,.bool false,.slice none 0 0,.int .i64 0,.int .i64 0,.int .i64 0] rfl rfl 261 _ Rw ar aa ab ?_)
     rw[E2.out,E1.out];exact bodyPost_ret (v:=.tuple #[.agg brd0.toArray,.int .i64 10]) (z3l Tryz.results187 _ _ (w.heap.size+1) brd0.toArray _ rfl rfl (q1M (Rw.row _) rfl)) rfl ⟨rfl,z0p y (by omega) _⟩
    |true=>
     have E1:Hid (C=0):=by rw[ai.out];exact(rfl:_=_)
     have E2:Hid (BD=cs):=by
      have:=ah.out;rw[E1.out,if_pos rfl]at this;exact this.symm
     have aR:(Tryz.prog.info? 261).map (·.size)=some cs.toArray.size:=I;have az:brd0.toArray.size=cs.toArray.size:=(show 30=cs.length from Z.symm)
     clear ai ah
     go_wp2_with (first|(refine q0s (by kernel_rfl) 261 _ rfl _ _ rfl cs _ J Tryz.underlying261 rfl I ?_)|(refine z0K (by kernel_rfl) 261 _ _ rfl _ cs.toArray rfl rfl 261 _ Rw aR az aA ?_))
     rw[E2.out,E1.out];exact bodyPost_ret (v:=.tuple #[.agg cs.toArray,.int .i64 0]) (z3l Tryz.results187 _ _ (w.heap.size+1) cs.toArray _ rfl rfl (q1M (Rw.row _) Z)) rfl ⟨rfl,z0p y (by omega) _⟩
 ·have hC:C≠0∧C=shpF (InstQ.e ⟨has,.slice ba d.length bk,d,.slice va c.length vk,c,.slice da dec.length dk,dec⟩):=by
   have:=HC.out.1;unfold insF at this;rw[if_neg h0]at this;exact⟨by rw[←this];exact h0,this.symm⟩
  have E2:Hid (BD=brd0):=by
   have:=HC.out.2;rw[if_neg hC.1]at this;exact this.symm
  rw[←hC.2];have bl:(C !=0)=true:=by simpa using hC.1
  clear HC h0 hC hR hT hD
  go_wp2_with (refine z0K (by kernel_rfl) 261 _ _ rfl _ #[.int .i64 0,.int .i64 0,.int .i64 0,.int .i64 0,.int .i64 0,.int .i64 0,.int .i64 0,.int .i64 0,.int .i64 0,.int .i64 0,.int .i64 0,.int .i64 0,.int .i64 0,.int .i64 0,.int .i64 0,.int .i64 0,.int .i64 0,.int .i64 0,.int .i64 0,.int .i64 0,.int .i64 0,.int .i64 0,.int .i64 0,.int .i64 0,.int .i64 0,.bool false,.slice none 0 0,.int .i64 0,.int .i64 0,.int .i64 0] rfl rfl 261 _ Rb ar aa ab ?_)
  rw[E2.out];exact bodyPost_ret (v:=.tuple #[.agg brd0.toArray,.int .i64 C]) (z3l Tryz.results187 _ _ (w.heap.size+1) brd0.toArray _ rfl rfl (q1M (Rb.row _) rfl)) rfl ⟨rfl,z0p hB (by omega) _⟩
def bdOf(p:InstQ):List Value:=if insF p.e=0 then brdC p.has p.vb p.e.rounds p.dec else brd0
theorem z2a{x:InstE}(h:insF x=0):shpF x=0∧q42 x=true:=by
 unfold insF at h;by_cases h0:shpF x=0
 ·rw[if_pos h0]at h;refine⟨h0,?_⟩;by_cases h1:q42 x=true
  ·exact h1
  ·rw[if_neg h1]at h;simp at h
 ·rw[if_neg h0]at h;exact absurd h h0
theorem q1N{x:InstE}(h:insF x=0):Wel x.rounds∧(1≤x.rounds.length∧x.rounds.length≤4)∧x.dec.length=3∧z0M x.rounds=0∧vf x.dec 1=0:=by
 obtain⟨h0,_⟩:=z2a h;obtain⟨h1,h2,h3,_⟩:=z1q h0;exact⟨q3M h2,h1,z00 h3,h2,h3⟩
theorem q4u {has:Bool} {vb:Value} {rs:List RoundE} {dec:List Int} (hv:vb.oneCell' = true):(brdC has vb rs dec).toArray.all (·.oneCell')=true:=all_oneCell_toArray (fun v hm=>by
 simp only[brdC,rndC,z3W,List.mem_append,List.mem_cons,List.mem_flatMap,List.mem_replicate,List.mem_map,z1v,List.not_mem_nil,or_false]at hm;rcases hm with (rfl | ⟨r,_,z,_,rfl⟩ | ⟨_,rfl⟩) | (rfl | rfl) | ⟨z,_,rfl⟩ <;> first | rfl | exact hv)
theorem q5j{w:World}{p:InstQ}(h:instK.rd w p):(bdOf p).length=30∧(bdOf p).toArray.all (·.oneCell')=true:=by
 unfold bdOf;by_cases h0:insF p.e=0
 ·rw[if_pos h0];obtain⟨h1,h2,h3,_⟩:=q1N h0;refine⟨z3j h1 h2.2 h3,q4u ?_⟩;obtain⟨a,c,e⟩:=h.1.shape;rw[e];rfl
 ·rw[if_neg h0];exact⟨rfl,by kernel_rfl⟩
theorem z2y(p:InstQ)(w:World)(hG:Rul w)(h:instK.rd w p)(hl:p.n≤1048576):
  Calls Tryz.prog 127 #[.agg #[.bool p.has,p.vb,p.vr,p.vd]] w fun e w'=>e=.returned (.int .i64 (insF p.e))∧Below w.heap.size w w':=by
 obtain⟨z,L⟩:=q5j h;have y:=fun w hG h=>z5m p w hG h hl
 have A:=fun(w':World) hb=>instK.rd_below (w':=w') h hb
 change∀w hG h,Calls _ _ _ _ fun e w'=>e=.returned (.tuple #[.agg (bdOf p).toArray,_])∧_ at y
 generalize bdOf p=BD at*;generalize insF p.e=C at*;obtain⟨has,vb,x,vr,d,vd,dec⟩:=p;obtain⟨ba,bk,rfl⟩:∃a c,vb=.slice a x.length c:=h.1.shape;obtain⟨va,vk,rfl⟩:∃a c,vr=.slice a d.length c:=h.2.1.shape;obtain⟨da,dk,rfl⟩:∃a c,vd=.slice a dec.length c:=h.2.2.shape;dsimp only at y A;have hB:Below w.heap.size w (w.alloc (.cells #[.bool has,.slice ba x.length bk,.slice va d.length vk,.slice da dec.length dk] 117)):=by go_grown
 have M:(Tryz.prog.info? 261).map (·.size)=some BD.toArray.size:=by rw[List.size_toArray,z];exact z3D
 have J:(#[.int .i64 0,.int .i64 0,.int .i64 0,.int .i64 0,.int .i64 0,.int .i64 0,.int .i64 0,.int .i64 0,.int .i64 0,.int .i64 0,.int .i64 0,.int .i64 0,.int .i64 0,.int .i64 0,.int .i64 0,.int .i64 0,.int .i64 0,.int .i64 0,.int .i64 0,.int .i64 0,.int .i64 0,.int .i64 0,.int .i64 0,.int .i64 0,.int .i64 0,.bool false,.slice none 0 0,.int .i64 0,.int .i64 0,.int .i64 0]:Array Value).size=BD.toArray.size:=(show 30=BD.length from z.symm)
 go_enter Tryz.func127,Tryz.ntmps127
 go_wp2_with fail
 generalize w.alloc (.cells #[.bool has,.slice ba x.length bk,.slice va d.length vk,.slice da dec.length dk] 117)=W at*;refine(y W (hG.below hB) (A W hB)).mono ?_;rintro e w1 ⟨rfl,I⟩;replace hB:=hB.trans (I.mono hB.size);have Bz:=Blk.new w1 261 #[.int .i64 0,.int .i64 0,.int .i64 0,.int .i64 0,.int .i64 0,.int .i64 0,.int .i64 0,.int .i64 0,.int .i64 0,.int .i64 0,.int .i64 0,.int .i64 0,.int .i64 0,.int .i64 0,.int .i64 0,.int .i64 0,.int .i64 0,.int .i64 0,.int .i64 0,.int .i64 0,.int .i64 0,.int .i64 0,.int .i64 0,.int .i64 0,.int .i64 0,.bool false,.slice none 0 0,.int .i64 0,.int .i64 0,.int .i64 0];have N:=z0p (hB.alloc hB.size (.cells #[.int .i64 0,.int .i64 0,.int .i64 0,.int .i64 0,.int .i64 0,.int .i64 0,.int .i64 0,.int .i64 0,.int .i64 0,.int .i64 0,.int .i64 0,.int .i64 0,.int .i64 0,.int .i64 0,.int .i64 0,.int .i64 0,.int .i64 0,.int .i64 0,.int .i64 0,.int .i64 0,.int .i64 0,.int .i64 0,.int .i64 0,.int .i64 0,.int .i64 0,.bool false,.slice none 0 0,.int .i64 0,.int .i64 0,.int .i64 0] 261)) (g:=w1.heap.size) hB.size BD.toArray;clear y A I
 go_wp2_with (refine z0K (by kernel_rfl) 261 _ _ rfl _ BD.toArray rfl rfl 261 _ Bz M J L ?_)
 go_ret;exact⟨rfl,N⟩
def outV:List Int→Int
 |[]=>3
 |x::r=>if x=3 then outV r else x
theorem q1O(L:List Int):∀k,(∀j,j<k→L.getD j 0=3)→k<L.length→L.getD k 0≠3→outV L=L.getD k 0:=by
 induction L with
 |nil=>intro k _ h;simp at h
 |cons x r ih=>
  intro k h0 hk hne
  cases k with
  |zero=>simp[List.getD]at hne⊢;simp[outV,hne]
  |succ k=>
   have hx:x=3:=by simpa[List.getD]using h0 0 (by omega)
   have:=ih k (fun j hj=>by simpa[List.getD]using h0 (j+1) (by omega)) (by simpa using hk) (by simpa[List.getD]using hne);simp only[outV,hx,if_true];rw[this];simp[List.getD]
theorem z77(L:List Int)(h:∀j,j<L.length→L.getD j 0=3):outV L=3:=by
 induction L with
 |nil=>rfl
 |cons x r ih=>
  have hx:x=3:=by simpa[List.getD]using h 0 (by simp)
  simp only[outV,hx,if_true];exact ih (fun j hj=>by simpa[List.getD]using h (j+1) (by simpa using hj))
def ocC(x:InstE):Int:=if insF x=0 then(if outV x.dec=3 then 4 else 0)else insF x
def ocV(x:InstE):Int:=if insF x=0 then(if outV x.dec=3 then 0 else outV x.dec)else 0
theorem z2z(p:InstQ)(w:World)(hG:Rul w)(h:instK.rd w p)(hl:p.n≤1048576):
  Calls Tryz.prog 126 #[.agg #[.bool p.has,p.vb,p.vr,p.vd]] w fun e w'=>e=.returned (.agg #[.int .i64 (ocC p.e),.int .i64 (ocV p.e)])∧Below w.heap.size w w':=by
 obtain⟨N,T⟩:=q5j h;have M:=fun w hG h=>z5m p w hG h hl
 have Y:=fun(w':World) hb=>instK.rd_below (w':=w') h hb
 change∀w hG h,Calls _ _ _ _ fun e w'=>e=.returned (.tuple #[.agg (bdOf p).toArray,_])∧_ at M
 have J:Hid (insF p.e=0→bdOf p=brdC p.has p.vb p.e.rounds p.dec∧Wel p.e.rounds∧p.e.rounds.length≤4∧p.dec.length=3):=fun h0=>by
  obtain⟨h1,h2,h3,_⟩:=q1N h0;exact⟨if_pos h0,h1,h2.2,h3⟩
 obtain⟨D,hD⟩:∃D,ocC p.e=D:=⟨_,rfl⟩
 obtain⟨E,hE⟩:∃E,ocV p.e=E:=⟨_,rfl⟩
 have z:Hid ((insF p.e=0→(D=if outV p.dec=3 then 4 else 0)∧(E=if outV p.dec=3 then 0 else outV p.dec))∧(insF p.e≠0→D=insF p.e∧E=0)):=by
  refine⟨fun h0=>⟨?_,?_⟩,fun h0=>⟨?_,?_⟩⟩
  ·rw[←hD];exact if_pos h0
  ·rw[←hE];exact if_pos h0
  ·rw[←hD];exact if_neg h0
  ·rw[←hE];exact if_neg h0
 rw[hD,hE];clear hD hE;generalize bdOf p=BD at*;generalize insF p.e=C at*;generalize p.e.rounds=rs at*;obtain⟨has,vb,x,vr,d,vd,dec⟩:=p;obtain⟨ba,bk,rfl⟩:∃a c,vb=.slice a x.length c:=h.1.shape;obtain⟨va,vk,rfl⟩:∃a c,vr=.slice a d.length c:=h.2.1.shape;obtain⟨da,dk,rfl⟩:∃a c,vd=.slice a dec.length c:=h.2.2.shape;dsimp only at M Y J z;have hB:Below w.heap.size w ((w.alloc (.cells #[.bool has,.slice ba x.length bk,.slice va d.length vk,.slice da dec.length dk] 117)).alloc (.cells #[.int .i64 0,.int .i64 0] 53)):=by go_grown
 have Rb:=Blk.new (w.alloc (.cells #[.bool has,.slice ba x.length bk,.slice va d.length vk,.slice da dec.length dk] 117)) 53 #[.int .i64 0,.int .i64 0];simp only[World.size_alloc]at Rb;have U:(Tryz.prog.info? 261).map (·.size)=some BD.toArray.size:=by rw[List.size_toArray,N];exact z3D
 have O:(#[.int .i64 0,.int .i64 0,.int .i64 0,.int .i64 0,.int .i64 0,.int .i64 0,.int .i64 0,.int .i64 0,.int .i64 0,.int .i64 0,.int .i64 0,.int .i64 0,.int .i64 0,.int .i64 0,.int .i64 0,.int .i64 0,.int .i64 0,.int .i64 0,.int .i64 0,.int .i64 0,.int .i64 0,.int .i64 0,.int .i64 0,.int .i64 0,.int .i64 0,.bool false,.slice none 0 0,.int .i64 0,.int .i64 0,.int .i64 0]:Array Value).size=BD.toArray.size:=(show 30=BD.length from N.symm)
 go_enter Tryz.func126,Tryz.ntmps126
 go_wp2_with fail
 generalize (w.alloc (.cells #[.bool has,.slice ba x.length bk,.slice va d.length vk,.slice da dec.length dk] 117)).alloc (.cells #[.int .i64 0,.int .i64 0] 53)=W at*;refine(M W (hG.below hB) (Y W hB)).mono ?_;rintro e w1 ⟨rfl,V⟩;replace hB:=hB.trans (V.mono hB.size);replace Rb:=Rb.below V;have Bz:=Blk.new w1 261 #[.int .i64 0,.int .i64 0,.int .i64 0,.int .i64 0,.int .i64 0,.int .i64 0,.int .i64 0,.int .i64 0,.int .i64 0,.int .i64 0,.int .i64 0,.int .i64 0,.int .i64 0,.int .i64 0,.int .i64 0,.int .i64 0,.int .i64 0,.int .i64 0,.int .i64 0,.int .i64 0,.int .i64 0,.int .i64 0,.int .i64 0,.int .i64 0,.int .i64 0,.bool false,.slice none 0 0,.int .i64 0,.int .i64 0,.int .i64 0];have L:=z0p (hB.alloc hB.size (.cells #[.int .i64 0,.int .i64 0,.int .i64 0,.int .i64 0,.int .i64 0,.int .i64 0,.int .i64 0,.int .i64 0,.int .i64 0,.int .i64 0,.int .i64 0,.int .i64 0,.int .i64 0,.int .i64 0,.int .i64 0,.int .i64 0,.int .i64 0,.int .i64 0,.int .i64 0,.int .i64 0,.int .i64 0,.int .i64 0,.int .i64 0,.int .i64 0,.int .i64 0,.bool false,.slice none 0 0,.int .i64 0,.int .i64 0,.int .i64 0] 261)) (g:=w1.heap.size) hB.size BD.toArray;have A:Blk ((w1.alloc (.cells #[.int .i64 0,.int .i64 0,.int .i64 0,.int .i64 0,.int .i64 0,.int .i64 0,.int .i64 0,.int .i64 0,.int .i64 0,.int .i64 0,.int .i64 0,.int .i64 0,.int .i64 0,.int .i64 0,.int .i64 0,.int .i64 0,.int .i64 0,.int .i64 0,.int .i64 0,.int .i64 0,.int .i64 0,.int .i64 0,.int .i64 0,.int .i64 0,.int .i64 0,.bool false,.slice none 0 0,.int .i64 0,.int .i64 0,.int .i64 0] 261)).setRow w1.heap.size BD.toArray) (w.heap.size+1) 53 #[.int .i64 0,.int .i64 0]:=(setRow_other _ _ _ _ (by have:=Rb.lt;omega)).trans (Rb.below ((Below.refl _ _).alloc (Nat.le_refl _) _));have B2:=Bz.row BD.toArray;clear M Y V Rb;by_cases h0:C=0
 ·obtain⟨Z,ad,h4,I⟩:=J.out h0;have HD:Hid (D=if outV dec=3 then 4 else 0):=(z.out.1 h0).1;have HV:Hid (E=if outV dec=3 then 0 else outV dec):=(z.out.1 h0).2;subst h0;have aa:=rng B2 (dec.map iv) (o:=27) (fun j v hv=>by
   obtain⟨hj,rfl⟩:=row_get I hv;rw[List.getElem?_toArray,Z];exact q1y ad h4 I j hj)
  have ab:(Tryz.prog.info? 254).map (·.size)=some (dec.map iv).length:=by rw[List.length_map,I];exact z6m
  clear J z Z
  go_wp2_with (first|(refine z0K (by kernel_rfl) 261 _ _ rfl _ BD.toArray rfl rfl 261 _ Bz U O T ?_)|(refine q0s (by kernel_rfl) 254 _ rfl _ _ rfl (dec.map iv) _ aa Tryz.underlying254 rfl ab ?_))
  clear aa Bz;generalize (w1.alloc (.cells #[.int .i64 0,.int .i64 0,.int .i64 0,.int .i64 0,.int .i64 0,.int .i64 0,.int .i64 0,.int .i64 0,.int .i64 0,.int .i64 0,.int .i64 0,.int .i64 0,.int .i64 0,.int .i64 0,.int .i64 0,.int .i64 0,.int .i64 0,.int .i64 0,.int .i64 0,.int .i64 0,.int .i64 0,.int .i64 0,.int .i64 0,.int .i64 0,.int .i64 0,.bool false,.slice none 0 0,.int .i64 0,.int .i64 0,.int .i64 0] 261)).setRow w1.heap.size BD.toArray=X at*;go_loopw[18] (fun j wr=>∃m:Nat,m≤3∧j=.int .i64 m∧Hid (∀j,j<m→dec.getD j 0=3)∧wr=X) (fun j _=>3-(intOf j).toNat)
  case atStart=>exact⟨0,Nat.zero_le _,rfl,fun j hj=>absurd hj (Nat.not_lt_zero _),rfl⟩
  case round=>
   obtain⟨m,hm,rfl,HA,rfl⟩:=hrel;obtain⟨q0,q1⟩:=A.cel2;obtain⟨f0,f1⟩:=A.frz2;by_cases af:m<3
   ·have ai:(m:Int)<3:=by omega
    have ak:=fun w=>q1I I m af w
    have HY:Hid (dec.getD m 0≠3→outV dec=dec.getD m 0):=fun hx=>q1O dec m HA.out (by omega) hx
    have HN:Hid (dec.getD m 0=3→∀j,j<m+1→dec.getD j 0=3):=fun hx j hj=>by
     by_cases ae:j=m
     ·subst ae;exact hx
     ·exact HA.out j (by omega)
    clear HA;generalize dec.getD m 0=v at*;by_cases hv:v=3
    ·have ah:(v !=3)=false:=by simp[hv]
     have R:=HN.out hv;have HR:Hid _:=R;clear HY HN R hv
     go_wp2
     go_roundw
     case rel=>exact⟨m+1,by omega,by go_num,HR.out,by first|rfl|trivial⟩
     case measure=>simp[intOf];omega
    ·have ah:(v !=3)=true:=by simpa using hv
     have y:=HY.out hv;have E1:Hid (D=0∧E=v):=by
      refine⟨?_,?_⟩
      ·rw[HD.out,y,if_neg hv]
      ·rw[HV.out,y,if_neg hv]
     clear HY HN HD HV y hv
     go_wp2
     exact bodyPost_ret (v:=.agg #[.int .i64 0,.int .i64 v]) (by simp[results,Tryz.results126,go_sem,q0,q1]) rfl ⟨by rw[E1.out.1,E1.out.2],(L.setCell (p:=⟨w.heap.size+1,0,none⟩) (by show w.heap.size≤w.heap.size+1;omega) _).setCell (p:=⟨w.heap.size+1,1,none⟩) (by show w.heap.size≤w.heap.size+1;omega) _⟩
   ·have ag:m=3:=by omega
    subst ag;have y:=z77 dec (by rw[I];exact HA.out);have E1:Hid (D=4∧E=0):=by
     refine⟨?_,?_⟩
     ·rw[HD.out,y,if_pos rfl]
     ·rw[HV.out,y,if_pos rfl]
    clear HA HD HV y
    go_wp2
    exact bodyPost_ret (v:=.agg #[.int .i64 4,.int .i64 0]) (by simp[results,Tryz.results126,go_sem,q0,q1]) rfl ⟨by rw[E1.out.1,E1.out.2],(L.setCell (p:=⟨w.heap.size+1,0,none⟩) (by show w.heap.size≤w.heap.size+1;omega) _).setCell (p:=⟨w.heap.size+1,1,none⟩) (by show w.heap.size≤w.heap.size+1;omega) _⟩
 ·have E1:Hid (D=C∧E=0):=z.out.2 h0;have aj:(C !=0)=true:=by simpa using h0
  obtain⟨q0,q1⟩:=A.cel2;obtain⟨f0,f1⟩:=A.frz2;clear z J h0 B2 A;generalize hX:(w1.alloc (.cells #[.int .i64 0,.int .i64 0,.int .i64 0,.int .i64 0,.int .i64 0,.int .i64 0,.int .i64 0,.int .i64 0,.int .i64 0,.int .i64 0,.int .i64 0,.int .i64 0,.int .i64 0,.int .i64 0,.int .i64 0,.int .i64 0,.int .i64 0,.int .i64 0,.int .i64 0,.int .i64 0,.int .i64 0,.int .i64 0,.int .i64 0,.int .i64 0,.int .i64 0,.bool false,.slice none 0 0,.int .i64 0,.int .i64 0,.int .i64 0] 261)).setRow w1.heap.size BD.toArray=X at q0 q1 f0 f1 L
  go_wp2_with (refine z0K (by kernel_rfl) 261 _ _ rfl _ BD.toArray rfl rfl 261 _ Bz U O T ?_)
  exact bodyPost_ret (v:=.agg #[.int .i64 C,.int .i64 0]) (by simp[results,Tryz.results126,go_sem,q0,q1]) rfl ⟨by rw[E1.out.1,E1.out.2],(L.setCell (p:=⟨w.heap.size+1,0,none⟩) (by show w.heap.size≤w.heap.size+1;omega) _).setCell (p:=⟨w.heap.size+1,1,none⟩) (by show w.heap.size≤w.heap.size+1;omega) _⟩
theorem z2b(b o:Nat)(p:InstQ)(w:World)(hP:InstP w b o p)(hl:p.n≤1048576):
  Calls Tryz.prog 124 #[.pointer (some ⟨b,o,none⟩)] w fun e w'=>e=.returned (.int .i64 (outV p.dec))∧w'=w:=by
 obtain⟨has,vb,batch,vr,rounds,vd,dec⟩:=p;have hD:intK.At w vd dec:=hP.dec;obtain⟨da,dk,rfl⟩:=hD.shape;have hRow:=(z0Y hD).2;obtain⟨c0,c1,c2,c3⟩:=hP.box;dsimp only[InstQ.n]at c0 c1 c2 c3 hl⊢;generalize hE:outV dec=E;have HE:Hid (outV dec=E):=hE;clear hE;go_enter Tryz.func124,Tryz.ntmps124
 go_wp2
 go_loop[3] (fun j=>∃k:Nat,k≤dec.length∧j=.int .i64 k∧Hid (∀j,j<k→dec.getD j 0=3)) (fun j=>dec.length-(intOf j).toNat)
 case atStart=>exact⟨0,Nat.zero_le _,rfl,fun j hj=>absurd hj (Nat.not_lt_zero _)⟩
 case round=>
  obtain⟨k,hk,rfl,HA⟩:=hrel;by_cases hlt:k<dec.length
  ·obtain⟨bb,off,rfl,hbs,hc⟩:=hRow k hlt;have HY:Hid (dec.getD k 0≠3→E=dec.getD k 0):=fun hx=>by rw[←HE.out];exact q1O dec k HA.out hlt hx
   have HN:Hid (dec.getD k 0=3→∀j,j<k+1→dec.getD j 0=3):=fun hx j hj=>by
    by_cases hjm:j=k
    ·subst hjm;exact hx
    ·exact HA.out j (by omega)
   clear HA;generalize dec.getD k 0=v at*;by_cases hv:v=3
   ·have hv':(v !=3)=false:=by simp[hv]
    have R:=HN.out hv;have HR:Hid _:=R;clear HY HN R hv
    go_wp2
    go_round
    case rel=>exact⟨k+1,by omega,by go_num,HR.out⟩
    case measure=>simp[intOf];omega
   ·have hv':(v !=3)=true:=by simpa using hv
    have E1:Hid (E=v):=HY.out hv;clear HY HN hv
    go_wp2
    go_ret;exact⟨by rw[E1.out];rfl,rfl⟩
  ·have hkl:k=dec.length:=by omega
   subst hkl;have E1:Hid (E=3):=by rw[←HE.out];exact z77 dec HA.out
   clear HA HE
   go_wp2
   go_ret;exact⟨by rw[E1.out];rfl,rfl⟩
end Go.Proofs.YtlkpdgjnhkjpjaaGreatDoor
