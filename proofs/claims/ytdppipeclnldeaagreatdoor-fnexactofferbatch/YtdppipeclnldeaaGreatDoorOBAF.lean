import Derived.Test.YtdppipeclnldeaaGreatDoorOBAE
set_option linter.unusedVariables false
set_option linter.unusedSimpArgs false
set_option maxRecDepth 100000
set_option maxHeartbeats 4000000
namespace Go.Proofs.YtdppipeclnldeaaGreatDoor
open Go.RowKit Go.BigFrame
open TxnQ renaming e->m
open RoundQ renaming e->g
open List renaming getD->f,length_map->Va
open Act renaming put->Vb
open IntKind renaming i64->H
open Value renaming int->l,slice->K
open Go.Proofs.Tryz renaming prog->F
open Go.Proofs.Tryz
structure InstP (w:World) (b o:Nat) (p:InstQ):Prop where
 box:Box4 w b o (.bool p.has) p.vb p.vr p.vd
 rd:instK.rd w p
theorem InstP.below{w w':World}{b o:Nat}{p:InstQ}(h:InstP w b o p)(hb:Below w.heap.size w w'):InstP w' b o p:=⟨h.box.below hb,instK.rd_below h.rd hb⟩
theorem InstP.batch{w:World}{b o:Nat}{p:InstQ}(h:InstP w b o p):txnK.At w p.vb p.batch:=h.rd.1
theorem InstP.rounds{w:World}{b o:Nat}{p:InstQ}(h:InstP w b o p):roundK.At w p.vr p.rounds:=h.rd.2.1
theorem InstP.dec{w:World}{b o:Nat}{p:InstQ}(h:InstP w b o p):intK.At w p.vd p.dec:=h.rd.2.2
theorem z1w(rs:List RoundQ)(r:Nat)(hr:r<rs.length):(rs.map g).getD r z0K=g rs[r]:=by simp[f,hr]
theorem q0q(rs:List RoundQ)(r:Nat)(hr:r<rs.length):rs[r].rep.length+rs[r].pro.length≤nmL RoundQ.n rs:=z01 RoundQ.n rs r hr
theorem z2j(ds:List RoundE):∀k,(∀j,j<k→vf (ds.getD j z0K).rep 1=0∧vf (ds.getD j z0K).pro 2=0)→k<ds.length→(vf (ds.getD k z0K).rep 1≠0→z0R ds=vf (ds.getD k z0K).rep 1)∧(vf (ds.getD k z0K).rep 1=0→vf (ds.getD k z0K).pro 2≠0→z0R ds=vf (ds.getD k z0K).pro 2):=by
 induction ds with
 |nil=>intro k _ h;simp at h
 |cons x r ih=>
  intro k h0 hk
  cases k with
  |zero=>
   simp only[List.getD_cons_zero];unfold z0R;exact⟨fun h=>by rw[if_neg h],fun h h2=>by rw[if_pos h,if_neg h2]⟩
  |succ k=>
   have hx:=h0 0 (by omega);simp only[List.getD_cons_zero]at hx;have:=ih k (fun j hj=>by simpa using h0 (j+1) (by omega)) (by simpa using hk);simp only[List.getD_cons_succ];rw[show z0R (x::r)=z0R r by rw[z0R,if_pos hx.1,if_pos hx.2]];exact this
theorem z2Y(ds:List RoundE)(h:∀j,j<ds.length→vf (ds.getD j z0K).rep 1=0∧vf (ds.getD j z0K).pro 2=0):z0R ds=0:=by
 induction ds with
 |nil=>rfl
 |cons x r ih=>
  have hx:=h 0 (by simp);simp only[List.getD_cons_zero]at hx;rw[z0R,if_pos hx.1,if_pos hx.2];exact ih (fun j hj=>by simpa using h (j+1) (by simpa using hj))
theorem z9D(b o:Nat)(p:InstQ)(w:World)(hP:InstP w b o p)(hl:p.n≤1048576):
  Calls F 104 #[.pointer (some ⟨b,o,none⟩)] w fun e w'=>e=.returned (l H (shpF p.e))∧Below w.heap.size w w':=by
 have hB:Below w.heap.size w w:=Below.refl _ _;obtain⟨has,vb,y,vr,d,vd,dec⟩:=p;dsimp only[InstQ.n]at hl;have HE:Hid (shpF (InstQ.e ⟨has,vb,y,vr,d,vd,dec⟩)=if has=false∧0 < (y.map m).length then 1 else
  if has=true∧batF (y.map m)≠0 then batF (y.map m)else
  if(d.map g).length<1∨4<(d.map g).length then 2 else
  if z0R (d.map g)=0 then vf dec 1 else z0R (d.map g)):=by
  exact(rfl:shpF _=_)
 generalize shpF (InstQ.e ⟨has,vb,y,vr,d,vd,dec⟩)=E at HE⊢;have hv:=z5H vb (y.map m) w (z3U hP.batch) (by rw[Va,z7m];omega);have am:∃a c,vb=K a y.length c:=hP.batch.shape;have an:∃a c,vr=K a d.length c:=hP.rounds.shape;have ap:∃a c,vd=K a dec.length c:=hP.dec.shape;obtain⟨ba,bk,rfl⟩:=am;obtain⟨va,vk,rfl⟩:=an
 cases has with
 |false=>
  by_cases h0:0<y.length
  ·have E1:Hid (E=1):=by rw[HE.out,if_pos ⟨rfl,by simpa using h0⟩];rfl
   obtain⟨c0,c1,c2,c3⟩:=hP.box;dsimp only at c0 c1 c2 c3;clear HE hv;go_enter func104,ntmps104
   go_wp2
   go_ret;exact⟨by rw[E1.out];rfl,hB⟩
  ·have HS:Hid (E=if(d.map g).length<1∨4<(d.map g).length then 2 else if z0R (d.map g)=0 then vf dec 1 else z0R (d.map g)):=by
    have:=HE.out;rw[if_neg (fun h=>h0 (by simpa using h.2)),if_neg (by simp)]at this;exact this
   clear HE;obtain⟨c0,c1,c2,c3⟩:=hP.box;dsimp only at c0 c1 c2 c3;have ao:¬(0:Int)<y.length:=by omega
   go_enter func104,ntmps104;clear c0 c1 c2 c3;by_cases Y:d.length<1
   ·have E2:Hid (E=2):=by rw[HS.out,if_pos (Or.inl (by simpa using Y))];rfl
    obtain⟨c0,c1,c2,c3⟩:=hP.box;dsimp only at c0 c1 c2 c3;clear HS hv
    go_wp2
    go_ret;exact⟨by rw[E2.out];rfl,hB⟩
   ·by_cases Z:4<d.length
    ·have E2:Hid (E=2):=by rw[HS.out,if_pos (Or.inr (by simpa using Z))];rfl
     obtain⟨c0,c1,c2,c3⟩:=hP.box;dsimp only at c0 c1 c2 c3;clear HS hv
     go_wp2
     go_ret;exact⟨by rw[E2.out];rfl,hB⟩
    ·have N:Hid (E=if z0R (d.map g)=0 then vf dec 1 else z0R (d.map g)):=by
      have:=HS.out;rw[if_neg (by simp only[Va];omega)]at this;exact this
     have ah:¬(d.length:Int)<1:=by omega
     have ai:¬(4:Int)<d.length:=by omega
     clear HS Y Z;obtain⟨c0,c1,c2,c3⟩:=hP.box;dsimp only at c0 c1 c2 c3
     go_wp2
     clear c0 c1 c2 c3;go_loopw[4] (fun j wr=>∃k:Nat,k≤d.length∧j=l H k∧Hid (∀j,j<k→vf ((d.map g).getD j z0K).rep 1=0∧vf ((d.map g).getD j z0K).pro 2=0)∧Below w.heap.size w wr) (fun j _=>d.length-(intOf j).toNat)
     case atStart=>exact⟨0,Nat.zero_le _,rfl,fun j hj=>absurd hj (Nat.not_lt_zero _),Below.refl _ _⟩
     case round=>
      obtain⟨k,hk,rfl,HA,hb⟩:=hrel;have I:=hP.below hb;have D:=hB.trans (hb.mono hB.size);obtain⟨c0,c1,c2,c3⟩:=I.box;dsimp only at c0 c1 c2 c3;by_cases L:k<d.length
      ·obtain⟨rb,ro,rfl,ak,hc,af⟩:=I.rounds.cell (by decide) k L;have W:∀j x,(roundK.cells d[k])[j]?=some x→wr.cell? ⟨rb,ro+k*2+j,none⟩=some x:=hc;have r0:=W 0 (d[k].vr) rfl;have r1:=W 1 (d[k].vp) rfl;have al:=q0q d k L;have C:=z2j (d.map g) k HA.out (by simpa using L);rw[z1w d k L]at C;dsimp only[g]at C;have T:Hid (vf d[k].rep 1≠0→E=vf d[k].rep 1):=fun h=>by rw[N.out,C.1 h,if_neg h]
       have U:Hid (vf d[k].rep 1=0→vf d[k].pro 2≠0→E=vf d[k].pro 2):=fun h h2=>by rw[N.out,C.2 h h2,if_neg h2]
       have HN:Hid (vf d[k].rep 1=0→vf d[k].pro 2=0→∀j,j<k+1→vf ((d.map g).getD j z0K).rep 1=0∧vf ((d.map g).getD j z0K).pro 2=0):=by
        intro h1 h2 j hj;by_cases ab:j=k
        ·subst ab;rw[z1w d j L];exact⟨h1,h2⟩
        ·exact HA.out j (by omega)
       clear HA C hc W;generalize d[k]=q at*;obtain⟨qv,qr,qw,qp⟩:=q;obtain⟨rA,rP⟩:intK.At wr qv qr∧intK.At wr qw qp:=af;dsimp only at*;obtain⟨ra,rk,rfl⟩:=rA.shape;obtain⟨pa,pk,rfl⟩:=rP.shape;have M:=z08 ra rk qr 1 wr (z0P rA).2 (by omega);rw[Nat.add_zero]at r0
       go_wp2_with fail
       refine M.mono ?_;rintro e w2 ⟨rfl,z⟩;have O:=I.below z;have A:=D.trans (z.mono D.size);have ae:=World.block_lt_of_cell? wr _ r1;replace r1:=(z.cell (p:=⟨rb,ro+k*2+1,none⟩) ae).trans r1;replace hb:=hb.trans (z.mono hb.size);have X:=z08 pa pk qp 2 w2 (z0P (rP.below z)).2 (by omega);clear M c0 c1 c2 c3 r0 z I D rA rP;obtain⟨c0,c1,c2,c3⟩:=O.box;dsimp only at c0 c1 c2 c3;by_cases h1:vf qr 1=0
       ·have HF:Hid (vf qp 2≠0→E=vf qp 2):=U.out h1;have HM:Hid (vf qp 2=0→_):=HN.out h1;rw[h1];clear T U HN h1
        go_wp2_with fail
        refine X.mono ?_;rintro e w3 ⟨rfl,V⟩;replace hb:=hb.trans (V.mono hb.size);replace A:=A.trans (V.mono A.size);clear X c0 c1 c2 c3 r1 V O;by_cases h2:vf qp 2=0
        ·have R:=HM.out h2;have HR:Hid _:=R;rw[h2];clear HF HM R h2
         go_wp2
         go_roundw
         case rel=>exact⟨k+1,by omega,by go_num,HR.out,hb⟩
         case measure=>simp[intOf];omega
        ·have E2:Hid (E=vf qp 2):=HF.out h2;have aj:(vf qp 2 !=0)=true:=by simpa using h2
         clear HF HM h2;generalize vf qp 2=r at*
         go_wp2
         go_ret;exact⟨by rw[E2.out];rfl,A⟩
       ·have E2:Hid (E=vf qr 1):=T.out h1;have ag:(vf qr 1 !=0)=true:=by simpa using h1
        clear T U HN h1 X;generalize vf qr 1=r at*
        go_wp2
        go_ret;exact⟨by rw[E2.out];rfl,A⟩
      ·have ad:k=d.length:=by omega
       subst ad;have E2:Hid (E=vf dec 1):=by
        have:=N.out;rw[if_pos (z2Y _ (by simpa using HA.out))]at this;exact this
       have J:intK.At wr vd dec:=I.dec;obtain⟨da,dk,rfl⟩:=J.shape;have M:=z08 da dk dec 1 wr (z0P J).2 (by omega);clear HA N J
       go_wp2_with fail
       refine M.mono ?_;rintro e w2 ⟨rfl,z⟩;replace D:=D.trans (z.mono D.size);generalize vf dec 1=r at*;clear M c0 c1 c2 c3 z I
       go_wp2
       go_ret;exact⟨by rw[E2.out];rfl,D⟩
 |true=>
  obtain⟨c0,c1,c2,c3⟩:=hP.box;dsimp only at c0 c1 c2 c3;go_enter func104,ntmps104
  go_wp2_with fail
  refine hv.mono ?_;rintro e w1 ⟨rfl,aa⟩;replace hP:=hP.below aa;replace hB:=hB.trans (aa.mono hB.size);clear hv aa c0 c1 c2 c3;by_cases h1:batF (y.map m)=0
  ·have HS:Hid (E=if(d.map g).length<1∨4<(d.map g).length then 2 else if z0R (d.map g)=0 then vf dec 1 else z0R (d.map g)):=by
    have:=HE.out;rw[if_neg (by simp),if_neg (fun h=>h.2 h1)]at this;exact this
   rw[h1];clear HE h1;have hv:=True.intro;by_cases Y:d.length<1
   ·have E2:Hid (E=2):=by rw[HS.out,if_pos (Or.inl (by simpa using Y))];rfl
    obtain⟨c0,c1,c2,c3⟩:=hP.box;dsimp only at c0 c1 c2 c3;clear HS hv
    go_wp2
    go_ret;exact⟨by rw[E2.out];rfl,hB⟩
   ·by_cases Z:4<d.length
    ·have E2:Hid (E=2):=by rw[HS.out,if_pos (Or.inr (by simpa using Z))];rfl
     obtain⟨c0,c1,c2,c3⟩:=hP.box;dsimp only at c0 c1 c2 c3;clear HS hv
     go_wp2
     go_ret;exact⟨by rw[E2.out];rfl,hB⟩
    ·have N:Hid (E=if z0R (d.map g)=0 then vf dec 1 else z0R (d.map g)):=by
      have:=HS.out;rw[if_neg (by simp only[Va];omega)]at this;exact this
     have ah:¬(d.length:Int)<1:=by omega
     have ai:¬(4:Int)<d.length:=by omega
     clear HS Y Z;obtain⟨c0,c1,c2,c3⟩:=hP.box;dsimp only at c0 c1 c2 c3
     go_wp2
     clear c0 c1 c2 c3;go_loopw[4] (fun j wr=>∃k:Nat,k≤d.length∧j=l H k∧Hid (∀j,j<k→vf ((d.map g).getD j z0K).rep 1=0∧vf ((d.map g).getD j z0K).pro 2=0)∧Below w1.heap.size w1 wr) (fun j _=>d.length-(intOf j).toNat)
     case atStart=>exact⟨0,Nat.zero_le _,rfl,fun j hj=>absurd hj (Nat.not_lt_zero _),Below.refl _ _⟩
     case round=>
      obtain⟨k,hk,rfl,HA,hb⟩:=hrel;have I:=hP.below hb;have D:=hB.trans (hb.mono hB.size);obtain⟨c0,c1,c2,c3⟩:=I.box;dsimp only at c0 c1 c2 c3;by_cases L:k<d.length
      ·obtain⟨rb,ro,rfl,ak,hc,af⟩:=I.rounds.cell (by decide) k L;have W:∀j x,(roundK.cells d[k])[j]?=some x→wr.cell? ⟨rb,ro+k*2+j,none⟩=some x:=hc;have r0:=W 0 (d[k].vr) rfl;have r1:=W 1 (d[k].vp) rfl;have al:=q0q d k L;have C:=z2j (d.map g) k HA.out (by simpa using L);rw[z1w d k L]at C;dsimp only[g]at C;have T:Hid (vf d[k].rep 1≠0→E=vf d[k].rep 1):=fun h=>by rw[N.out,C.1 h,if_neg h]
       have U:Hid (vf d[k].rep 1=0→vf d[k].pro 2≠0→E=vf d[k].pro 2):=fun h h2=>by rw[N.out,C.2 h h2,if_neg h2]
       have HN:Hid (vf d[k].rep 1=0→vf d[k].pro 2=0→∀j,j<k+1→vf ((d.map g).getD j z0K).rep 1=0∧vf ((d.map g).getD j z0K).pro 2=0):=by
        intro h1 h2 j hj;by_cases ab:j=k
        ·subst ab;rw[z1w d j L];exact⟨h1,h2⟩
        ·exact HA.out j (by omega)
       clear HA C hc W;generalize d[k]=q at*;obtain⟨qv,qr,qw,qp⟩:=q;obtain⟨rA,rP⟩:intK.At wr qv qr∧intK.At wr qw qp:=af;dsimp only at*;obtain⟨ra,rk,rfl⟩:=rA.shape;obtain⟨pa,pk,rfl⟩:=rP.shape;have M:=z08 ra rk qr 1 wr (z0P rA).2 (by omega);rw[Nat.add_zero]at r0
       go_wp2_with fail
       refine M.mono ?_;rintro e w2 ⟨rfl,z⟩;have O:=I.below z;have A:=D.trans (z.mono D.size);have ae:=World.block_lt_of_cell? wr _ r1;replace r1:=(z.cell (p:=⟨rb,ro+k*2+1,none⟩) ae).trans r1;replace hb:=hb.trans (z.mono hb.size);have X:=z08 pa pk qp 2 w2 (z0P (rP.below z)).2 (by omega);clear M c0 c1 c2 c3 r0 z I D rA rP;obtain⟨c0,c1,c2,c3⟩:=O.box;dsimp only at c0 c1 c2 c3;by_cases h1:vf qr 1=0
       ·have HF:Hid (vf qp 2≠0→E=vf qp 2):=U.out h1;have HM:Hid (vf qp 2=0→_):=HN.out h1;rw[h1];clear T U HN h1
        go_wp2_with fail
        refine X.mono ?_;rintro e w3 ⟨rfl,V⟩;replace hb:=hb.trans (V.mono hb.size);replace A:=A.trans (V.mono A.size);clear X c0 c1 c2 c3 r1 V O;by_cases h2:vf qp 2=0
        ·have R:=HM.out h2;have HR:Hid _:=R;rw[h2];clear HF HM R h2
         go_wp2
         go_roundw
         case rel=>exact⟨k+1,by omega,by go_num,HR.out,hb⟩
         case measure=>simp[intOf];omega
        ·have E2:Hid (E=vf qp 2):=HF.out h2;have aj:(vf qp 2 !=0)=true:=by simpa using h2
         clear HF HM h2;generalize vf qp 2=r at*
         go_wp2
         go_ret;exact⟨by rw[E2.out];rfl,A⟩
       ·have E2:Hid (E=vf qr 1):=T.out h1;have ag:(vf qr 1 !=0)=true:=by simpa using h1
        clear T U HN h1 X;generalize vf qr 1=r at*
        go_wp2
        go_ret;exact⟨by rw[E2.out];rfl,A⟩
      ·have ad:k=d.length:=by omega
       subst ad;have E2:Hid (E=vf dec 1):=by
        have:=N.out;rw[if_pos (z2Y _ (by simpa using HA.out))]at this;exact this
       have J:intK.At wr vd dec:=I.dec;obtain⟨da,dk,rfl⟩:=J.shape;have M:=z08 da dk dec 1 wr (z0P J).2 (by omega);clear HA N J
       go_wp2_with fail
       refine M.mono ?_;rintro e w2 ⟨rfl,z⟩;replace D:=D.trans (z.mono D.size);generalize vf dec 1=r at*;clear M c0 c1 c2 c3 z I
       go_wp2
       go_ret;exact⟨by rw[E2.out];rfl,D⟩
  ·have E1:Hid (E=batF (y.map m)):=by
    have:=HE.out;rw[if_neg (by simp),if_pos ⟨by simp,h1⟩]at this;exact this
   have ag:(batF (y.map m) !=0)=true:=by simpa using h1
   clear HE h1;generalize batF (y.map m)=r at*
   go_wp2
   go_ret;exact⟨by rw[E1.out];rfl,hB⟩
theorem z7n(p:InstQ)(w:World)(h:instK.rd w p)(hl:p.n≤1048576):
  Calls F 79 #[.agg #[.bool p.has,p.vb,p.vr,p.vd]] w fun e w'=>e=.returned (l H (shpF p.e))∧Below w.heap.size w w':=by
 obtain⟨has,vb,d,vr,c,vd,dec⟩:=p;dsimp only[InstQ.n]at hl;have HE:Hid (shpF (InstQ.e ⟨has,vb,d,vr,c,vd,dec⟩)=if has=false∧0 < (d.map m).length then 1 else
  if has=true∧batF (d.map m)≠0 then batF (d.map m)else
  if(c.map g).length<1∨4<(c.map g).length then 2 else
  if z0R (c.map g)=0 then vf dec 1 else z0R (c.map g)):=by
  exact(rfl:shpF _=_)
 generalize shpF (InstQ.e ⟨has,vb,d,vr,c,vd,dec⟩)=E at HE⊢;obtain⟨hT,hR,hD⟩:txnK.At w vb d∧roundK.At w vr c∧intK.At w vd dec:=h;obtain⟨ba,bk,rfl⟩:=hT.shape;obtain⟨va,vk,rfl⟩:=hR.shape;obtain⟨da,dk,rfl⟩:=hD.shape;have hv:=fun w h=>z3t (K ba d.length bk) (d.map m) w h (by rw[Va,z7m];omega)
 have hB:Below w.heap.size w (w.alloc (.cells #[.bool has,K ba d.length bk,K va c.length vk,K da dec.length dk] 64)):=by go_grown
 have Bx:=Blk.new w 64 #[.bool has,K ba d.length bk,K va c.length vk,K da dec.length dk];replace hT:=hT.below hB;replace hR:=hR.below hB;replace hD:=hD.below hB
 cases has with
 |false=>
  by_cases h0:0<d.length
  ·have E1:Hid (E=1):=by rw[HE.out,if_pos ⟨rfl,by simpa using h0⟩];rfl
   clear HE hv;go_enter func79,ntmps79
   go_wp2
   go_ret;exact⟨by rw[E1.out];rfl,hB⟩
  ·have HS:Hid (E=if(c.map g).length<1∨4<(c.map g).length then 2 else if z0R (c.map g)=0 then vf dec 1 else z0R (c.map g)):=by
    have:=HE.out;rw[if_neg (fun h=>h0 (by simpa using h.2)),if_neg (by simp)]at this;exact this
   clear HE hv;have ai:¬(0:Int)<d.length:=by omega
   go_enter func79,ntmps79;by_cases T:c.length<1
   ·have E2:Hid (E=2):=by rw[HS.out,if_pos (Or.inl (by simpa using T))];rfl
    clear HS
    go_wp2
    go_ret;exact⟨by rw[E2.out];rfl,hB⟩
   ·by_cases U:4<c.length
    ·have E2:Hid (E=2):=by rw[HS.out,if_pos (Or.inr (by simpa using U))];rfl
     clear HS
     go_wp2
     go_ret;exact⟨by rw[E2.out];rfl,hB⟩
    ·have D:Hid (E=if z0R (c.map g)=0 then vf dec 1 else z0R (c.map g)):=by
      have:=HS.out;rw[if_neg (by simp only[Va];omega)]at this;exact this
     have ad:¬(c.length:Int)<1:=by omega
     have ae:¬(4:Int)<c.length:=by omega
     clear HS T U
     go_wp2
     generalize (w.alloc (.cells #[.bool false,K ba d.length bk,K va c.length vk,K da dec.length dk] 64))=W at*;go_loopw[38] (fun j wr=>∃k:Nat,k≤c.length∧j=l H k∧Hid (∀j,j<k→vf ((c.map g).getD j z0K).rep 1=0∧vf ((c.map g).getD j z0K).pro 2=0)∧Below W.heap.size W wr) (fun j _=>c.length-(intOf j).toNat)
     case atStart=>exact⟨0,Nat.zero_le _,rfl,fun j hj=>absurd hj (Nat.not_lt_zero _),Below.refl _ _⟩
     case round=>
      obtain⟨k,hk,rfl,HA,hb⟩:=hrel;have A:=hB.trans (hb.mono hB.size);by_cases C:k<c.length
      ·obtain⟨rb,ro,rfl,ag,hc,aa⟩:=(hR.below hb).cell (by decide) k C;have N:∀j x,(roundK.cells c[k])[j]?=some x→wr.cell? ⟨rb,ro+k*2+j,none⟩=some x:=hc;have r0:=N 0 (c[k].vr) rfl;have r1:=N 1 (c[k].vp) rfl;have ah:=q0q c k C;have y:=z2j (c.map g) k HA.out (by simpa using C);rw[z1w c k C]at y;dsimp only[g]at y;have J:Hid (vf c[k].rep 1≠0→E=vf c[k].rep 1):=fun h=>by rw[D.out,y.1 h,if_neg h]
       have L:Hid (vf c[k].rep 1=0→vf c[k].pro 2≠0→E=vf c[k].pro 2):=fun h h2=>by rw[D.out,y.2 h h2,if_neg h2]
       have HN:Hid (vf c[k].rep 1=0→vf c[k].pro 2=0→∀j,j<k+1→vf ((c.map g).getD j z0K).rep 1=0∧vf ((c.map g).getD j z0K).pro 2=0):=by
        intro h1 h2 j hj;by_cases Y:j=k
        ·subst Y;rw[z1w c j C];exact⟨h1,h2⟩
        ·exact HA.out j (by omega)
       clear HA y hc N;generalize c[k]=q at*;obtain⟨qv,qr,qw,qp⟩:=q;obtain⟨rA,rP⟩:intK.At wr qv qr∧intK.At wr qw qp:=aa;dsimp only at*;obtain⟨ra,rk,rfl⟩:=rA.shape;obtain⟨pa,pk,rfl⟩:=rP.shape;have M:Below wr.heap.size wr (wr.alloc (.cells #[K ra qr.length rk,K pa qp.length pk] 138)):=by go_grown
       have V:=hb.alloc hb.size (.cells #[K ra qr.length rk,K pa qp.length pk] 138);have A:=A.alloc A.size (.cells #[K ra qr.length rk,K pa qp.length pk] 138);have Bx:=Blk.new wr 138 #[K ra qr.length rk,K pa qp.length pk];have z:=z0F ra rk qr 1 _ (z0P (rA.below M)).2 (by omega);have I:=z0F pa pk qp 2 _ (z0P (rP.below M)).2 (by omega);rw[q6b]at z;rw[q6L]at I;rw[Nat.add_zero]at r0;clear rA rP M
       go_wp2_with fail
       generalize wr.alloc (.cells #[K ra qr.length rk,K pa qp.length pk] 138)=X at*;refine z.mono ?_;rintro e w2 ⟨rfl,hw⟩;replace hw:=hw.symm;subst hw;clear z r0 r1;by_cases h1:vf qr 1=0
       ·have HF:Hid (vf qp 2≠0→E=vf qp 2):=L.out h1;have HM:Hid (vf qp 2=0→_):=HN.out h1;rw[h1];clear J L HN h1;have p1:=Bx.cell 1 _ rfl
        go_wp2_with fail
        refine I.mono ?_;rintro e w2 ⟨rfl,hw⟩;replace hw:=hw.symm;subst hw;clear I p1 Bx;by_cases h2:vf qp 2=0
        ·have R:=HM.out h2;have HR:Hid _:=R;rw[h2];clear HF HM R h2
         go_wp2
         go_roundw
         case rel=>exact⟨k+1,by omega,by go_num,HR.out,V⟩
         case measure=>simp[intOf];omega
        ·have E2:Hid (E=vf qp 2):=HF.out h2;have af:(vf qp 2 !=0)=true:=by simpa using h2
         clear HF HM h2;generalize vf qp 2=r at*
         go_wp2
         go_ret;exact⟨by rw[E2.out];rfl,A⟩
       ·have E2:Hid (E=vf qr 1):=J.out h1;have ab:(vf qr 1 !=0)=true:=by simpa using h1
        clear J L HN h1 I;generalize vf qr 1=r at*
        go_wp2
        go_ret;exact⟨by rw[E2.out];rfl,A⟩
      ·have Z:k=c.length:=by omega
       subst Z;have E2:Hid (E=vf dec 1):=by
        have:=D.out;rw[if_pos (z2Y _ (by simpa using HA.out))]at this;exact this
       have Br:=Bx.below hb;have c3:=Br.cell 3 _ rfl;have z:=z0F da dk dec 1 wr (z0P (hD.below hb)).2 (by omega);rw[q6b]at z;clear HA D
       go_wp2_with fail
       refine z.mono ?_;rintro e w2 ⟨rfl,hw⟩;replace hw:=hw.symm;subst hw;generalize vf dec 1=r at*;clear z c3
       go_wp2
       go_ret;exact⟨by rw[E2.out];rfl,A⟩
 |true=>
  go_enter func79,ntmps79
  go_wp2_with fail
  generalize w.alloc (.cells #[.bool true,K ba d.length bk,K va c.length vk,K da dec.length dk] 64)=W at*;refine(hv W (z3U hT)).mono ?_;rintro e w1 ⟨rfl,O⟩;replace hR:=hR.below O;replace hD:=hD.below O;replace Bx:=Bx.below O;replace hB:=hB.trans (O.mono hB.size);clear hv O hT;by_cases h1:batF (d.map m)=0
  ·have HS:Hid (E=if(c.map g).length<1∨4<(c.map g).length then 2 else if z0R (c.map g)=0 then vf dec 1 else z0R (c.map g)):=by
    have:=HE.out;rw[if_neg (by simp),if_neg (fun h=>h.2 h1)]at this;exact this
   rw[h1];clear HE h1;by_cases T:c.length<1
   ·have E2:Hid (E=2):=by rw[HS.out,if_pos (Or.inl (by simpa using T))];rfl
    clear HS;obtain⟨c0,c1,c2⟩:=Bx.cel3
    go_wp2
    go_ret;exact⟨by rw[E2.out];rfl,hB⟩
   ·by_cases U:4<c.length
    ·have E2:Hid (E=2):=by rw[HS.out,if_pos (Or.inr (by simpa using U))];rfl
     clear HS;obtain⟨c0,c1,c2⟩:=Bx.cel3
     go_wp2
     go_ret;exact⟨by rw[E2.out];rfl,hB⟩
    ·have D:Hid (E=if z0R (c.map g)=0 then vf dec 1 else z0R (c.map g)):=by
      have:=HS.out;rw[if_neg (by simp only[Va];omega)]at this;exact this
     have ad:¬(c.length:Int)<1:=by omega
     have ae:¬(4:Int)<c.length:=by omega
     clear HS T U;obtain⟨c0,c1,c2⟩:=Bx.cel3
     go_wp2
     clear c0 c1 c2;go_loopw[38] (fun j wr=>∃k:Nat,k≤c.length∧j=l H k∧Hid (∀j,j<k→vf ((c.map g).getD j z0K).rep 1=0∧vf ((c.map g).getD j z0K).pro 2=0)∧Below w1.heap.size w1 wr) (fun j _=>c.length-(intOf j).toNat)
     case atStart=>exact⟨0,Nat.zero_le _,rfl,fun j hj=>absurd hj (Nat.not_lt_zero _),Below.refl _ _⟩
     case round=>
      obtain⟨k,hk,rfl,HA,hb⟩:=hrel;have A:=hB.trans (hb.mono hB.size);by_cases C:k<c.length
      ·obtain⟨rb,ro,rfl,ag,hc,aa⟩:=(hR.below hb).cell (by decide) k C;have N:∀j x,(roundK.cells c[k])[j]?=some x→wr.cell? ⟨rb,ro+k*2+j,none⟩=some x:=hc;have r0:=N 0 (c[k].vr) rfl;have r1:=N 1 (c[k].vp) rfl;have ah:=q0q c k C;have y:=z2j (c.map g) k HA.out (by simpa using C);rw[z1w c k C]at y;dsimp only[g]at y;have J:Hid (vf c[k].rep 1≠0→E=vf c[k].rep 1):=fun h=>by rw[D.out,y.1 h,if_neg h]
       have L:Hid (vf c[k].rep 1=0→vf c[k].pro 2≠0→E=vf c[k].pro 2):=fun h h2=>by rw[D.out,y.2 h h2,if_neg h2]
       have HN:Hid (vf c[k].rep 1=0→vf c[k].pro 2=0→∀j,j<k+1→vf ((c.map g).getD j z0K).rep 1=0∧vf ((c.map g).getD j z0K).pro 2=0):=by
        intro h1 h2 j hj;by_cases Y:j=k
        ·subst Y;rw[z1w c j C];exact⟨h1,h2⟩
        ·exact HA.out j (by omega)
       clear HA y hc N;generalize c[k]=q at*;obtain⟨qv,qr,qw,qp⟩:=q;obtain⟨rA,rP⟩:intK.At wr qv qr∧intK.At wr qw qp:=aa;dsimp only at*;obtain⟨ra,rk,rfl⟩:=rA.shape;obtain⟨pa,pk,rfl⟩:=rP.shape;have M:Below wr.heap.size wr (wr.alloc (.cells #[K ra qr.length rk,K pa qp.length pk] 138)):=by go_grown
       have V:=hb.alloc hb.size (.cells #[K ra qr.length rk,K pa qp.length pk] 138);have A:=A.alloc A.size (.cells #[K ra qr.length rk,K pa qp.length pk] 138);have Bx:=Blk.new wr 138 #[K ra qr.length rk,K pa qp.length pk];have z:=z0F ra rk qr 1 _ (z0P (rA.below M)).2 (by omega);have I:=z0F pa pk qp 2 _ (z0P (rP.below M)).2 (by omega);rw[q6b]at z;rw[q6L]at I;rw[Nat.add_zero]at r0;clear rA rP M
       go_wp2_with fail
       generalize wr.alloc (.cells #[K ra qr.length rk,K pa qp.length pk] 138)=X at*;refine z.mono ?_;rintro e w2 ⟨rfl,hw⟩;replace hw:=hw.symm;subst hw;clear z r0 r1;by_cases h1:vf qr 1=0
       ·have HF:Hid (vf qp 2≠0→E=vf qp 2):=L.out h1;have HM:Hid (vf qp 2=0→_):=HN.out h1;rw[h1];clear J L HN h1;have p1:=Bx.cell 1 _ rfl
        go_wp2_with fail
        refine I.mono ?_;rintro e w2 ⟨rfl,hw⟩;replace hw:=hw.symm;subst hw;clear I p1 Bx;by_cases h2:vf qp 2=0
        ·have R:=HM.out h2;have HR:Hid _:=R;rw[h2];clear HF HM R h2
         go_wp2
         go_roundw
         case rel=>exact⟨k+1,by omega,by go_num,HR.out,V⟩
         case measure=>simp[intOf];omega
        ·have E2:Hid (E=vf qp 2):=HF.out h2;have af:(vf qp 2 !=0)=true:=by simpa using h2
         clear HF HM h2;generalize vf qp 2=r at*
         go_wp2
         go_ret;exact⟨by rw[E2.out];rfl,A⟩
       ·have E2:Hid (E=vf qr 1):=J.out h1;have ab:(vf qr 1 !=0)=true:=by simpa using h1
        clear J L HN h1 I;generalize vf qr 1=r at*
        go_wp2
        go_ret;exact⟨by rw[E2.out];rfl,A⟩
      ·have Z:k=c.length:=by omega
       subst Z;have E2:Hid (E=vf dec 1):=by
        have:=D.out;rw[if_pos (z2Y _ (by simpa using HA.out))]at this;exact this
       have Br:=Bx.below hb;have c3:=Br.cell 3 _ rfl;have z:=z0F da dk dec 1 wr (z0P (hD.below hb)).2 (by omega);rw[q6b]at z;clear HA D
       go_wp2_with fail
       refine z.mono ?_;rintro e w2 ⟨rfl,hw⟩;replace hw:=hw.symm;subst hw;generalize vf dec 1=r at*;clear z c3
       go_wp2
       go_ret;exact⟨by rw[E2.out];rfl,A⟩
  ·have E1:Hid (E=batF (d.map m)):=by
    have:=HE.out;rw[if_neg (by simp),if_pos ⟨by simp,h1⟩]at this;exact this
   have ab:(batF (d.map m) !=0)=true:=by simpa using h1
   clear HE h1;generalize batF (d.map m)=r at*
   go_wp2
   go_ret;exact⟨by rw[E1.out];rfl,hB⟩
abbrev iv(n:Int):Value:=l H n
def Wel(rs:List RoundE):Prop:=∀r∈rs,r.rep.length=3∧r.pro.length=3
def z1g(r:RoundE):List Value:=(r.rep++r.pro).map iv
def z4q(rs:List RoundE):List Value:=rs.flatMap z1g
def rndC(rs:List RoundE):List Value:=iv rs.length::(z4q rs++List.replicate (24-6*rs.length) (iv 0))
def brdC(has:Bool)(vb:Value)(rs:List RoundE)(dec:List Int):List Value:=rndC rs++([.bool has,vb]++dec.map iv)
theorem z00{r:RoundE}(h:r.rep.length=3∧r.pro.length=3):(z1g r).length=6:=by simp[z1g,h.1,h.2]
theorem z2J{rs:List RoundE}(h:Wel rs):(z4q rs).length=rs.length*6:=by
 induction rs with
 |nil=>rfl
 |cons r t ih=>
  have h1:=ih (fun x hx=>h x (List.mem_cons_of_mem _ hx));have h2:=z00 (h r (by simp));simp only[z4q,List.flatMap_cons,List.length_append,List.length_cons]at h1⊢;omega
theorem z0u{rs:List RoundE}(h:Wel rs)(h4:rs.length≤4):(rndC rs).length=25:=by
 have:=z2J h;simp only[rndC,List.length_cons,List.length_append,List.length_replicate];omega
theorem z2k{has:Bool}{vb:Value}{rs:List RoundE}{dec:List Int}(h:Wel rs)(h4:rs.length≤4)(hd:dec.length=3):(brdC has vb rs dec).length=30:=by
 have:=z0u h h4;simp only[brdC,List.length_append,List.length_cons,List.length_nil,Va];omega
theorem q2t{rs:List RoundE}(h:Wel rs)(r:Nat)(hr:r<rs.length)(j:Nat)(hj:j<6):(z4q rs)[r*6+j]?=(z1g (rs.getD r z0K))[j]?:=by
 induction rs generalizing r with
 |nil=>simp at hr
 |cons q t ih=>
  have hq:=z00 (h q (by simp));simp only[z4q,List.flatMap_cons]
  cases r with
  |zero=>
   rw[List.getElem?_append_left (by omega)];simp
  |succ r=>
   rw[List.getElem?_append_right (by omega),hq,show(r+1)*6+j-6=r*6+j by omega];have:=ih (fun x hx=>h x (List.mem_cons_of_mem _ hx)) r (by simpa using hr);simpa[z4q]using this
theorem z2K{rs:List RoundE}(h:Wel rs)(r:Nat)(hr:r<rs.length):(rs.getD r z0K).rep.length=3∧(rs.getD r z0K).pro.length=3:=by
 have e:rs.getD r z0K=rs[r]:=by simp[f,hr]
 rw[e];exact h _ (List.getElem_mem hr)
theorem q30{q:RoundE}(h:q.rep.length=3∧q.pro.length=3)(n:Nat)(hn:n<3):(z1g q)[n]?=some (iv (q.rep.getD n 0)):=by
 unfold z1g;rw[List.getElem?_map,List.getElem?_append_left (by omega),List.getElem?_eq_getElem (by omega)];simp[f,show n<q.rep.length by omega]
theorem q0r{q:RoundE}(h:q.rep.length=3∧q.pro.length=3)(n:Nat)(hn:n<3):(z1g q)[3+n]?=some (iv (q.pro.getD n 0)):=by
 unfold z1g;rw[List.getElem?_map,List.getElem?_append_right (by omega),h.1,show 3+n-3=n by omega,List.getElem?_eq_getElem (by omega)];simp[f,show n<q.pro.length by omega]
theorem z9E(rs:List RoundE):(rndC rs)[0]?=some (iv rs.length):=rfl
theorem q0s{rs:List RoundE}(h:Wel rs)(r:Nat)(hr:r<rs.length)(j:Nat)(hj:j<6):(rndC rs)[1+r*6+j]?=(z1g (rs.getD r z0K))[j]?:=by
 have hl:=z2J h;unfold rndC;rw[show 1+r*6+j=(r*6+j)+1 by omega,List.getElem?_cons_succ,List.getElem?_append_left (by omega),q2t h r hr j hj]
theorem z9F{rs:List RoundE}(h:Wel rs)(r:Nat)(hr:r<rs.length)(n:Nat)(hn:n<3):(rndC rs)[1+r*6+n]?=some (iv (repA rs r n)):=by
 rw[q0s h r hr n (by omega),q30 (z2K h r hr) n hn];rfl
theorem z9G{rs:List RoundE}(h:Wel rs)(r:Nat)(hr:r<rs.length)(n:Nat)(hn:n<3):(rndC rs)[1+r*6+3+n]?=some (iv (proA rs r n)):=by
 rw[show 1+r*6+3+n=1+r*6+(3+n) by omega,q0s h r hr (3+n) (by omega),q0r (z2K h r hr) n hn];rfl
theorem z5I{has:Bool}{vb:Value}{rs:List RoundE}{dec:List Int}(h:Wel rs)(h4:rs.length≤4)(j:Nat)(hj:j<25):(brdC has vb rs dec)[j]?=(rndC rs)[j]?:=by
 have:=z0u h h4;unfold brdC;rw[List.getElem?_append_left (by omega)]
theorem z7o{has:Bool}{vb:Value}{rs:List RoundE}{dec:List Int}(h:Wel rs)(h4:rs.length≤4):(brdC has vb rs dec)[25]?=some (.bool has):=by
 have:=z0u h h4;unfold brdC;rw[List.getElem?_append_right (by omega),this];rfl
theorem q2u{has:Bool}{vb:Value}{rs:List RoundE}{dec:List Int}(h:Wel rs)(h4:rs.length≤4):(brdC has vb rs dec)[26]?=some vb:=by
 have:=z0u h h4;unfold brdC;rw[List.getElem?_append_right (by omega),this];rfl
theorem z9H{has:Bool}{vb:Value}{rs:List RoundE}{dec:List Int}(h:Wel rs)(h4:rs.length≤4)(hd:dec.length=3)(n:Nat)(hn:n<3):(brdC has vb rs dec)[27+n]?=some (iv (dec.getD n 0)):=by
 have:=z0u h h4;unfold brdC;rw[List.getElem?_append_right (by omega),this,show 27+n-25=n+2 by omega];simp[f,show n<dec.length by omega]
theorem z2L:(F.info? 103).map (·.size)=some 25:=by kernel_rfl
theorem z2l:(F.info? 105).map (·.size)=some 30:=by kernel_rfl
theorem z3W:(F.info? 98).map (·.size)=some 3:=by kernel_rfl
theorem z9I:(F.info? 100).map (·.size)=some 6:=by kernel_rfl
theorem rng{w:World}{b o:Nat}{t:TypeId}{cs:Array Value}(hB:Blk w b t cs)(L:List Value)(h:∀j v,L[j]?=some v→cs[o+j]?=some v):w.rangeAt b o L:=fun j v hv=>hB.cell (o+j) v (h j v hv)
theorem q6g{w:World}{b o:Nat}(L:List Value)(ty:TypeId)(d:TypeDesc)(hr:w.rangeAt b o L)(hlt:b<w.heap.size)(hu:F.underlying ty=some d)(hd:d.isRow=true)(hi:(F.info? ty).map (·.size)=some L.length):
  ∀u:Lat w,(Instr.loadAt ty (.pointer (some ⟨b,o,none⟩))).run F u.val=.ok (.agg L.toArray) u.val:=fun u=>by
 refine run_loadAt_mid u.val b o ty L d (fun j v hv=>?_) hu hd hi;rw[u.isBelow.cell (p:=⟨b,o+j,none⟩) hlt];exact hr j v hv
section
variable {ops:Array Oper} {rest:List Oper} {op:Oper} {a:Act} {w:World} {Q:Exit→Act→World→Prop}
theorem z9J(hw:Region.wanted op (yielded ops a.tmps)=true)(ty:TypeId)(x:Operand)(ho:op.op=.load ty x)
  (b o:Nat) (hx:a.eval x=.pointer (some ⟨b,o,none⟩)) (cs:List Value) (d:TypeDesc) (hc:w.rangeAt b o cs)
  (hu:F.underlying ty=some d) (hd:d.isRow=true) (hi:(F.info? ty).map (·.size)=some cs.length)
  (h:wpList F ops Q rest (a.put op.dst (.agg cs.toArray)) w):wpList F ops Q (op::rest) a w:=by
 simp only[wpList];rw[if_pos hw];exact Or.inl (wp_load_mid ty x ho b o hx cs d hc hu hd hi h)
theorem st_g(hw:Region.wanted op (yielded ops a.tmps)=true)(ty:TypeId)(x y:Operand)(ho:op.op=.store ty x y)
  (b o:Nat) (cells:Array Value) (hx:a.eval x=.pointer (some ⟨b,o,none⟩)) (hy:a.eval y=.agg cells)
  (ht:w.there b o cells.size) (hi:(F.info? ty).map (·.size)=some cells.size) (h1:cells.all (·.oneCell')=true)
  (h:wpList F ops Q rest (a.put op.dst undef) (w.setCells b o cells.toList)):wpList F ops Q (op::rest) a w:=by
 simp only[wpList];rw[if_pos hw];exact Or.inl (wp_store_mid ty x y ho b o cells hx hy ht hi h1 h)
end
theorem z3E(rs:List RoundE)(r n:Nat)(w:World)(h:Wel rs)(h4:rs.length≤4)(hr:r<rs.length)(hn:n<3):
  Calls F 169 #[.agg (rndC rs).toArray,l H (r:Int),l H (n:Int)] w fun e w'=>e=.returned (.bool (proA rs r n !=3))∧Below w.heap.size w w':=by
 have hp:=z9G h r hr n hn;have hl:=z0u h h4;generalize proA rs r n=P at*;generalize rndC rs=cs at*;have hr4:(r:Int)<4:=by omega
 have hn3:(n:Int)<3:=by omega
 go_enter func169,ntmps169
 go_wp2
 go_ret;exact⟨rfl,by go_grown⟩
theorem z7p(rs:List RoundE)(r n:Nat)(w:World)(h:Wel rs)(h4:rs.length≤4)(hn:n<3):
  Calls F 171 #[.agg (rndC rs).toArray,l H (r:Int),l H (n:Int)] w fun e w'=>e=.returned (.bool (decide (r<rs.length) && (repA rs r n !=3)))∧Below w.heap.size w w':=by
 have hc:=z9E rs;have hn3:(n:Int)<3:=by omega
 by_cases hr:r<rs.length
 ·have hp:=z9F h r hr n hn;have hr4:(r:Int)<4:=by omega
  have hd:decide (r<rs.length)=true:=decide_eq_true hr;rw[hd,Bool.true_and];generalize repA rs r n=P at*;generalize rs.length=c at*;generalize rndC rs=cs at*;clear hd;go_enter func171,ntmps171
  go_wp2
  go_ret;exact⟨rfl,by go_grown⟩
 ·have hd:decide (r<rs.length)=false:=decide_eq_false hr;rw[hd,Bool.false_and];generalize rs.length=c at*;generalize rndC rs=cs at*;clear hd;go_enter func171,ntmps171
  go_wp2
  go_ret;exact⟨rfl,by go_grown⟩
theorem q2v:(F.info? 2).map (fun i=>(i.zero,i.size,i.bytes))=some (some (l H 0),1,8):=by kernel_rfl
theorem z6O(b y cap:Nat)(zs:List Int)(w:World)(h:Row .i64 w (some ⟨b,y,none⟩) zs)(h0:0<zs.length)(hl:zs.length≤1048576):
  Calls F 131 #[K (some ⟨b,y,none⟩) zs.length cap] w fun e w'=>∃a c,e=.returned (K a zs.length c)∧
   w'.ownsRow w.heap.size 2 1 (K a zs.length c) zs.length (zs.map iv)∧Below w.heap.size w w':=by
 obtain⟨i0,hi,D,E,I⟩:=info_parts q2v;have hs:=z2X (Lies.below (z3C h) (w':=w.alloc (.cells #[] 2)) (by go_grown));have C:(zs.map iv).length=zs.length*1:=by simp
 have ho:=World.ownsRow_lit (e:=2) (size:=1) w #[] 0 (Nat.le_refl _) (by decide) rfl;have HS:Hid (∀j u,(zs.map iv)[j]?=some u→_):=hs;clear hs;have J:∀w,(binOp .eql 62 (K (some ⟨b,y,none⟩) zs.length cap) (K none 0 0)).run F w=.ok (.bool false) w:=fun w=>by first|rfl|kernel_rfl|(simp only[binOp];simp[Op.equal,Op.maxDepth,Op.equalIn,run_underlying Tryz.underlying62])
 go_enter func131,ntmps131
 go_wp2_with (at_builtin;refine wpList_append_own _ rfl _ _ 62 rfl w.heap.size 2 i0 (l H 0) 1 8 Tryz.underlying62 hi D E I rfl (by decide) _ 0 [] rfl ho ⟨b,y,none⟩ zs.length cap (zs.map iv) rfl C HS.out ?c2 ?c3 ?c4 ?c5 ?_)
 all_goals try(case c2=>first|(intro u hu;obtain⟨z,_,rfl⟩:=List.mem_map.1 hu;rfl)|(intro u hu;rfl))
 all_goals try(case c3=>unfold maxLen;omega)
 all_goals try(case c4=>omega)
 all_goals try(case c5=>simp)
 intro v' w2 x d _;obtain⟨a2,c2,rfl⟩:=z0f x;have A:Below w.heap.size w w2:=((Below.refl _ _).alloc (Nat.le_refl _) _).grown d (by simp) (fun k hk=>by simp[Value.ownBlock]at hk;omega);try simp only[Nat.zero_add]at x
 clear d HS ho
 go_wp2
 go_ret;exact⟨a2,c2,rfl,by simpa using x,A⟩
theorem z7q{w':World}{base n c:Nat}{a:Option Addr}{zs:List Int}(hn:n=zs.length)(h:w'.ownsRow base 2 1 (K a n c) n (zs.map iv)):intK.Own w' (K a n c) zs∧(∀k∈intK.fp (K a n c) zs,base≤k):=by
 subst hn;obtain⟨o,hk⟩:=z0B h;refine⟨⟨by rw[z5h];exact o,fun _ _=>trivial⟩,?_⟩;rw[z3D];exact hk
theorem z2m(zs:List Int)(w:World)(h3:zs.length=3):
  Calls F 88 #[.agg (zs.map iv).toArray] w fun e w'=>∃a c,e=.returned (K a 3 c)∧intK.Own w' (K a 3 c) zs∧(∀k∈intK.fp (K a 3 c) zs,w.heap.size≤k)∧Row .i64 w' a zs∧Below w.heap.size w w':=by
 have hB:Below w.heap.size w (w.alloc (.cells (zs.map iv).toArray 98)):=by go_grown
 have hR:Row .i64 (w.alloc (.cells (zs.map iv).toArray 98)) (some ⟨w.heap.size,0,none⟩) zs:=by
  intro i hi;refine⟨_,_,rfl,by simp,?_⟩;have:=(Blk.new w 98 (zs.map iv).toArray).cell i (iv (zs.getD i 0)) (by simp[f,hi]);rw[Nat.zero_add];exact this
 have hcl:=z6O w.heap.size 0 3 zs _ hR (by omega) (by omega);rw[h3]at hcl;go_enter func88,ntmps88
 go_wp2_with fail
 refine hcl.mono ?_;rintro e w2 ⟨a,c,rfl,ho,hb⟩;obtain⟨O,G⟩:=z7q h3.symm ho;have hRR:=Row.own ho;have G2:Hid (∀k∈intK.fp (K a 3 c) zs,w.heap.size≤k):=fun k hk=>Nat.le_trans (by simp) (G k hk)
 replace hB:=hB.trans (hb.mono hB.size);clear hcl ho hb G
 go_wp2
 go_ret;exact⟨a,c,rfl,O,G2.out,hRR,hB⟩
section
variable {has:Bool} {vb:Value} {rs:List RoundE} {dec:List Int} {w:World} {b:Nat} {t:TypeId}
theorem z4r (h:Wel rs) (h4:rs.length≤4) (hB:Blk w b t (brdC has vb rs dec).toArray):w.rangeAt b 0 (rndC rs):=rng hB _ (fun j v hv=>by
 have hj:=(List.getElem?_eq_some_iff.1 hv).1;rw[z0u h h4]at hj;rw[Nat.zero_add,List.getElem?_toArray,z5I h h4 j hj];exact hv)
theorem row_get{zs:List Int}(hl:zs.length=3){j:Nat}{v:Value}(hv:(zs.map iv)[j]?=some v):j<3∧v=iv (zs.getD j 0):=by
 have hj:j<zs.length:=by have:=(List.getElem?_eq_some_iff.1 hv).1;simpa using this
 refine⟨by omega,?_⟩;rw[List.getElem?_map,List.getElem?_eq_getElem hj]at hv;simp only[Option.map_some,Option.some.injEq]at hv;rw[←hv];simp[f,hj]
theorem q31(h:Wel rs)(r:Nat)(hr:r<rs.length):∀j v,((rs.getD r z0K).pro.map iv)[j]?=some v→(rndC rs)[1+r*6+3+j]?=some v:=by
 intro j v hv;obtain⟨hj,rfl⟩:=row_get (z2K h r hr).2 hv;exact z9G h r hr j hj
theorem q32(h:Wel rs)(r:Nat)(hr:r<rs.length):∀j v,((rs.getD r z0K).rep.map iv)[j]?=some v→(rndC rs)[1+r*6+j]?=some v:=by
 intro j v hv;obtain⟨hj,rfl⟩:=row_get (z2K h r hr).1 hv;exact z9F h r hr j hj
theorem q0t (h:Wel rs) (h4:rs.length≤4) (r:Nat) (hr:r < rs.length) (hB:Blk w b t (brdC has vb rs dec).toArray):w.rangeAt b (1 + r * 6 + 3) ((rs.getD r z0K).pro.map iv):=rng hB _ (fun j v hv=>by
 have h1:=q31 h r hr j v hv;have hj:=(List.getElem?_eq_some_iff.1 h1).1;rw[z0u h h4]at hj;rw[List.getElem?_toArray,z5I h h4 _ hj];exact h1)
end
theorem z4s(has:Bool)(vb:Value)(rs:List RoundE)(dec:List Int)(r n:Nat)(w:World)(hG:Rul w)(h:Wel rs)(h4:rs.length≤4)(hd:dec.length=3)(hr:r<rs.length)(hn:n<3):
  Calls F 135 #[.agg (brdC has vb rs dec).toArray,l H (r:Int),l H (n:Int)] w fun e w'=>e=.returned (.bool (repI has rs r n))∧Below w.heap.size w w':=by
 have hB:=Blk.new w 105 (brdC has vb rs dec).toArray;have D:Below w.heap.size w (w.alloc (.cells (brdC has vb rs dec).toArray 105)):=by go_grown
 have c1:(brdC has vb rs dec)[1+r*6+n]?=some (iv (repA rs r n)):=by
  have h1:=z9F h r hr n hn;rw[z5I h h4 _ (by omega)];exact h1
 have c2:=z7o (has:=has) (vb:=vb) (dec:=dec) h h4;generalize hE:repI has rs r n=E;have HE:Hid (E=if repA rs r n=1∧has=false then false else if repA rs r n=3∨r=0 then true else q3I rs r n):=hE.symm;clear hE;have am:(r:Int)<4:=by omega
 have al:(n:Int)<3:=by omega
 by_cases h1:repA rs r n=1
 ·cases has with
  |false=>
   have E2:Hid (E=false):=by rw[HE.out,if_pos ⟨h1,rfl⟩];rfl
   rw[h1]at c1;clear HE hB h1;generalize brdC false vb rs dec=cs at*;go_enter func135,ntmps135
   go_wp2
   go_ret;exact⟨by rw[E2.out];rfl,D⟩
  |true=>
   have c:Hid (E=if repA rs r n=3∨r=0 then true else q3I rs r n):=by
    have:=HE.out;rw[if_neg (by simp)]at this;exact this
   rw[h1]at c1;obtain⟨R,C⟩:∃R:Int,R=1:=⟨1,rfl⟩
   have d:Hid (R=repA rs r n):=C.trans h1.symm;have ah:(R==3)=false:=by rw[C];rfl
   have ak:(R==1)=true:=by rw[C];rfl
   rw[←C]at c1;have T:¬R=3:=by omega
   clear HE h1 C;by_cases ad:r=0
   ·have E2:Hid (E=true):=by rw[c.out,if_pos (Or.inr ad)];rfl
    subst ad;simp only[Nat.zero_mul,Nat.add_zero,Nat.zero_add]at c1;clear c d;generalize brdC true vb rs dec=cs at*;go_enter func135,ntmps135
    go_wp2
    go_ret;exact⟨by rw[E2.out];rfl,D⟩
   ·obtain⟨s,rfl⟩:∃s,r=s+1:=⟨r-1,by omega⟩
    have HS:Hid (E=((proA rs s n !=3) && mayR (rs.getD s z0K).pro R)):=by rw[c.out,if_neg (by rw[←d.out];omega),d.out];exact(rfl:_=_)
    have hs:s<rs.length:=by omega
    have aa:=fun w=>z3E rs s n w h h4 hs hn
    have ae:=z4r h h4 hB;have J:(F.info? 103).map (·.size)=some (rndC rs).length:=by rw[z0u h h4];exact z2L
    have af:=z2K h s hs;have N:=z2m (rs.getD s z0K).pro;have Z:=hB.lt;have aj:¬((s:Int)+1=0):=by omega
    have x:=q0t h h4 s hs hB;have y:(F.info? 98).map (·.size)=some ((rs.getD s z0K).pro.map iv).length:=by rw[Va,af.2];exact z3W
    have ab:=af.2;clear c d;generalize (rs.getD s z0K).pro=qp at*;generalize proA rs s n=A at*;generalize rndC rs=ds at*;go_enter func135,ntmps135;generalize brdC true vb rs dec=cs at*
    go_wp2_with (refine z9J (by kernel_rfl) 103 _ rfl _ _ rfl ds _ ae Tryz.underlying103 rfl J ?_)
    clear ae J;generalize w.alloc (.cells cs.toArray 105)=W at*;refine(aa W).mono ?_;rintro e w1 ⟨rfl,U⟩;have L:=D.trans (U.mono D.size);clear aa;by_cases hA:A=3
    ·have E2:Hid (E=false):=by rw[HS.out,hA];rfl
     have z:(A !=3)=false:=by simp[hA]
     rw[z];clear HS N x y hA
     go_wp2
     go_ret;exact⟨by rw[E2.out];rfl,L⟩
    ·have z:(A !=3)=true:=by simpa using hA
     rw[z]at HS;rw[z];have ai:=Z;have I:w1.rangeAt w.heap.size (1+s*6+3) (qp.map iv):=fun j v hv=>by rw[U.cell (p:=⟨w.heap.size,1+s*6+3+j,none⟩) Z];exact x j v hv
     clear x hA
     go_wp2_with (refine z9J (by kernel_rfl) 98 _ rfl _ _ rfl (qp.map iv) _ I Tryz.underlying98 rfl y ?_)
     clear I y;refine(N w1 ab).mono ?_;rintro e w2 ⟨la,lc,rfl,lO,lG,lR,V⟩;have M:=L.trans (V.mono L.size);have O:=z4N la lc qp R w2 (hG.below M) lR (by omega);rw[ab]at O;generalize mayR qp R=Y at*;clear N lO lG V
     go_wp2_with fail
     refine O.mono ?_;rintro e w3 ⟨rfl,X⟩;have ag:=M.trans (X.mono M.size);clear O X;have E2:Hid (E=Y):=by rw[HS.out];exact(rfl:_=_)
     clear HS
     go_wp2
     go_ret;exact⟨by rw[E2.out];rfl,ag⟩
 ·have c:Hid (E=if repA rs r n=3∨r=0 then true else q3I rs r n):=by
   have:=HE.out;rw[if_neg (fun e=>h1 e.1)]at this;exact this
  generalize C:repA rs r n=R at c1 h1;have d:Hid (R=repA rs r n):=C.symm;have ak:(R==1)=false:=by simpa using h1
  clear HE h1 C;by_cases T:R=3
  ·have E2:Hid (E=true):=by rw[c.out,if_pos (Or.inl (by rw[←d.out];exact T))];rfl
   have ah:(R==3)=true:=by simp[T]
   clear c d T;generalize brdC has vb rs dec=cs at*;go_enter func135,ntmps135
   go_wp2
   go_ret;exact⟨by rw[E2.out];rfl,D⟩
  ·have ah:(R==3)=false:=by simpa using T
   by_cases ad:r=0
   ·have E2:Hid (E=true):=by rw[c.out,if_pos (Or.inr ad)];rfl
    subst ad;simp only[Nat.zero_mul,Nat.add_zero,Nat.zero_add]at c1;clear c d;generalize brdC has vb rs dec=cs at*;go_enter func135,ntmps135
    go_wp2
    go_ret;exact⟨by rw[E2.out];rfl,D⟩
   ·obtain⟨s,rfl⟩:∃s,r=s+1:=⟨r-1,by omega⟩
    have HS:Hid (E=((proA rs s n !=3) && mayR (rs.getD s z0K).pro R)):=by rw[c.out,if_neg (by rw[←d.out];omega),d.out];exact(rfl:_=_)
    have hs:s<rs.length:=by omega
    have aa:=fun w=>z3E rs s n w h h4 hs hn
    have ae:=z4r h h4 hB;have J:(F.info? 103).map (·.size)=some (rndC rs).length:=by rw[z0u h h4];exact z2L
    have af:=z2K h s hs;have N:=z2m (rs.getD s z0K).pro;have Z:=hB.lt;have aj:¬((s:Int)+1=0):=by omega
    have x:=q0t h h4 s hs hB;have y:(F.info? 98).map (·.size)=some ((rs.getD s z0K).pro.map iv).length:=by rw[Va,af.2];exact z3W
    have ab:=af.2;clear c d;generalize (rs.getD s z0K).pro=qp at*;generalize proA rs s n=A at*;generalize rndC rs=ds at*;go_enter func135,ntmps135;generalize brdC has vb rs dec=cs at*
    go_wp2_with (refine z9J (by kernel_rfl) 103 _ rfl _ _ rfl ds _ ae Tryz.underlying103 rfl J ?_)
    clear ae J;generalize w.alloc (.cells cs.toArray 105)=W at*;refine(aa W).mono ?_;rintro e w1 ⟨rfl,U⟩;have L:=D.trans (U.mono D.size);clear aa;by_cases hA:A=3
    ·have E2:Hid (E=false):=by rw[HS.out,hA];rfl
     have z:(A !=3)=false:=by simp[hA]
     rw[z];clear HS N x y hA
     go_wp2
     go_ret;exact⟨by rw[E2.out];rfl,L⟩
    ·have z:(A !=3)=true:=by simpa using hA
     rw[z]at HS;rw[z];have ai:=Z;have I:w1.rangeAt w.heap.size (1+s*6+3) (qp.map iv):=fun j v hv=>by rw[U.cell (p:=⟨w.heap.size,1+s*6+3+j,none⟩) Z];exact x j v hv
     clear x hA
     go_wp2_with (refine z9J (by kernel_rfl) 98 _ rfl _ _ rfl (qp.map iv) _ I Tryz.underlying98 rfl y ?_)
     clear I y;refine(N w1 ab).mono ?_;rintro e w2 ⟨la,lc,rfl,lO,lG,lR,V⟩;have M:=L.trans (V.mono L.size);have O:=z4N la lc qp R w2 (hG.below M) lR (by omega);rw[ab]at O;generalize mayR qp R=Y at*;clear N lO lG V
     go_wp2_with fail
     refine O.mono ?_;rintro e w3 ⟨rfl,X⟩;have ag:=M.trans (X.mono M.size);clear O X;have E2:Hid (E=Y):=by rw[HS.out];exact(rfl:_=_)
     clear HS
     go_wp2
     go_ret;exact⟨by rw[E2.out];rfl,ag⟩
theorem z5J(rs:List RoundE)(r n:Nat)(w:World)(hG:Rul w)(h:Wel rs)(h4:rs.length≤4)(hr:r<rs.length)(hn:n<3):
  Calls F 136 #[.agg (rndC rs).toArray,l H (r:Int),l H (n:Int)] w fun e w'=>e=.returned (.bool (proR rs r n))∧Below w.heap.size w w':=by
 have B:=Blk.new w 103 (rndC rs).toArray;have d:Below w.heap.size w (w.alloc (.cells (rndC rs).toArray 103)):=by go_grown
 have V:=z2K h r hr;have N:=V.1;have z:=fun w=>z3E rs r n w h h4 hr hn
 have y:=fun w=>z7p rs r n w h h4 hn
 rw[decide_eq_true hr]at y;simp only[Bool.true_and]at y;have I:=z2m (rs.getD r z0K).rep;have C:=fun la lc w hG hR=>z8r la lc (rs.getD r z0K).rep (proA rs r n) w hG hR (by omega)
 rw[N]at C;have O:=B.lt;have A:=q6g (rndC rs) 103 _ (rng B (rndC rs) (o:=0) (fun j v hv=>by rw[Nat.zero_add,List.getElem?_toArray];exact hv)) O Tryz.underlying103 rfl (by rw[z0u h h4];exact z2L);have J:=q6g ((rs.getD r z0K).rep.map iv) 98 _ (rng B _ (o:=1+r*6) (fun j v hv=>by rw[List.getElem?_toArray];exact q32 h r hr j v hv)) O Tryz.underlying98 rfl (by rw[Va,N];exact z3W);have cp:=z0a (B.cell (1+r*6+3+n) (iv (proA rs r n)) (by rw[List.getElem?_toArray];exact z9G h r hr n hn));have HE:Hid (proR rs r n=((proA rs r n==3)||((repA rs r n !=3) && mayP (rs.getD r z0K).rep (proA rs r n)))):=(rfl:_=_)
 generalize proR rs r n=E at HE⊢;generalize (rs.getD r z0K).rep=qr at*;generalize proA rs r n=P at*;generalize repA rs r n=R at*;generalize rndC rs=ds at*;have Z:(r:Int)<4:=by omega
 have Y:(n:Int)<3:=by omega
 go_enter func136,ntmps136
 go_wp2_with fail
 generalize w.alloc (.cells ds.toArray 103)=W at*;have hW:Below W.heap.size W W.drew:=(Below.refl _ _).drew;have M:Nonempty (Lat W):=⟨⟨W,Below.refl _ _⟩⟩
 by_cases hP:P=3
 ·have E2:Hid (E=true):=by rw[HE.out,hP];rfl
  have D:(P !=3)=false:=by simp[hP]
  rw[D]at z;clear HE hP;refine z0b (S:=fun w'=>∃u:Lat W,w'=u.val) (by kernel_rfl) ?_;refine sgr [(1,2)] 26 (by kernel_rfl) ⟨⟨_,hW⟩,rfl⟩ ?_;simp only[pkE];repeat go_big_quiet_step (fail)
  refine wpQuiet_nil ?_;refine qta 0 (some 7) (.agg ds.toArray) 25 (by kernel_rfl) (fun u hu=>?_) ⟨⟨_,hW⟩,rfl⟩ ?_
  ·obtain⟨u,rfl⟩:=hu;show some (((Instr.loadAt 103 (.pointer (some ⟨w.heap.size,0,none⟩)))>>=fun x=>pure (Next.value x):Sem Next).run F u.val)=_;rw[Sem.run_bind,A u];rfl
  simp only[Vb,pjE];refine cla 3 (some 10) 169 #[.agg ds.toArray,l H (r:Int),l H (n:Int)] 24 (by kernel_rfl) ?_;refine(z _).mono ?_;rintro e w9 ⟨rfl,c⟩;replace hW:=hW.trans (c.mono hW.size);clear c;refine⟨_,rfl,⟨⟨_,hW⟩,rfl⟩,?_⟩;simp only[Vb,pjE];refine sgr [(4,2),(7,2)] 20 (by kernel_rfl) ⟨⟨_,hW⟩,rfl⟩ ?_;simp only[pkE];repeat go_big_quiet_step (fail)
  refine wpQuiet_nil ?_;refine ska 6 (some 13) 19 (by kernel_rfl) ⟨⟨_,hW⟩,rfl⟩ ?_;simp only[Vb,pjE];refine ska 9 (some 16) 18 (by kernel_rfl) ⟨⟨_,hW⟩,rfl⟩ ?_;simp only[Vb,pjE];refine sgr [(10,5),(17,7)] 6 (by kernel_rfl) ⟨⟨_,hW⟩,rfl⟩ ?_;simp only[pkE];repeat go_big_quiet_step (fail)
  refine wpQuiet_nil ?_;refine ska 15 (some 22) 5 (by kernel_rfl) ⟨⟨_,hW⟩,rfl⟩ ?_;simp only[Vb,pjE];refine ska 16 (some 23) 4 (by kernel_rfl) ⟨⟨_,hW⟩,rfl⟩ ?_;simp only[Vb,pjE];refine ska 24 (some 31) 3 (by kernel_rfl) ⟨⟨_,hW⟩,rfl⟩ ?_;simp only[Vb,pjE];refine sgr [(25,3)] 0 (by kernel_rfl) ⟨⟨_,hW⟩,rfl⟩ ?_;simp only[pkE];repeat go_big_quiet_step (fail)
  refine wpQuiet_nil ?_;refine z0g (by kernel_rfl) ?_;replace d:=d.trans (hW.mono d.size);clear A J cp hW M z y I C
  go_wp2
  go_ret;exact⟨by rw[E2.out];rfl,d⟩
 ·have D:(P !=3)=true:=by simpa using hP
  have U:(P==3)=false:=by simpa using hP
  rw[D]at z;rw[U]at HE;clear hP D;by_cases hR:R=3
  ·have E2:Hid (E=false):=by rw[HE.out,hR];rfl
   have L:(R !=3)=false:=by simp[hR]
   rw[L]at y;clear HE hR;refine z0b (S:=fun w'=>∃u:Lat W,w'=u.val) (by kernel_rfl) ?_;refine sgr [(1,2)] 26 (by kernel_rfl) ⟨⟨_,hW⟩,rfl⟩ ?_;simp only[pkE];repeat go_big_quiet_step (fail)
   refine wpQuiet_nil ?_;refine qta 0 (some 7) (.agg ds.toArray) 25 (by kernel_rfl) (fun u hu=>?_) ⟨⟨_,hW⟩,rfl⟩ ?_
   ·obtain⟨u,rfl⟩:=hu;show some (((Instr.loadAt 103 (.pointer (some ⟨w.heap.size,0,none⟩)))>>=fun x=>pure (Next.value x):Sem Next).run F u.val)=_;rw[Sem.run_bind,A u];rfl
   simp only[Vb,pjE];refine cla 3 (some 10) 169 #[.agg ds.toArray,l H (r:Int),l H (n:Int)] 24 (by kernel_rfl) ?_;refine(z _).mono ?_;rintro e w9 ⟨rfl,c⟩;replace hW:=hW.trans (c.mono hW.size);clear c;refine⟨_,rfl,⟨⟨_,hW⟩,rfl⟩,?_⟩;simp only[Vb,pjE];refine sgr [(4,2),(7,2)] 20 (by kernel_rfl) ⟨⟨_,hW⟩,rfl⟩ ?_;simp only[pkE];repeat go_big_quiet_step (fail)
   refine wpQuiet_nil ?_;refine qta 6 (some 13) (.agg ds.toArray) 19 (by kernel_rfl) (fun u hu=>?_) ⟨⟨_,hW⟩,rfl⟩ ?_
   ·obtain⟨u,rfl⟩:=hu;show some (((Instr.loadAt 103 (.pointer (some ⟨w.heap.size,0,none⟩)))>>=fun x=>pure (Next.value x):Sem Next).run F u.val)=_;rw[Sem.run_bind,A u];rfl
   simp only[Vb,pjE];refine cla 9 (some 16) 171 #[.agg ds.toArray,l H (r:Int),l H (n:Int)] 18 (by kernel_rfl) ?_;refine(y _).mono ?_;rintro e w9 ⟨rfl,c⟩;replace hW:=hW.trans (c.mono hW.size);clear c;refine⟨_,rfl,⟨⟨_,hW⟩,rfl⟩,?_⟩;simp only[Vb,pjE];refine sgr [(10,5),(17,7)] 6 (by kernel_rfl) ⟨⟨_,hW⟩,rfl⟩ ?_;simp only[pkE];repeat go_big_quiet_step (fail)
   refine wpQuiet_nil ?_;refine ska 15 (some 22) 5 (by kernel_rfl) ⟨⟨_,hW⟩,rfl⟩ ?_;simp only[Vb,pjE];refine ska 16 (some 23) 4 (by kernel_rfl) ⟨⟨_,hW⟩,rfl⟩ ?_;simp only[Vb,pjE];refine ska 24 (some 31) 3 (by kernel_rfl) ⟨⟨_,hW⟩,rfl⟩ ?_;simp only[Vb,pjE];refine sgr [(25,3)] 0 (by kernel_rfl) ⟨⟨_,hW⟩,rfl⟩ ?_;simp only[pkE];repeat go_big_quiet_step (fail)
   refine wpQuiet_nil ?_;refine z0g (by kernel_rfl) ?_;replace d:=d.trans (hW.mono d.size);clear A J cp hW M z y I C
   go_wp2
   go_ret;exact⟨by rw[E2.out];rfl,d⟩
  ·have L:(R !=3)=true:=by simpa using hR
   rw[L]at y HE;clear hR;have E2:Hid (E=mayP qr P):=by rw[HE.out];exact(rfl:_=_)
   generalize mayP qr P=X at*;clear HE;refine z0b (S:=fun w'=>∃u:Lat W,w'=u.val) (by kernel_rfl) ?_;refine sgr [(1,2)] 26 (by kernel_rfl) ⟨⟨_,hW⟩,rfl⟩ ?_;simp only[pkE];repeat go_big_quiet_step (fail)
   refine wpQuiet_nil ?_;refine qta 0 (some 7) (.agg ds.toArray) 25 (by kernel_rfl) (fun u hu=>?_) ⟨⟨_,hW⟩,rfl⟩ ?_
   ·obtain⟨u,rfl⟩:=hu;show some (((Instr.loadAt 103 (.pointer (some ⟨w.heap.size,0,none⟩)))>>=fun x=>pure (Next.value x):Sem Next).run F u.val)=_;rw[Sem.run_bind,A u];rfl
   simp only[Vb,pjE];refine cla 3 (some 10) 169 #[.agg ds.toArray,l H (r:Int),l H (n:Int)] 24 (by kernel_rfl) ?_;refine(z _).mono ?_;rintro e w9 ⟨rfl,c⟩;replace hW:=hW.trans (c.mono hW.size);clear c;refine⟨_,rfl,⟨⟨_,hW⟩,rfl⟩,?_⟩;simp only[Vb,pjE];refine sgr [(4,2),(7,2)] 20 (by kernel_rfl) ⟨⟨_,hW⟩,rfl⟩ ?_;simp only[pkE];repeat go_big_quiet_step (fail)
   refine wpQuiet_nil ?_;refine qta 6 (some 13) (.agg ds.toArray) 19 (by kernel_rfl) (fun u hu=>?_) ⟨⟨_,hW⟩,rfl⟩ ?_
   ·obtain⟨u,rfl⟩:=hu;show some (((Instr.loadAt 103 (.pointer (some ⟨w.heap.size,0,none⟩)))>>=fun x=>pure (Next.value x):Sem Next).run F u.val)=_;rw[Sem.run_bind,A u];rfl
   simp only[Vb,pjE];refine cla 9 (some 16) 171 #[.agg ds.toArray,l H (r:Int),l H (n:Int)] 18 (by kernel_rfl) ?_;refine(y _).mono ?_;rintro e w9 ⟨rfl,c⟩;replace hW:=hW.trans (c.mono hW.size);clear c;refine⟨_,rfl,⟨⟨_,hW⟩,rfl⟩,?_⟩;simp only[Vb,pjE];refine sgr [(10,5),(17,7)] 6 (by kernel_rfl) ⟨⟨_,hW⟩,rfl⟩ ?_;simp only[pkE];repeat go_big_quiet_step (fail)
   refine wpQuiet_nil ?_;refine qta 15 (some 22) (.agg (qr.map iv).toArray) 5 (by kernel_rfl) (fun u hu=>?_) ⟨⟨_,hW⟩,rfl⟩ ?_
   ·obtain⟨u,rfl⟩:=hu;show some (((Instr.loadAt 98 (.pointer (some ⟨w.heap.size,1+r*6,none⟩)))>>=fun x=>pure (Next.value x):Sem Next).run F u.val)=_;rw[Sem.run_bind,J u];rfl
   simp only[Vb,pjE];refine cla 16 (some 23) 88 #[.agg (qr.map iv).toArray] 4 (by kernel_rfl) ?_;refine(I _ N).mono ?_;rintro e w9 ⟨la,lc,rfl,lO,lG,lR,c⟩;replace hW:=hW.trans (c.mono hW.size);have T:=C la lc _ (hG.below (d.trans (hW.mono d.size))) lR;clear lO lG lR;clear c;refine⟨_,rfl,⟨⟨_,hW⟩,rfl⟩,?_⟩;simp only[Vb,pjE];refine cla 24 (some 31) 172 #[K la 3 lc,l H P] 3 (by kernel_rfl) ?_;refine(T).mono ?_;rintro e w9 ⟨rfl,c⟩;replace hW:=hW.trans (c.mono hW.size);clear c;refine⟨_,rfl,⟨⟨_,hW⟩,rfl⟩,?_⟩;simp only[Vb,pjE];refine sgr [(25,3)] 0 (by kernel_rfl) ⟨⟨_,hW⟩,rfl⟩ ?_;simp only[pkE];repeat go_big_quiet_step (fail)
   refine wpQuiet_nil ?_;refine z0g (by kernel_rfl) ?_;replace d:=d.trans (hW.mono d.size);clear A J cp hW M z y I C T
   go_wp2
   go_ret;exact⟨by rw[E2.out];rfl,d⟩
end Go.Proofs.YtdppipeclnldeaaGreatDoor
