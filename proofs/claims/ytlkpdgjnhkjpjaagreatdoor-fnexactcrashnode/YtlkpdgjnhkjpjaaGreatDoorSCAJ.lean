/- Texts joined,with what the laws reach alone. -/
import Derived.Test.YtlkpdgjnhkjpjaaGreatDoorSCAI
set_option linter.unusedVariables false
set_option linter.unusedSimpArgs false
set_option maxRecDepth 100000
set_option maxHeartbeats 4000000
namespace Go.Proofs.YtlkpdgjnhkjpjaaGreatDoor
open Go.RowKit Go.BigFrame
structure InstP (w:World) (b o:Nat) (p:InstQ):Prop where
 box:Box4 w b o (.bool p.has) p.vb p.vr p.vd
 rd:instK.rd w p
theorem InstP.below{w w':World}{b o:Nat}{p:InstQ}(h:InstP w b o p)(hb:Below w.heap.size w w'):InstP w' b o p:=⟨h.box.below hb,instK.rd_below h.rd hb⟩
theorem InstP.batch{w:World}{b o:Nat}{p:InstQ}(h:InstP w b o p):txnK.At w p.vb p.batch:=h.rd.1
theorem InstP.rounds{w:World}{b o:Nat}{p:InstQ}(h:InstP w b o p):roundK.At w p.vr p.rounds:=h.rd.2.1
theorem InstP.dec{w:World}{b o:Nat}{p:InstQ}(h:InstP w b o p):intK.At w p.vd p.dec:=h.rd.2.2
theorem z1m(rs:List RoundQ)(r:Nat)(hr:r<rs.length):(rs.map RoundQ.e).getD r z0F=RoundQ.e rs[r]:=by simp[List.getD,hr]
theorem z9L(rs:List RoundQ)(r:Nat)(hr:r<rs.length):rs[r].rep.length+rs[r].pro.length≤nmL RoundQ.n rs:=z1u RoundQ.n rs r hr
theorem z19(ds:List RoundE):∀k,(∀j,j<k→vf (ds.getD j z0F).rep 1=0∧vf (ds.getD j z0F).pro 2=0)→k<ds.length→(vf (ds.getD k z0F).rep 1≠0→z0M ds=vf (ds.getD k z0F).rep 1)∧(vf (ds.getD k z0F).rep 1=0→vf (ds.getD k z0F).pro 2≠0→z0M ds=vf (ds.getD k z0F).pro 2):=by
 induction ds with
 |nil=>intro k _ h;simp at h
 |cons x r ih=>
  intro k h0 hk
  cases k with
  |zero=>
   simp only[List.getD_cons_zero];unfold z0M;exact⟨fun h=>by rw[if_neg h],fun h h2=>by rw[if_pos h,if_neg h2]⟩
  |succ k=>
   have hx:=h0 0 (by omega);simp only[List.getD_cons_zero]at hx;have:=ih k (fun j hj=>by simpa using h0 (j+1) (by omega)) (by simpa using hk);simp only[List.getD_cons_succ];rw[show z0M (x::r)=z0M r by rw[z0M,if_pos hx.1,if_pos hx.2]];exact this
theorem z2I(ds:List RoundE)(h:∀j,j<ds.length→vf (ds.getD j z0F).rep 1=0∧vf (ds.getD j z0F).pro 2=0):z0M ds=0:=by
 induction ds with
 |nil=>rfl
 |cons x r ih=>
  have hx:=h 0 (by simp);simp only[List.getD_cons_zero]at hx;rw[z0M,if_pos hx.1,if_pos hx.2];exact ih (fun j hj=>by simpa using h (j+1) (by simpa using hj))
theorem z83(b o:Nat)(p:InstQ)(w:World)(hP:InstP w b o p)(hl:p.n≤1048576):
  Calls Tryz.prog 222 #[.pointer (some ⟨b,o,none⟩)] w fun e w'=>e=.returned (.int .i64 (shpF p.e))∧Below w.heap.size w w':=by
 have hB:Below w.heap.size w w:=Below.refl _ _;obtain⟨has,vb,y,vr,d,vd,dec⟩:=p;dsimp only[InstQ.n]at hl;have HE:Hid (shpF (InstQ.e ⟨has,vb,y,vr,d,vd,dec⟩)=if has=false∧0 < (y.map TxnQ.e).length then 1 else
  if has=true∧batF (y.map TxnQ.e)≠0 then batF (y.map TxnQ.e)else
  if(d.map RoundQ.e).length<1∨4<(d.map RoundQ.e).length then 2 else
  if z0M (d.map RoundQ.e)=0 then vf dec 1 else z0M (d.map RoundQ.e)):=by
  exact(rfl:shpF _=_)
 generalize shpF (InstQ.e ⟨has,vb,y,vr,d,vd,dec⟩)=E at HE⊢;have hv:=z82 vb (y.map TxnQ.e) w (z71 hP.batch) (by rw[List.length_map,q1A];omega);have an:∃a c,vb=.slice a y.length c:=hP.batch.shape;have ao:∃a c,vr=.slice a d.length c:=hP.rounds.shape;have aq:∃a c,vd=.slice a dec.length c:=hP.dec.shape;obtain⟨ba,bk,rfl⟩:=an;obtain⟨va,vk,rfl⟩:=ao
 cases has with
 |false=>
  by_cases h0:0<y.length
  ·have E1:Hid (E=1):=by rw[HE.out,if_pos ⟨rfl,by simpa using h0⟩];rfl
   obtain⟨c0,c1,c2,c3⟩:=hP.box;dsimp only at c0 c1 c2 c3;clear HE hv;go_enter Tryz.func222,Tryz.ntmps222
   go_wp2
   go_ret;exact⟨by rw[E1.out];rfl,hB⟩
  ·have HS:Hid (E=if(d.map RoundQ.e).length<1∨4<(d.map RoundQ.e).length then 2 else if z0M (d.map RoundQ.e)=0 then vf dec 1 else z0M (d.map RoundQ.e)):=by
    have:=HE.out;rw[if_neg (fun h=>h0 (by simpa using h.2)),if_neg (by simp)]at this;exact this
   clear HE;obtain⟨c0,c1,c2,c3⟩:=hP.box;dsimp only at c0 c1 c2 c3;have ap:¬(0:Int)<y.length:=by omega
   go_enter Tryz.func222,Tryz.ntmps222;clear c0 c1 c2 c3;by_cases Z:d.length<1
   ·have E2:Hid (E=2):=by rw[HS.out,if_pos (Or.inl (by simpa using Z))];rfl
    obtain⟨c0,c1,c2,c3⟩:=hP.box;dsimp only at c0 c1 c2 c3;clear HS hv
    go_wp2
    go_ret;exact⟨by rw[E2.out];rfl,hB⟩
   ·by_cases aa:4<d.length
    ·have E2:Hid (E=2):=by rw[HS.out,if_pos (Or.inr (by simpa using aa))];rfl
     obtain⟨c0,c1,c2,c3⟩:=hP.box;dsimp only at c0 c1 c2 c3;clear HS hv
     go_wp2
     go_ret;exact⟨by rw[E2.out];rfl,hB⟩
    ·have O:Hid (E=if z0M (d.map RoundQ.e)=0 then vf dec 1 else z0M (d.map RoundQ.e)):=by
      have:=HS.out;rw[if_neg (by simp only[List.length_map];omega)]at this;exact this
     have ai:¬(d.length:Int)<1:=by omega
     have aj:¬(4:Int)<d.length:=by omega
     clear HS Z aa;obtain⟨c0,c1,c2,c3⟩:=hP.box;dsimp only at c0 c1 c2 c3
     go_wp2
     clear c0 c1 c2 c3;go_loopw[4] (fun j wr=>∃k:Nat,k≤d.length∧j=.int .i64 k∧Hid (∀j,j<k→vf ((d.map RoundQ.e).getD j z0F).rep 1=0∧vf ((d.map RoundQ.e).getD j z0F).pro 2=0)∧Below w.heap.size w wr) (fun j _=>d.length-(intOf j).toNat)
     case atStart=>exact⟨0,Nat.zero_le _,rfl,fun j hj=>absurd hj (Nat.not_lt_zero _),Below.refl _ _⟩
     case round=>
      obtain⟨k,hk,rfl,HA,hb⟩:=hrel;have J:=hP.below hb;have I:=hB.trans (hb.mono hB.size);obtain⟨c0,c1,c2,c3⟩:=J.box;dsimp only at c0 c1 c2 c3;by_cases M:k<d.length
      ·obtain⟨rb,ro,rfl,al,hc,ag⟩:=J.rounds.cell (by decide) k M;have X:∀j x,(roundK.cells d[k])[j]?=some x→wr.cell? ⟨rb,ro+k*2+j,none⟩=some x:=hc;have r0:=X 0 (d[k].vr) rfl;have r1:=X 1 (d[k].vp) rfl;have am:=z9L d k M;have C:=z19 (d.map RoundQ.e) k HA.out (by simpa using M);rw[z1m d k M]at C;dsimp only[RoundQ.e]at C;have U:Hid (vf d[k].rep 1≠0→E=vf d[k].rep 1):=fun h=>by rw[O.out,C.1 h,if_neg h]
       have V:Hid (vf d[k].rep 1=0→vf d[k].pro 2≠0→E=vf d[k].pro 2):=fun h h2=>by rw[O.out,C.2 h h2,if_neg h2]
       have HN:Hid (vf d[k].rep 1=0→vf d[k].pro 2=0→∀j,j<k+1→vf ((d.map RoundQ.e).getD j z0F).rep 1=0∧vf ((d.map RoundQ.e).getD j z0F).pro 2=0):=by
        intro h1 h2 j hj;by_cases ad:j=k
        ·subst ad;rw[z1m d j M];exact⟨h1,h2⟩
        ·exact HA.out j (by omega)
       clear HA C hc X;generalize d[k]=q at*;obtain⟨qv,qr,qw,qp⟩:=q;obtain⟨rA,rP⟩:intK.At wr qv qr∧intK.At wr qw qp:=ag;dsimp only at*;obtain⟨ra,rk,rfl⟩:=rA.shape;obtain⟨pa,pk,rfl⟩:=rP.shape;have N:=z01 ra rk qr 1 wr (z0Y rA).2 (by omega);rw[Nat.add_zero]at r0
       go_wp2_with fail
       refine N.mono ?_;rintro e w2 ⟨rfl,z⟩;have T:=J.below z;have A:=I.trans (z.mono I.size);have af:=World.block_lt_of_cell? wr _ r1;replace r1:=(z.cell (p:=⟨rb,ro+k*2+1,none⟩) af).trans r1;replace hb:=hb.trans (z.mono hb.size);have Y:=z01 pa pk qp 2 w2 (z0Y (rP.below z)).2 (by omega);clear N c0 c1 c2 c3 r0 z J I rA rP;obtain⟨c0,c1,c2,c3⟩:=T.box;dsimp only at c0 c1 c2 c3;by_cases h1:vf qr 1=0
       ·have HF:Hid (vf qp 2≠0→E=vf qp 2):=V.out h1;have HM:Hid (vf qp 2=0→_):=HN.out h1;rw[h1];clear U V HN h1
        go_wp2_with fail
        refine Y.mono ?_;rintro e w3 ⟨rfl,W⟩;replace hb:=hb.trans (W.mono hb.size);replace A:=A.trans (W.mono A.size);clear Y c0 c1 c2 c3 r1 W T;by_cases h2:vf qp 2=0
        ·have R:=HM.out h2;have HR:Hid _:=R;rw[h2];clear HF HM R h2
         go_wp2
         go_roundw
         case rel=>exact⟨k+1,by omega,by go_num,HR.out,hb⟩
         case measure=>simp[intOf];omega
        ·have E2:Hid (E=vf qp 2):=HF.out h2;have ak:(vf qp 2 !=0)=true:=by simpa using h2
         clear HF HM h2;generalize vf qp 2=r at*
         go_wp2
         go_ret;exact⟨by rw[E2.out];rfl,A⟩
       ·have E2:Hid (E=vf qr 1):=U.out h1;have ah:(vf qr 1 !=0)=true:=by simpa using h1
        clear U V HN h1 Y;generalize vf qr 1=r at*
        go_wp2
        go_ret;exact⟨by rw[E2.out];rfl,A⟩
      ·have ae:k=d.length:=by omega
       subst ae;have E2:Hid (E=vf dec 1):=by
        have:=O.out;rw[if_pos (z2I _ (by simpa using HA.out))]at this;exact this
       have L:intK.At wr vd dec:=J.dec;obtain⟨da,dk,rfl⟩:=L.shape;have N:=z01 da dk dec 1 wr (z0Y L).2 (by omega);clear HA O L
       go_wp2_with fail
       refine N.mono ?_;rintro e w2 ⟨rfl,z⟩;replace I:=I.trans (z.mono I.size);generalize vf dec 1=r at*;clear N c0 c1 c2 c3 z J
       go_wp2
       go_ret;exact⟨by rw[E2.out];rfl,I⟩
 |true=>
  obtain⟨c0,c1,c2,c3⟩:=hP.box;dsimp only at c0 c1 c2 c3;go_enter Tryz.func222,Tryz.ntmps222
  go_wp2_with fail
  refine hv.mono ?_;rintro e w1 ⟨rfl,ab⟩;replace hP:=hP.below ab;replace hB:=hB.trans (ab.mono hB.size);clear hv ab c0 c1 c2 c3;by_cases h1:batF (y.map TxnQ.e)=0
  ·have HS:Hid (E=if(d.map RoundQ.e).length<1∨4<(d.map RoundQ.e).length then 2 else if z0M (d.map RoundQ.e)=0 then vf dec 1 else z0M (d.map RoundQ.e)):=by
    have:=HE.out;rw[if_neg (by simp),if_neg (fun h=>h.2 h1)]at this;exact this
   rw[h1];clear HE h1;have hv:=True.intro;by_cases Z:d.length<1
   ·have E2:Hid (E=2):=by rw[HS.out,if_pos (Or.inl (by simpa using Z))];rfl
    obtain⟨c0,c1,c2,c3⟩:=hP.box;dsimp only at c0 c1 c2 c3;clear HS hv
    go_wp2
    go_ret;exact⟨by rw[E2.out];rfl,hB⟩
   ·by_cases aa:4<d.length
    ·have E2:Hid (E=2):=by rw[HS.out,if_pos (Or.inr (by simpa using aa))];rfl
     obtain⟨c0,c1,c2,c3⟩:=hP.box;dsimp only at c0 c1 c2 c3;clear HS hv
     go_wp2
     go_ret;exact⟨by rw[E2.out];rfl,hB⟩
    ·have O:Hid (E=if z0M (d.map RoundQ.e)=0 then vf dec 1 else z0M (d.map RoundQ.e)):=by
      have:=HS.out;rw[if_neg (by simp only[List.length_map];omega)]at this;exact this
     have ai:¬(d.length:Int)<1:=by omega
     have aj:¬(4:Int)<d.length:=by omega
     clear HS Z aa;obtain⟨c0,c1,c2,c3⟩:=hP.box;dsimp only at c0 c1 c2 c3
     go_wp2
     clear c0 c1 c2 c3;go_loopw[4] (fun j wr=>∃k:Nat,k≤d.length∧j=.int .i64 k∧Hid (∀j,j<k→vf ((d.map RoundQ.e).getD j z0F).rep 1=0∧vf ((d.map RoundQ.e).getD j z0F).pro 2=0)∧Below w1.heap.size w1 wr) (fun j _=>d.length-(intOf j).toNat)
     case atStart=>exact⟨0,Nat.zero_le _,rfl,fun j hj=>absurd hj (Nat.not_lt_zero _),Below.refl _ _⟩
     case round=>
      obtain⟨k,hk,rfl,HA,hb⟩:=hrel;have J:=hP.below hb;have I:=hB.trans (hb.mono hB.size);obtain⟨c0,c1,c2,c3⟩:=J.box;dsimp only at c0 c1 c2 c3;by_cases M:k<d.length
      ·obtain⟨rb,ro,rfl,al,hc,ag⟩:=J.rounds.cell (by decide) k M;have X:∀j x,(roundK.cells d[k])[j]?=some x→wr.cell? ⟨rb,ro+k*2+j,none⟩=some x:=hc;have r0:=X 0 (d[k].vr) rfl;have r1:=X 1 (d[k].vp) rfl;have am:=z9L d k M;have C:=z19 (d.map RoundQ.e) k HA.out (by simpa using M);rw[z1m d k M]at C;dsimp only[RoundQ.e]at C;have U:Hid (vf d[k].rep 1≠0→E=vf d[k].rep 1):=fun h=>by rw[O.out,C.1 h,if_neg h]
       have V:Hid (vf d[k].rep 1=0→vf d[k].pro 2≠0→E=vf d[k].pro 2):=fun h h2=>by rw[O.out,C.2 h h2,if_neg h2]
       have HN:Hid (vf d[k].rep 1=0→vf d[k].pro 2=0→∀j,j<k+1→vf ((d.map RoundQ.e).getD j z0F).rep 1=0∧vf ((d.map RoundQ.e).getD j z0F).pro 2=0):=by
        intro h1 h2 j hj;by_cases ad:j=k
        ·subst ad;rw[z1m d j M];exact⟨h1,h2⟩
        ·exact HA.out j (by omega)
       clear HA C hc X;generalize d[k]=q at*;obtain⟨qv,qr,qw,qp⟩:=q;obtain⟨rA,rP⟩:intK.At wr qv qr∧intK.At wr qw qp:=ag;dsimp only at*;obtain⟨ra,rk,rfl⟩:=rA.shape;obtain⟨pa,pk,rfl⟩:=rP.shape;have N:=z01 ra rk qr 1 wr (z0Y rA).2 (by omega);rw[Nat.add_zero]at r0
       go_wp2_with fail
       refine N.mono ?_;rintro e w2 ⟨rfl,z⟩;have T:=J.below z;have A:=I.trans (z.mono I.size);have af:=World.block_lt_of_cell? wr _ r1;replace r1:=(z.cell (p:=⟨rb,ro+k*2+1,none⟩) af).trans r1;replace hb:=hb.trans (z.mono hb.size);have Y:=z01 pa pk qp 2 w2 (z0Y (rP.below z)).2 (by omega);clear N c0 c1 c2 c3 r0 z J I rA rP;obtain⟨c0,c1,c2,c3⟩:=T.box;dsimp only at c0 c1 c2 c3;by_cases h1:vf qr 1=0
       ·have HF:Hid (vf qp 2≠0→E=vf qp 2):=V.out h1;have HM:Hid (vf qp 2=0→_):=HN.out h1;rw[h1];clear U V HN h1
        go_wp2_with fail
        refine Y.mono ?_;rintro e w3 ⟨rfl,W⟩;replace hb:=hb.trans (W.mono hb.size);replace A:=A.trans (W.mono A.size);clear Y c0 c1 c2 c3 r1 W T;by_cases h2:vf qp 2=0
        ·have R:=HM.out h2;have HR:Hid _:=R;rw[h2];clear HF HM R h2
         go_wp2
         go_roundw
         case rel=>exact⟨k+1,by omega,by go_num,HR.out,hb⟩
         case measure=>simp[intOf];omega
        ·have E2:Hid (E=vf qp 2):=HF.out h2;have ak:(vf qp 2 !=0)=true:=by simpa using h2
         clear HF HM h2;generalize vf qp 2=r at*
         go_wp2
         go_ret;exact⟨by rw[E2.out];rfl,A⟩
       ·have E2:Hid (E=vf qr 1):=U.out h1;have ah:(vf qr 1 !=0)=true:=by simpa using h1
        clear U V HN h1 Y;generalize vf qr 1=r at*
        go_wp2
        go_ret;exact⟨by rw[E2.out];rfl,A⟩
      ·have ae:k=d.length:=by omega
       subst ae;have E2:Hid (E=vf dec 1):=by
        have:=O.out;rw[if_pos (z2I _ (by simpa using HA.out))]at this;exact this
       have L:intK.At wr vd dec:=J.dec;obtain⟨da,dk,rfl⟩:=L.shape;have N:=z01 da dk dec 1 wr (z0Y L).2 (by omega);clear HA O L
       go_wp2_with fail
       refine N.mono ?_;rintro e w2 ⟨rfl,z⟩;replace I:=I.trans (z.mono I.size);generalize vf dec 1=r at*;clear N c0 c1 c2 c3 z J
       go_wp2
       go_ret;exact⟨by rw[E2.out];rfl,I⟩
  ·have E1:Hid (E=batF (y.map TxnQ.e)):=by
    have:=HE.out;rw[if_neg (by simp),if_pos ⟨by simp,h1⟩]at this;exact this
   have ah:(batF (y.map TxnQ.e) !=0)=true:=by simpa using h1
   clear HE h1;generalize batF (y.map TxnQ.e)=r at*
   go_wp2
   go_ret;exact⟨by rw[E1.out];rfl,hB⟩
theorem q3I{rs:List RoundE}{r n:Nat}(h:proA rs r n≠3)(h2:repA rs r n=3∨mayP (rs.getD r z0F).rep (proA rs r n)=false):proR rs r n=false:=by
 unfold proR;rw[Bool.or_eq_false_iff];refine⟨by simpa using h,?_⟩;rcases h2 with h2|h2
 ·rw[h2];rfl
 ·rw[h2];simp
theorem q1D{rs:List RoundE}{r n:Nat}(h:proA rs r n=3∨(repA rs r n≠3∧mayP (rs.getD r z0F).rep (proA rs r n)=true)):proR rs r n=true:=by
 unfold proR;rw[Bool.or_eq_true];rcases h with h|⟨h1,h2⟩
 ·left;simpa using h
 ·right;rw[h2];simpa using h1
theorem q3J{has:Bool}{rs:List RoundE}{r n:Nat}(h:proR rs r n=false):sayM has rs r n=false:=by
 unfold sayM;rw[h];rfl
theorem z4U{has:Bool}{rs:List RoundE}{r n:Nat}(h:proR rs r n=true)(h2:r=0∨repA rs r n=3):sayM has rs r n=true:=by
 unfold sayM;rw[h,if_pos h2];rfl
theorem q1E{has:Bool}{rs:List RoundE}{r n:Nat}(h:proR rs r n=true)(h2:¬(r=0∨repA rs r n=3)):sayM has rs r n=(q2K rs r n && (has||(repA rs r n==0)||decide (0<cnt 7 (rs.getD (r-1) z0F).pro 1))):=by
 unfold sayM;rw[h,if_neg h2];rfl
theorem z3F{w:World}{v:Value}{zs:List Int}{m:Int}(h:intK.At w v zs)(hv:vf zs m=0)(n:Nat)(hn:n<3):∃a c b off,v=.slice a 3 c∧a=some ⟨b,off,none⟩∧w.cell? ⟨b,off+n,none⟩=some (.int .i64 (zs.getD n 0))∧Row .i64 w a zs:=by
 have hl:=z00 hv;obtain⟨a,c,e⟩:=h.shape;subst e;have hR:=(z0Y h).2;obtain⟨b,off,ha,_,hc⟩:=hR n (by omega);exact⟨a,c,b,off,by rw[hl],ha,hc,hR⟩
theorem q0u(b o:Nat)(p:InstQ)(r n:Nat)(w:World)(hP:InstP w b o p)(hr:r<p.rounds.length)(h4:p.rounds.length≤4)(hn:n<3)(hF:z0M (p.rounds.map RoundQ.e)=0):
  Calls Tryz.prog 224 #[.pointer (some ⟨b,o,none⟩),.int .i64 (r:Int),.int .i64 (n:Int)] w fun e w'=>e=.returned (.bool (sayM p.has (p.rounds.map RoundQ.e) r n))∧Below w.heap.size w w':=by
 have hB:Below w.heap.size w w:=Below.refl _ _;obtain⟨has,vb,aI,vr,d,vd,dec⟩:=p;dsimp only at hr h4 hF⊢;have HE:Hid (sayM has (d.map RoundQ.e) r n=sayM has (d.map RoundQ.e) r n):=(rfl:_=_)
 generalize hE:sayM has (d.map RoundQ.e) r n=E at HE⊢;replace HE:Hid (E=sayM has (d.map RoundQ.e) r n):=hE.symm;clear hE;obtain⟨aM,aR,rfl⟩:∃a c,vr=.slice a d.length c:=hP.rounds.shape;obtain⟨ag,ap⟩:=z1O hF r (by rw[List.length_map];exact hr);have ai:=z1m d r hr;rw[ai]at ag ap;have ag:vf d[r].rep 1=0:=ag;have ap:vf d[r].pro 2=0:=ap;generalize af:d.map RoundQ.e=rs at*;have HQ:Hid (proA rs r n=d[r].pro.getD n 0∧repA rs r n=d[r].rep.getD n 0∧(rs.getD r z0F).rep=d[r].rep):=by
  refine⟨?_,?_,?_⟩
  ·show(rs.getD r z0F).pro.getD n 0=_;rw[ai];rfl
  ·show(rs.getD r z0F).rep.getD n 0=_;rw[ai];rfl
  ·rw[ai];rfl
 obtain⟨rb,ro,aF,aP,hc,aJ⟩:=hP.rounds.cell (by decide) r hr;have aG:aM=some ⟨rb,ro,none⟩:=aF;have ay:∀j x,(roundK.cells d[r])[j]?=some x→w.cell? ⟨rb,ro+r*2+j,none⟩=some x:=hc;have r0:=ay 0 (d[r].vr) rfl;have r1:=ay 1 (d[r].vp) rfl;obtain⟨aC,N⟩:intK.At w d[r].vr d[r].rep∧intK.At w d[r].vp d[r].pro:=aJ;clear hc ay ai aF;generalize d[r].vr=qv at*;generalize d[r].rep=qr at*;generalize d[r].vp=qw at*;generalize d[r].pro=qp at*;obtain⟨xa,xc,xb,xo,rfl,aK,aA,au⟩:=z3F aC ag n hn;obtain⟨ya,yc,yb,yo,rfl,aL,aB,av⟩:=z3F N ap n hn;have ak:=fun w h=>z70 xa xc qr (qp.getD n 0) w h (by have:=z00 ag;omega)
 rw[z00 ag]at ak;subst aK aL;obtain⟨c0,c1,c2,c3⟩:=hP.box;dsimp only at c0 c1 c2 c3;clear aC N;generalize aN:qp.getD n 0=PP at*;generalize aO:qr.getD n 0=RR at*;have M:Hid (RR=repA rs r n):=HQ.out.2.1.symm;have aQ:(n:Int)<3:=by omega
 rw[Nat.add_zero]at r0;subst aG;go_enter Tryz.func224,Tryz.ntmps224;by_cases aa:PP=3
 ·have C:Hid (proR rs r n=true):=q1D (Or.inl (by rw[HQ.out.1];exact aa));have aq:(PP !=3)=false:=by simp[aa]
  clear HQ ak av;by_cases al:r=0
  ·have E2:Hid (E=true):=by rw[HE.out];exact z4U C.out (Or.inl al)
   subst al;try simp only[Nat.zero_mul,Nat.add_zero]at r0 r1
   clear HE C
   go_wp2
   go_ret;exact⟨by rw[E2.out];rfl,hB⟩
  ·obtain⟨s,rfl⟩:∃s,r=s+1:=⟨r-1,by omega⟩
   have aE:(((s+1:Nat):Int)==0)=false:=by simp;omega
   by_cases A:repA rs (s+1) n=3
   ·have E2:Hid (E=true):=by rw[HE.out];exact z4U C.out (Or.inr A)
    have J:(RR==3)=true:=by rw[M.out,A];rfl
    clear HE C
    go_wp2
    go_ret;exact⟨by rw[E2.out];rfl,hB⟩
   ·have HS:Hid (E=(q2K rs (s+1) n && (has||(repA rs (s+1) n==0)||decide (0<cnt 7 (rs.getD s z0F).pro 1)))):=by
     rw[HE.out];exact q1E C.out (by omega)
    have J:(RR==3)=false:=by rw[M.out];simpa using A
    have ah:Hid (q2K rs (s+1) n=((proA rs s n !=3) && mayR (rs.getD s z0F).pro (repA rs (s+1) n))):=(rfl:_=_)
    clear HE C;obtain⟨c0,c1,c2,c3⟩:=hP.box;dsimp only at c0 c1 c2 c3;have hs:s<d.length:=by omega
    obtain⟨sb,so,am,aH,an,W⟩:=hP.rounds.cell (by decide) s hs;simp only[Option.some.injEq,Addr.mk.injEq,and_true]at am;obtain⟨rfl,rfl⟩:=am;have V:∀j x,(roundK.cells d[s])[j]?=some x→w.cell? ⟨rb,ro+s*2+j,none⟩=some x:=an;have s1:=V 1 (d[s].vp) rfl;have z:=(z1O hF s (by rw[←af,List.length_map];exact hs)).2;rw[←af,z1m d s hs]at z;have z:vf d[s].pro 2=0:=z;have HA:Hid (proA rs s n=d[s].pro.getD n 0∧(rs.getD s z0F).pro=d[s].pro):=by
     have:rs.getD s z0F=RoundQ.e d[s]:=by rw[←af];exact z1m d s hs
     refine⟨?_,?_⟩
     ·show(rs.getD s z0F).pro.getD n 0=_;rw[this];rfl
     ·rw[this];rfl
    have U:intK.At w d[s].vp d[s].pro:=W.2;clear an V W;generalize d[s].vp=qw at*;generalize d[s].pro=qp at*;obtain⟨pa,pc,pb,po,rfl,az,ae,Z⟩:=z3F U z n hn;have L:=fun w h=>z4o pa pc qp RR w h (by have:=z00 z;omega)
    have I:=fun w h=>z0C pa pc qp 7 1 w h (z00 z) rfl
    rw[z00 z]at L;have y:Hid (E=(((qp.getD n 0 !=3) && mayR qp RR) && (has||(RR==0)||decide (0<cnt 7 qp 1)))):=by
     rw[HS.out,ah.out,HA.out.1,HA.out.2,←M.out];exact(rfl:_=_)
    subst az;clear HS ah HA U z;generalize qp.getD n 0=AA at*;by_cases hA:AA=3
    ·have E2:Hid (E=false):=by rw[y.out,hA];rfl
     have aw:(AA==3)=true:=by simp[hA]
     clear y L I hA
     go_wp2
     go_ret;exact⟨by rw[E2.out];rfl,hB⟩
    ·have aw:(AA==3)=false:=by simpa using hA
     have N:(AA !=3)=true:=by simpa using hA
     rw[N]at y;clear hA N;have T:=L w Z;generalize mayR qp RR=Y at*
     go_wp2_with fail
     refine T.mono ?_;rintro e w5 ⟨rfl,ab⟩;have ax:=hP.below ab;replace hB:=hB.trans (ab.mono hB.size);have ad:=Z.below ab;clear L T c0 c1 c2 c3 s1 ae;obtain⟨c0,c1,c2,c3⟩:=ax.box;dsimp only at c0 c1 c2 c3
     cases Y with
     |false=>
      have E2:Hid (E=false):=by rw[y.out];rfl
      clear y I
      go_wp2
      go_ret;exact⟨by rw[E2.out];rfl,hB⟩
     |true=>
      cases has with
      |true=>
       have E2:Hid (E=true):=by rw[y.out];rfl
       clear y I
       go_wp2
       go_ret;exact⟨by rw[E2.out];rfl,hB⟩
      |false=>
       by_cases hz:RR=0
       ·have E2:Hid (E=true):=by rw[y.out,hz];rfl
        have ao:(RR==0)=true:=by simp[hz]
        clear y I hz
        go_wp2
        go_ret;exact⟨by rw[E2.out];rfl,hB⟩
       ·have ao:(RR==0)=false:=by simpa using hz
        rw[ao]at y;have O:=I w5 ad;generalize cnt 7 qp 1=CC at*;clear hz I
        go_wp2_with fail
        refine O.mono ?_;rintro e w6 ⟨rfl,aj⟩;replace hB:=hB.trans (aj.mono hB.size);clear O aj c0 c1 c2 c3;have E2:Hid (E=decide (0<CC)):=show _=_ by rw[y.out];simp
        clear y
        go_wp2
        go_ret;exact⟨by rw[E2.out];rfl,hB⟩
 ·have aq:(PP !=3)=true:=by simpa using aa
  by_cases A:RR=3
  ·have E2:Hid (E=false):=by rw[HE.out];exact q3J (q3I (by rw[HQ.out.1];exact aa) (Or.inl (by rw[←M.out];exact A)))
   have J:(RR==3)=true:=by simp[A]
   clear HE HQ ak A aa
   go_wp2
   go_ret;exact⟨by rw[E2.out];rfl,hB⟩
  ·have J:(RR==3)=false:=by simpa using A
   have HX:Hid (mayP qr PP=false→E=false):=fun hx=>by rw[HE.out];exact q3J (q3I (by rw[HQ.out.1];exact aa) (Or.inr (by rw[HQ.out.2.2,HQ.out.1];exact hx)))
   have HY:Hid (mayP qr PP=true→proR rs r n=true):=fun hx=>q1D (Or.inr ⟨by rw[←M.out];exact A,by rw[HQ.out.2.2,HQ.out.1];exact hx⟩)
   have ar:=ak w au;generalize mayP qr PP=X at*;clear A aa HQ ak
   go_wp2_with fail
   refine ar.mono ?_;rintro e w1 ⟨rfl,aD⟩;replace hP:=hP.below aD;replace hB:=hB.trans (aD.mono hB.size);clear ar c0 c1 c2 c3 r0 r1 aA aB av au
   cases X with
   |false=>
    have E2:Hid (E=false):=HX.out rfl;clear HX HY HE
    go_wp2
    go_ret;exact⟨by rw[E2.out];rfl,hB⟩
   |true=>
    have C:Hid (proR rs r n=true):=HY.out rfl;clear HX HY J aq;by_cases al:r=0
    ·have E2:Hid (E=true):=by rw[HE.out];exact z4U C.out (Or.inl al)
     subst al;try simp only[Nat.zero_mul,Nat.add_zero]at r0 r1
     clear HE C
     go_wp2
     go_ret;exact⟨by rw[E2.out];rfl,hB⟩
    ·obtain⟨s,rfl⟩:∃s,r=s+1:=⟨r-1,by omega⟩
     have aE:(((s+1:Nat):Int)==0)=false:=by simp;omega
     by_cases A:repA rs (s+1) n=3
     ·have E2:Hid (E=true):=by rw[HE.out];exact z4U C.out (Or.inr A)
      have J:(RR==3)=true:=by rw[M.out,A];rfl
      clear HE C
      go_wp2
      go_ret;exact⟨by rw[E2.out];rfl,hB⟩
     ·have HS:Hid (E=(q2K rs (s+1) n && (has||(repA rs (s+1) n==0)||decide (0<cnt 7 (rs.getD s z0F).pro 1)))):=by
       rw[HE.out];exact q1E C.out (by omega)
      have J:(RR==3)=false:=by rw[M.out];simpa using A
      have ah:Hid (q2K rs (s+1) n=((proA rs s n !=3) && mayR (rs.getD s z0F).pro (repA rs (s+1) n))):=(rfl:_=_)
      clear HE C;obtain⟨c0,c1,c2,c3⟩:=hP.box;dsimp only at c0 c1 c2 c3;have hs:s<d.length:=by omega
      obtain⟨sb,so,am,aH,an,W⟩:=hP.rounds.cell (by decide) s hs;simp only[Option.some.injEq,Addr.mk.injEq,and_true]at am;obtain⟨rfl,rfl⟩:=am;have V:∀j x,(roundK.cells d[s])[j]?=some x→w1.cell? ⟨rb,ro+s*2+j,none⟩=some x:=an;have s1:=V 1 (d[s].vp) rfl;have z:=(z1O hF s (by rw[←af,List.length_map];exact hs)).2;rw[←af,z1m d s hs]at z;have z:vf d[s].pro 2=0:=z;have HA:Hid (proA rs s n=d[s].pro.getD n 0∧(rs.getD s z0F).pro=d[s].pro):=by
       have:rs.getD s z0F=RoundQ.e d[s]:=by rw[←af];exact z1m d s hs
       refine⟨?_,?_⟩
       ·show(rs.getD s z0F).pro.getD n 0=_;rw[this];rfl
       ·rw[this];rfl
      have U:intK.At w1 d[s].vp d[s].pro:=W.2;clear an V W;generalize d[s].vp=qw at*;generalize d[s].pro=qp at*;obtain⟨pa,pc,pb,po,rfl,az,ae,Z⟩:=z3F U z n hn;have L:=fun w h=>z4o pa pc qp RR w h (by have:=z00 z;omega)
      have I:=fun w h=>z0C pa pc qp 7 1 w h (z00 z) rfl
      rw[z00 z]at L;have y:Hid (E=(((qp.getD n 0 !=3) && mayR qp RR) && (has||(RR==0)||decide (0<cnt 7 qp 1)))):=by
       rw[HS.out,ah.out,HA.out.1,HA.out.2,←M.out];exact(rfl:_=_)
      subst az;clear HS ah HA U z;generalize qp.getD n 0=AA at*;by_cases hA:AA=3
      ·have E2:Hid (E=false):=by rw[y.out,hA];rfl
       have aw:(AA==3)=true:=by simp[hA]
       clear y L I hA
       go_wp2
       go_ret;exact⟨by rw[E2.out];rfl,hB⟩
      ·have aw:(AA==3)=false:=by simpa using hA
       have N:(AA !=3)=true:=by simpa using hA
       rw[N]at y;clear hA N;have T:=L w1 Z;generalize mayR qp RR=Y at*
       go_wp2_with fail
       refine T.mono ?_;rintro e w5 ⟨rfl,ab⟩;have ax:=hP.below ab;replace hB:=hB.trans (ab.mono hB.size);have ad:=Z.below ab;clear L T c0 c1 c2 c3 s1 ae;obtain⟨c0,c1,c2,c3⟩:=ax.box;dsimp only at c0 c1 c2 c3
       cases Y with
       |false=>
        have E2:Hid (E=false):=by rw[y.out];rfl
        clear y I
        go_wp2
        go_ret;exact⟨by rw[E2.out];rfl,hB⟩
       |true=>
        cases has with
        |true=>
         have E2:Hid (E=true):=by rw[y.out];rfl
         clear y I
         go_wp2
         go_ret;exact⟨by rw[E2.out];rfl,hB⟩
        |false=>
         by_cases hz:RR=0
         ·have E2:Hid (E=true):=by rw[y.out,hz];rfl
          have ao:(RR==0)=true:=by simp[hz]
          clear y I hz
          go_wp2
          go_ret;exact⟨by rw[E2.out];rfl,hB⟩
         ·have ao:(RR==0)=false:=by simpa using hz
          rw[ao]at y;have O:=I w5 ad;generalize cnt 7 qp 1=CC at*;clear hz I
          go_wp2_with fail
          refine O.mono ?_;rintro e w6 ⟨rfl,aj⟩;replace hB:=hB.trans (aj.mono hB.size);clear O aj c0 c1 c2 c3;have E2:Hid (E=decide (0<CC)):=show _=_ by rw[y.out];simp
          clear y
          go_wp2
          go_ret;exact⟨by rw[E2.out];rfl,hB⟩
theorem q3K{rs:List RoundE}{v:Int}{k:Nat}(hk:k<rs.length)(h:2≤cnt 7 (rs.getD k z0F).pro v):agr rs v=true:=by
 unfold agr;rw[List.any_eq_true];refine⟨rs[k],List.getElem_mem hk,?_⟩;have e:rs.getD k z0F=rs[k]:=by simp[List.getD,hk]
 rw[e]at h;simpa using h
theorem z9M{rs:List RoundE}{v:Int}(h:∀k,k<rs.length→cnt 7 (rs.getD k z0F).pro v<2):agr rs v=false:=by
 unfold agr;rw[List.any_eq_false];intro x hx;obtain⟨k,hk,rfl⟩:=List.getElem_of_mem hx;have e:rs.getD k z0F=rs[k]:=by simp[List.getD,hk]
 have:=h k hk;rw[e]at this;simpa using this
theorem z84(b o:Nat)(p:InstQ)(n:Nat)(w:World)(hP:InstP w b o p)(h4:p.rounds.length≤4)(hn:n<3)(hF:z0M (p.rounds.map RoundQ.e)=0)(hD:vf p.dec 1=0):
  Calls Tryz.prog 225 #[.pointer (some ⟨b,o,none⟩),.int .i64 (n:Int)] w fun e w'=>e=.returned (.bool (endR (p.rounds.map RoundQ.e) (p.dec.getD n 0)))∧Below w.heap.size w w':=by
 obtain⟨has,vb,Z,vr,d,vd,dec⟩:=p;dsimp only at h4 hF hD⊢;have I:intK.At w vd dec:=hP.dec;obtain⟨da,dc,db,af,rfl,aa,L,O⟩:=z3F I hD n hn;subst aa;generalize hE:endR (d.map RoundQ.e) (dec.getD n 0)=E;have HE:Hid (E=((dec.getD n 0==3)||agr (d.map RoundQ.e) (dec.getD n 0))):=hE.symm;clear hE I O;generalize dec.getD n 0=v at*;obtain⟨ra,rk,rfl⟩:∃a c,vr=.slice a d.length c:=hP.rounds.shape;obtain⟨c0,c1,c2,c3⟩:=hP.box;dsimp only at c0 c1 c2 c3;have ah:(n:Int)<3:=by omega
 by_cases hv:v=3
 ·have E2:Hid (E=true):=by rw[HE.out,hv];rfl
  have Y:(v==3)=true:=by simp[hv]
  clear HE hv;go_enter Tryz.func225,Tryz.ntmps225
  go_wp2
  go_ret;exact⟨by rw[E2.out];rfl,Below.refl _ _⟩
 ·have Y:(v==3)=false:=by simpa using hv
  have A:Hid (E=agr (d.map RoundQ.e) v):=by rw[HE.out,Y];exact(rfl:_=_)
  clear HE hv;go_enter Tryz.func225,Tryz.ntmps225
  go_wp2
  clear c0 c1 c2 c3 L;go_loopw[6] (fun j wr=>∃k:Nat,k≤d.length∧j=.int .i64 k∧Hid (∀j,j<k→cnt 7 ((d.map RoundQ.e).getD j z0F).pro v<2)∧Below w.heap.size w wr) (fun j _=>d.length-(intOf j).toNat)
  case atStart=>exact⟨0,Nat.zero_le _,rfl,fun j hj=>absurd hj (Nat.not_lt_zero _),Below.refl _ _⟩
  case round=>
   obtain⟨k,hk,rfl,HA,hb⟩:=hrel;have M:=hP.below hb;obtain⟨c0,c1,c2,c3⟩:=M.box;dsimp only at c0 c1 c2 c3;by_cases y:k<d.length
   ·obtain⟨rb,ro,rfl,ag,hc,X⟩:=M.rounds.cell (by decide) k y;have V:∀j x,(roundK.cells d[k])[j]?=some x→wr.cell? ⟨rb,ro+k*2+j,none⟩=some x:=hc;have r1:=V 1 (d[k].vp) rfl;have z:=(z1O hF k (by rw[List.length_map];exact y)).2;have HY:Hid (2≤cnt 7 d[k].pro v→E=true):=fun h=>by
     rw[A.out];exact q3K (k:=k) (by rw[List.length_map];exact y) (by rw[z1m d k y];exact h)
    have HN:Hid (cnt 7 d[k].pro v<2→∀j,j<k+1→cnt 7 ((d.map RoundQ.e).getD j z0F).pro v<2):=by
     intro h j hj;by_cases ab:j=k
     ·subst ab;rw[z1m d j y];exact h
     ·exact HA.out j (by omega)
    rw[z1m d k y]at z;have z:vf d[k].pro 2=0:=z;have T:intK.At wr d[k].vp d[k].pro:=X.2;clear hc V X HA;generalize d[k].vp=qw at*;generalize d[k].pro=qp at*;obtain⟨pa,pc,pb,po,rfl,ae,N,J⟩:=z3F T z 0 (by omega);subst ae;have W:=z0C (some ⟨pb,po,none⟩) pc qp 7 v wr J (z00 z) rfl;generalize cnt 7 qp v=C at*;clear T z N J
    go_wp2_with fail
    refine W.mono ?_;rintro e w2 ⟨rfl,U⟩;replace hb:=hb.trans (U.mono hb.size);clear W c0 c1 c2 c3 r1 U M;by_cases hC:2≤C
    ·have E2:Hid (E=true):=HY.out hC;clear HY HN A
     go_wp2
     go_ret;exact⟨by rw[E2.out];rfl,hb⟩
    ·have R:=HN.out (by omega);have HR:Hid _:=R;clear HY HN R
     go_wp2
     go_roundw
     case rel=>exact⟨k+1,by omega,by go_num,HR.out,hb⟩
     case measure=>simp[intOf];omega
   ·have ad:k=d.length:=by omega
    subst ad;have E2:Hid (E=false):=by rw[A.out];exact z9M (by simpa using HA.out)
    clear HA A
    go_wp2
    go_ret;exact⟨by rw[E2.out];rfl,hb⟩
theorem z1q{x:InstE}(h:shpF x=0):(1≤x.rounds.length∧x.rounds.length≤4)∧z0M x.rounds=0∧vf x.dec 1=0∧(x.has=false→x.batch=[])∧(x.has=true→batF x.batch=0):=by
 unfold shpF at h;by_cases h1:x.has=false∧0<x.batch.length
 ·rw[if_pos h1]at h;simp at h
 rw[if_neg h1]at h;by_cases h2:x.has=true∧batF x.batch≠0
 ·rw[if_pos h2]at h;exact absurd h h2.2
 rw[if_neg h2]at h;by_cases h3:x.rounds.length<1∨4<x.rounds.length
 ·rw[if_pos h3]at h;simp at h
 rw[if_neg h3]at h;by_cases h4:z0M x.rounds=0
 ·rw[if_pos h4]at h;refine⟨by omega,h4,h,fun hh=>?_,fun hh=>?_⟩
  ·cases hb:x.batch with
   |nil=>rfl
   |cons _ _=>exact absurd ⟨hh,by rw[hb];simp⟩ h1
  ·by_cases hb:batF x.batch=0
   ·exact hb
   ·exact absurd ⟨hh,hb⟩ h2
 ·rw[if_neg h4]at h;exact absurd h h4
theorem q1F{has:Bool}{rs:List RoundE}{r n:Nat}(hr:r<rs.length)(hn:n<3)(h:sayM has rs r n=false):(List.range rs.length).all (z9G has rs)=false:=by
 rw[List.all_eq_false];refine⟨r,List.mem_range.2 hr,?_⟩;intro e;rw[(z4S has rs r).1 e n hn]at h;exact absurd h (by decide)
theorem z2J(rs:List RoundE)(dec:List Int):z5R rs dec=true↔∀n,n<3→endR rs (dec.getD n 0)=true:=by
 unfold z5R;simp only[Bool.and_eq_true];constructor
 ·rintro⟨⟨h0,h1⟩,h2⟩ n hn;have:n=0∨n=1∨n=2:=by omega
  rcases this with rfl|rfl|rfl
  ·exact h0
  ·exact h1
  ·exact h2
 ·intro h;exact⟨⟨h 0 (by omega),h 1 (by omega)⟩,h 2 (by omega)⟩
theorem q5h{x:InstE}(h:shpF x=0):insF x=if q5N x then 0 else 10:=by
 obtain⟨h1,h2,h3,_⟩:=z1q h;unfold insF;rw[if_pos h,q22 h2 (by omega)]
theorem z85(b o:Nat)(p:InstQ)(w:World)(hP:InstP w b o p)(hl:p.n≤1048576):
  Calls Tryz.prog 168 #[.pointer (some ⟨b,o,none⟩)] w fun e w'=>e=.returned (.int .i64 (insF p.e))∧Below w.heap.size w w':=by
 have ap:=z83 b o p w hP hl;generalize hE:insF p.e=E;have aa:Hid (E=insF p.e):=hE.symm;clear hE;go_enter Tryz.func168,Tryz.ntmps168
 go_wp2_with fail
 refine ap.mono ?_;rintro e w1 ⟨rfl,V⟩;replace hP:=hP.below V;clear ap;by_cases h0:shpF p.e=0
 ·obtain⟨⟨h1,h4⟩,hF,hD,_,_⟩:=z1q h0;have HE:Hid (E=if q5N p.e then 0 else 10):=aa.out.trans (q5h h0);rw[h0];clear h0;obtain⟨has,vb,U,vr,d,vd,dec⟩:=p;replace hF:z0M (d.map RoundQ.e)=0:=hF;replace hD:vf dec 1=0:=hD;replace h1:1≤(d.map RoundQ.e).length:=h1;replace h4:(d.map RoundQ.e).length≤4:=h4;rw[List.length_map]at h1 h4;have ae:Hid (E=if(has|| !decide (0<cnt 7 ((d.map RoundQ.e).getD 0 z0F).rep 1)) && (List.range (d.map RoundQ.e).length).all (z9G has (d.map RoundQ.e)) && z5R (d.map RoundQ.e) dec then 0 else 10):=HE.out;clear HE aa;have O:=fun r n w hP hr hn=>q0u b o ⟨has,vb,U,vr,d,vd,dec⟩ r n w hP hr h4 hn hF
  have W:=fun n w hP hn=>z84 b o ⟨has,vb,U,vr,d,vd,dec⟩ n w hP h4 hn hF hD
  dsimp only at O W;obtain⟨ra,rk,rfl⟩:∃a c,vr=.slice a d.length c:=hP.rounds.shape;obtain⟨rb,ro,rfl,aw,hc,ao⟩:=hP.rounds.cell (by decide) 0 (show 0<d.length by omega);have an:∀j x,(roundK.cells d[0])[j]?=some x→w1.cell? ⟨rb,ro+0*2+j,none⟩=some x:=hc;have r0:=an 0 (d[0].vr) rfl;have T:=(z1O hF 0 (by rw[List.length_map];omega)).1;rw[z1m d 0 (by omega)]at T ae;have T:vf d[0].rep 1=0:=T;have L:Hid (E=if(has|| !decide (0<cnt 7 d[0].rep 1)) && (List.range (d.map RoundQ.e).length).all (z9G has (d.map RoundQ.e)) && z5R (d.map RoundQ.e) dec then 0 else 10):=ae.out;clear ae;have al:intK.At w1 d[0].vr d[0].rep:=ao.1;clear hc an ao;generalize d[0].vr=qv at*;generalize d[0].rep=qr at*;obtain⟨xa,xc,xb,xo,rfl,ar,ak,ad⟩:=z3F al T 0 (by omega);subst ar;have ag:=z0C (some ⟨xb,xo,none⟩) xc qr 7 1 w1 ad (z00 T) rfl;clear ak ad al T;generalize cnt 7 qr 1=C at*;obtain⟨c0,c1,c2,c3⟩:=hP.box;dsimp only at c0 c1 c2 c3;simp only[Nat.zero_mul,Nat.add_zero]at r0;have av:(0:Int)<d.length:=by omega
  generalize aq:d.map RoundQ.e=rs at*;have aj:rs.length=d.length:=by rw[←aq,List.length_map]
  rw[aj]at L;have ab:Hid (rs.length=d.length):=aj;clear aj
  cases has with
  |true=>
   have I:Hid (E=if(List.range d.length).all (z9G true rs) && z5R rs dec then 0 else 10):=by rw[L.out,Bool.true_or,Bool.true_and];exact(rfl:_=_)
   have hB:=V;clear L ag
   go_wp2
   clear c0 c1 c2 c3 r0;go_loopw[4] (fun j wr=>∃k:Nat,k≤d.length∧j=.int .i64 k∧Hid (∀j,j<k→z9G true rs j=true)∧Below w1.heap.size w1 wr) (fun j _=>d.length-(intOf j).toNat)
   case atStart=>exact⟨0,Nat.zero_le _,rfl,fun j hj=>absurd hj (Nat.not_lt_zero _),Below.refl _ _⟩
   case round=>
    obtain⟨k,hk,rfl,HA,hb⟩:=hrel;have af:=hP.below hb;obtain⟨c0,c1,c2,c3⟩:=af.box;dsimp only at c0 c1 c2 c3;by_cases Y:k<d.length
    ·go_wp2
     clear c0 c1 c2 c3;go_loopw[5] (fun j wx=>∃m:Nat,m≤3∧j=.int .i64 m∧Hid (∀j,j<m→sayM true rs k j=true)∧Below w1.heap.size w1 wx) (fun j _=>3-(intOf j).toNat)
     case atStart=>exact⟨0,Nat.zero_le _,rfl,fun j hj=>absurd hj (Nat.not_lt_zero _),hb⟩
     case round=>
      obtain⟨m,hm,rfl,HB,y⟩:=hrel;by_cases A:m<3
      ·have hs:=O k m _ (hP.below y) Y A;have HY:Hid (sayM true rs k m=false→E=10):=fun h=>by rw[I.out,←ab.out,q1F (by rw[ab.out];exact Y) A h];rfl
       have HN:Hid (sayM true rs k m=true→∀j,j<m+1→sayM true rs k j=true):=fun h j hj=>by
        by_cases M:j=m
        ·subst M;exact h
        ·exact HB.out j (by omega)
       clear HB;generalize sayM true rs k m=X at*;have Z:(m:Int)<3:=by omega
       go_wp2_with fail
       refine hs.mono ?_;rintro e w5 ⟨rfl,z⟩;replace y:=y.trans (z.mono y.size);clear hs z
       cases X with
       |false=>
        have E2:Hid (E=10):=HY.out rfl;clear HY HN I
        go_wp2
        go_ret;exact⟨by rw[E2.out];rfl,hB.trans (y.mono hB.size)⟩
       |true=>
        have R:=HN.out rfl;have HR:Hid _:=R;clear HY HN R
        go_wp2
        go_roundw
        case rel=>exact⟨m+1,by omega,by go_num,HR.out,y⟩
        case measure=>simp[intOf];omega
      ·have N:m=3:=by omega
       subst N;have HR:Hid (∀j,j<k+1→z9G true rs j=true):=fun j hj=>by
        by_cases ah:j=k
        ·subst ah;exact(z4S true rs j).2 HB.out
        ·exact HA.out j (by omega)
       clear HA HB
       go_wp2
       go_roundw
       case rel=>exact⟨k+1,by omega,by go_num,HR.out,y⟩
       case measure=>simp[intOf];omega
    ·have ai:k=d.length:=by omega
     subst ai;have J:Hid (E=if z5R rs dec then 0 else 10):=by
      have e:(List.range d.length).all (z9G true rs)=true:=by
       rw[List.all_eq_true];intro x hx;exact HA.out x (List.mem_range.1 hx)
      rw[I.out,e];exact(rfl:_=_)
     clear HA I
     go_wp2
     clear c0 c1 c2 c3;go_loopw[6] (fun j wx=>∃m:Nat,m≤3∧j=.int .i64 m∧Hid (∀j,j<m→endR rs (dec.getD j 0)=true)∧Below w1.heap.size w1 wx) (fun j _=>3-(intOf j).toNat)
     case atStart=>exact⟨0,Nat.zero_le _,rfl,fun j hj=>absurd hj (Nat.not_lt_zero _),hb⟩
     case round=>
      obtain⟨m,hm,rfl,HB,y⟩:=hrel;by_cases A:m<3
      ·have hs:=W m _ (hP.below y) A;have HY:Hid (endR rs (dec.getD m 0)=false→E=10):=fun h=>by
        have:z5R rs dec=false:=by
         cases he:z5R rs dec with
         |false=>rfl
         |true=>
          rw[(z2J rs dec).1 he m A]at h;exact absurd h (by decide)
        rw[J.out,this];rfl
       have HN:Hid (endR rs (dec.getD m 0)=true→∀j,j<m+1→endR rs (dec.getD j 0)=true):=fun h j hj=>by
        by_cases M:j=m
        ·subst M;exact h
        ·exact HB.out j (by omega)
       clear HB;generalize endR rs (dec.getD m 0)=X at*;have Z:(m:Int)<3:=by omega
       go_wp2_with fail
       refine hs.mono ?_;rintro e w5 ⟨rfl,z⟩;replace y:=y.trans (z.mono y.size);clear hs z
       cases X with
       |false=>
        have E2:Hid (E=10):=HY.out rfl;clear HY HN J
        go_wp2
        go_ret;exact⟨by rw[E2.out];rfl,hB.trans (y.mono hB.size)⟩
       |true=>
        have R:=HN.out rfl;have HR:Hid _:=R;clear HY HN R
        go_wp2
        go_roundw
        case rel=>exact⟨m+1,by omega,by go_num,HR.out,y⟩
        case measure=>simp[intOf];omega
      ·have N:m=3:=by omega
       subst N;have E2:Hid (E=0):=by rw[J.out,(z2J rs dec).2 HB.out];rfl
       clear HB J
       go_wp2
       go_ret;exact⟨by rw[E2.out];rfl,hB.trans (y.mono hB.size)⟩
  |false=>
   go_wp2_with fail
   refine ag.mono ?_;rintro e w2 ⟨rfl,am⟩;replace hP:=hP.below am;have hB:=V.trans (am.mono V.size);clear ag c0 c1 c2 c3 r0;by_cases hC:0<C
   ·have E2:Hid (E=10):=show _=_ by rw[L.out];simp[hC]
    clear L
    go_wp2
    go_ret;exact⟨by rw[E2.out];rfl,hB⟩
   ·have I:Hid (E=if(List.range d.length).all (z9G false rs) && z5R rs dec then 0 else 10):=show _=_ by rw[L.out];simp[hC]
    clear L
    go_wp2
    go_loopw[4] (fun j wr=>∃k:Nat,k≤d.length∧j=.int .i64 k∧Hid (∀j,j<k→z9G false rs j=true)∧Below w2.heap.size w2 wr) (fun j _=>d.length-(intOf j).toNat)
    case atStart=>exact⟨0,Nat.zero_le _,rfl,fun j hj=>absurd hj (Nat.not_lt_zero _),Below.refl _ _⟩
    case round=>
     obtain⟨k,hk,rfl,HA,hb⟩:=hrel;have af:=hP.below hb;obtain⟨c0,c1,c2,c3⟩:=af.box;dsimp only at c0 c1 c2 c3;by_cases Y:k<d.length
     ·go_wp2
      clear c0 c1 c2 c3;go_loopw[5] (fun j wx=>∃m:Nat,m≤3∧j=.int .i64 m∧Hid (∀j,j<m→sayM false rs k j=true)∧Below w2.heap.size w2 wx) (fun j _=>3-(intOf j).toNat)
      case atStart=>exact⟨0,Nat.zero_le _,rfl,fun j hj=>absurd hj (Nat.not_lt_zero _),hb⟩
      case round=>
       obtain⟨m,hm,rfl,HB,y⟩:=hrel;by_cases A:m<3
       ·have hs:=O k m _ (hP.below y) Y A;have HY:Hid (sayM false rs k m=false→E=10):=fun h=>by rw[I.out,←ab.out,q1F (by rw[ab.out];exact Y) A h];rfl
        have HN:Hid (sayM false rs k m=true→∀j,j<m+1→sayM false rs k j=true):=fun h j hj=>by
         by_cases M:j=m
         ·subst M;exact h
         ·exact HB.out j (by omega)
        clear HB;generalize sayM false rs k m=X at*;have Z:(m:Int)<3:=by omega
        go_wp2_with fail
        refine hs.mono ?_;rintro e w5 ⟨rfl,z⟩;replace y:=y.trans (z.mono y.size);clear hs z
        cases X with
        |false=>
         have E2:Hid (E=10):=HY.out rfl;clear HY HN I
         go_wp2
         go_ret;exact⟨by rw[E2.out];rfl,hB.trans (y.mono hB.size)⟩
        |true=>
         have R:=HN.out rfl;have HR:Hid _:=R;clear HY HN R
         go_wp2
         go_roundw
         case rel=>exact⟨m+1,by omega,by go_num,HR.out,y⟩
         case measure=>simp[intOf];omega
       ·have N:m=3:=by omega
        subst N;have HR:Hid (∀j,j<k+1→z9G false rs j=true):=fun j hj=>by
         by_cases ah:j=k
         ·subst ah;exact(z4S false rs j).2 HB.out
         ·exact HA.out j (by omega)
        clear HA HB
        go_wp2
        go_roundw
        case rel=>exact⟨k+1,by omega,by go_num,HR.out,y⟩
        case measure=>simp[intOf];omega
     ·have ai:k=d.length:=by omega
      subst ai;have J:Hid (E=if z5R rs dec then 0 else 10):=by
       have e:(List.range d.length).all (z9G false rs)=true:=by
        rw[List.all_eq_true];intro x hx;exact HA.out x (List.mem_range.1 hx)
       rw[I.out,e];exact(rfl:_=_)
      clear HA I
      go_wp2
      clear c0 c1 c2 c3;go_loopw[6] (fun j wx=>∃m:Nat,m≤3∧j=.int .i64 m∧Hid (∀j,j<m→endR rs (dec.getD j 0)=true)∧Below w2.heap.size w2 wx) (fun j _=>3-(intOf j).toNat)
      case atStart=>exact⟨0,Nat.zero_le _,rfl,fun j hj=>absurd hj (Nat.not_lt_zero _),hb⟩
      case round=>
       obtain⟨m,hm,rfl,HB,y⟩:=hrel;by_cases A:m<3
       ·have hs:=W m _ (hP.below y) A;have HY:Hid (endR rs (dec.getD m 0)=false→E=10):=fun h=>by
         have:z5R rs dec=false:=by
          cases he:z5R rs dec with
          |false=>rfl
          |true=>
           rw[(z2J rs dec).1 he m A]at h;exact absurd h (by decide)
         rw[J.out,this];rfl
        have HN:Hid (endR rs (dec.getD m 0)=true→∀j,j<m+1→endR rs (dec.getD j 0)=true):=fun h j hj=>by
         by_cases M:j=m
         ·subst M;exact h
         ·exact HB.out j (by omega)
        clear HB;generalize endR rs (dec.getD m 0)=X at*;have Z:(m:Int)<3:=by omega
        go_wp2_with fail
        refine hs.mono ?_;rintro e w5 ⟨rfl,z⟩;replace y:=y.trans (z.mono y.size);clear hs z
        cases X with
        |false=>
         have E2:Hid (E=10):=HY.out rfl;clear HY HN J
         go_wp2
         go_ret;exact⟨by rw[E2.out];rfl,hB.trans (y.mono hB.size)⟩
        |true=>
         have R:=HN.out rfl;have HR:Hid _:=R;clear HY HN R
         go_wp2
         go_roundw
         case rel=>exact⟨m+1,by omega,by go_num,HR.out,y⟩
         case measure=>simp[intOf];omega
       ·have N:m=3:=by omega
        subst N;have E2:Hid (E=0):=by rw[J.out,(z2J rs dec).2 HB.out];rfl
        clear HB J
        go_wp2
        go_ret;exact⟨by rw[E2.out];rfl,hB.trans (y.mono hB.size)⟩
 ·have E2:Hid (E=shpF p.e):=aa.out.trans (if_neg h0);have au:(shpF p.e !=0)=true:=by simpa using h0
  clear aa;generalize shpF p.e=r at*;clear h0
  go_wp2
  go_ret;exact⟨by rw[E2.out];rfl,V⟩
end Go.Proofs.YtlkpdgjnhkjpjaaGreatDoor
