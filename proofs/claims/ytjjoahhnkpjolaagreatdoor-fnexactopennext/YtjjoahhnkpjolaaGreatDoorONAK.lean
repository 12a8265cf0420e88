import Derived.Test.YtjjoahhnkpjolaaGreatDoorONAI
set_option linter.unusedVariables false
set_option linter.unusedSimpArgs false
set_option maxRecDepth 100000
set_option maxHeartbeats 4000000
namespace Go.Proofs.YtjjoahhnkpjolaaGreatDoor
open Go.RowKit Go.BigFrame
open RoundQ renaming e->K
open Nat renaming zero_le->S
open List renaming length_map->G
open Go.Proofs.Tryz
theorem q4A{rs:List RoundE}{r n:Nat}(h:proA rs r n≠3)(h2:repA rs r n=3∨mayP (rs.getD r z0I).rep (proA rs r n)=false):proR rs r n=false:=by
 unfold proR;rw[Bool.or_eq_false_iff];refine⟨by simpa using h,?_⟩;rcases h2 with h2|h2
 ·rw[h2];rfl
 ·rw[h2];simp
theorem q2k{rs:List RoundE}{r n:Nat}(h:proA rs r n=3∨(repA rs r n≠3∧mayP (rs.getD r z0I).rep (proA rs r n)=true)):proR rs r n=true:=by
 unfold proR;rw[Bool.or_eq_true];rcases h with h|⟨h1,h2⟩
 ·left;simpa using h
 ·right;rw[h2];simpa using h1
theorem q4B{has:Bool}{rs:List RoundE}{r n:Nat}(h:proR rs r n=false):sayM has rs r n=false:=by
 unfold sayM;rw[h];rfl
theorem z5h{has:Bool}{rs:List RoundE}{r n:Nat}(h:proR rs r n=true)(h2:r=0∨repA rs r n=3):sayM has rs r n=true:=by
 unfold sayM;rw[h,if_pos h2];rfl
theorem q2l{has:Bool}{rs:List RoundE}{r n:Nat}(h:proR rs r n=true)(h2:¬(r=0∨repA rs r n=3)):sayM has rs r n=(q3w rs r n && (has||(repA rs r n==0)||decide (0<cnt 7 (rs.getD (r-1) z0I).pro 1))):=by
 unfold sayM;rw[h,if_neg h2];rfl
theorem z3U{w:World}{v:Value}{zs:List Int}{m:Int}(h:intK.At w v zs)(hv:vf zs m=0)(n:Nat)(hn:n<3):∃a c b off,v=.slice a 3 c∧a=some ⟨b,off,none⟩∧w.cell? ⟨b,off+n,none⟩=some (.int .i64 (zs.getD n 0))∧Row .i64 w a zs:=by
 have hl:=z07 hv;obtain⟨a,c,e⟩:=h.shape;subst e;have hR:=(z0P h).2;obtain⟨b,off,ha,_,hc⟩:=hR n (by omega);exact⟨a,c,b,off,by rw[hl],ha,hc,hR⟩
theorem q06(b o:Nat)(p:InstQ)(r n:Nat)(w:World)(hP:InstP w b o p)(hr:r<p.rounds.length)(h4:p.rounds.length≤4)(hn:n<3)(hF:z0R (p.rounds.map K)=0):
  Calls Tryz.prog 113 #[.pointer (some ⟨b,o,none⟩),.int .i64 (r:Int),.int .i64 (n:Int)] w fun e w'=>e=.returned (.bool (sayM p.has (p.rounds.map K) r n))∧Below w.heap.size w w':=by
 have hB:Below w.heap.size w w:=Below.refl _ _;obtain⟨has,vb,aH,vr,d,vd,dec⟩:=p;dsimp only at hr h4 hF⊢;have HE:Hid (sayM has (d.map K) r n=sayM has (d.map K) r n):=(rfl:_=_)
 generalize hE:sayM has (d.map K) r n=E at HE⊢;replace HE:Hid (E=sayM has (d.map K) r n):=hE.symm;clear hE;obtain⟨aL,aQ,rfl⟩:∃a c,vr=.slice a d.length c:=hP.rounds.shape;obtain⟨af,ao⟩:=z1Z hF r (by rw[G];exact hr);have ah:=z1u d r hr;rw[ah]at af ao;have af:vf d[r].rep 1=0:=af;have ao:vf d[r].pro 2=0:=ao;generalize ae:d.map K=rs at*;have HQ:Hid (proA rs r n=d[r].pro.getD n 0∧repA rs r n=d[r].rep.getD n 0∧(rs.getD r z0I).rep=d[r].rep):=by
  refine⟨?_,?_,?_⟩
  ·show(rs.getD r z0I).pro.getD n 0=_;rw[ah];rfl
  ·show(rs.getD r z0I).rep.getD n 0=_;rw[ah];rfl
  ·rw[ah];rfl
 obtain⟨rb,ro,aE,aO,hc,aI⟩:=hP.rounds.cell (by decide) r hr;have aF:aL=some ⟨rb,ro,none⟩:=aE;have ax:∀j x,(roundK.cells d[r])[j]?=some x→w.cell? ⟨rb,ro+r*2+j,none⟩=some x:=hc;have r0:=ax 0 (d[r].vr) rfl;have r1:=ax 1 (d[r].vp) rfl;obtain⟨aB,M⟩:intK.At w d[r].vr d[r].rep∧intK.At w d[r].vp d[r].pro:=aI;clear hc ax ah aE;generalize d[r].vr=qv at*;generalize d[r].rep=qr at*;generalize d[r].vp=qw at*;generalize d[r].pro=qp at*;obtain⟨xa,xc,xb,xo,rfl,aJ,az,ar⟩:=z3U aB af n hn;obtain⟨ya,yc,yb,yo,rfl,aK,aA,au⟩:=z3U M ao n hn;have aj:=fun w h=>z8l xa xc qr (qp.getD n 0) w h (by have:=z07 af;omega)
 rw[z07 af]at aj;subst aJ aK;obtain⟨c0,c1,c2,c3⟩:=hP.box;dsimp only at c0 c1 c2 c3;clear aB M;generalize aM:qp.getD n 0=PP at*;generalize aN:qr.getD n 0=RR at*;have L:Hid (RR=repA rs r n):=HQ.out.2.1.symm;have aP:(n:Int)<3:=by omega
 rw[Nat.add_zero]at r0;subst aF;go_enter func113,ntmps113;by_cases Z:PP=3
 ·have C:Hid (proR rs r n=true):=q2k (Or.inl (by rw[HQ.out.1];exact Z));have ap:(PP !=3)=false:=by simp[Z]
  clear HQ aj au;by_cases ak:r=0
  ·have E2:Hid (E=true):=by rw[HE.out];exact z5h C.out (Or.inl ak)
   subst ak;try simp only[Nat.zero_mul,Nat.add_zero]at r0 r1
   clear HE C
   go_wp2
   go_ret;exact⟨by rw[E2.out];rfl,hB⟩
  ·obtain⟨s,rfl⟩:∃s,r=s+1:=⟨r-1,by omega⟩
   have aD:(((s+1:Nat):Int)==0)=false:=by simp;omega
   by_cases A:repA rs (s+1) n=3
   ·have E2:Hid (E=true):=by rw[HE.out];exact z5h C.out (Or.inr A)
    have I:(RR==3)=true:=by rw[L.out,A];rfl
    clear HE C
    go_wp2
    go_ret;exact⟨by rw[E2.out];rfl,hB⟩
   ·have HS:Hid (E=(q3w rs (s+1) n && (has||(repA rs (s+1) n==0)||decide (0<cnt 7 (rs.getD s z0I).pro 1)))):=by
     rw[HE.out];exact q2l C.out (by omega)
    have I:(RR==3)=false:=by rw[L.out];simpa using A
    have ag:Hid (q3w rs (s+1) n=((proA rs s n !=3) && mayR (rs.getD s z0I).pro (repA rs (s+1) n))):=(rfl:_=_)
    clear HE C;obtain⟨c0,c1,c2,c3⟩:=hP.box;dsimp only at c0 c1 c2 c3;have hs:s<d.length:=by omega
    obtain⟨sb,so,al,aG,am,V⟩:=hP.rounds.cell (by decide) s hs;simp only[Option.some.injEq,Addr.mk.injEq,and_true]at al;obtain⟨rfl,rfl⟩:=al;have U:∀j x,(roundK.cells d[s])[j]?=some x→w.cell? ⟨rb,ro+s*2+j,none⟩=some x:=am;have s1:=U 1 (d[s].vp) rfl;have z:=(z1Z hF s (by rw[←ae,G];exact hs)).2;rw[←ae,z1u d s hs]at z;have z:vf d[s].pro 2=0:=z;have HA:Hid (proA rs s n=d[s].pro.getD n 0∧(rs.getD s z0I).pro=d[s].pro):=by
     have:rs.getD s z0I=K d[s]:=by rw[←ae];exact z1u d s hs
     refine⟨?_,?_⟩
     ·show(rs.getD s z0I).pro.getD n 0=_;rw[this];rfl
     ·rw[this];rfl
    have T:intK.At w d[s].vp d[s].pro:=V.2;clear am U V;generalize d[s].vp=qw at*;generalize d[s].pro=qp at*;obtain⟨pa,pc,pb,po,rfl,ay,ad,W⟩:=z3U T z n hn;have J:=fun w h=>z4J pa pc qp RR w h (by have:=z07 z;omega)
    have D:=fun w h=>z0H pa pc qp 7 1 w h (z07 z) rfl
    rw[z07 z]at J;have y:Hid (E=(((qp.getD n 0 !=3) && mayR qp RR) && (has||(RR==0)||decide (0<cnt 7 qp 1)))):=by
     rw[HS.out,ag.out,HA.out.1,HA.out.2,←L.out];exact(rfl:_=_)
    subst ay;clear HS ag HA T z;generalize qp.getD n 0=AA at*;by_cases hA:AA=3
    ·have E2:Hid (E=false):=by rw[y.out,hA];rfl
     have av:(AA==3)=true:=by simp[hA]
     clear y J D hA
     go_wp2
     go_ret;exact⟨by rw[E2.out];rfl,hB⟩
    ·have av:(AA==3)=false:=by simpa using hA
     have M:(AA !=3)=true:=by simpa using hA
     rw[M]at y;clear hA M;have O:=J w W;generalize mayR qp RR=Y at*
     go_wp2_with fail
     refine O.mono ?_;rintro e w5 ⟨rfl,aa⟩;have aw:=hP.below aa;replace hB:=hB.trans (aa.mono hB.size);have ab:=W.below aa;clear J O c0 c1 c2 c3 s1 ad;obtain⟨c0,c1,c2,c3⟩:=aw.box;dsimp only at c0 c1 c2 c3
     cases Y with
     |false=>
      have E2:Hid (E=false):=by rw[y.out];rfl
      clear y D
      go_wp2
      go_ret;exact⟨by rw[E2.out];rfl,hB⟩
     |true=>
      cases has with
      |true=>
       have E2:Hid (E=true):=by rw[y.out];rfl
       clear y D
       go_wp2
       go_ret;exact⟨by rw[E2.out];rfl,hB⟩
      |false=>
       by_cases hz:RR=0
       ·have E2:Hid (E=true):=by rw[y.out,hz];rfl
        have an:(RR==0)=true:=by simp[hz]
        clear y D hz
        go_wp2
        go_ret;exact⟨by rw[E2.out];rfl,hB⟩
       ·have an:(RR==0)=false:=by simpa using hz
        rw[an]at y;have N:=D w5 ab;generalize cnt 7 qp 1=CC at*;clear hz D
        go_wp2_with fail
        refine N.mono ?_;rintro e w6 ⟨rfl,ai⟩;replace hB:=hB.trans (ai.mono hB.size);clear N ai c0 c1 c2 c3;have E2:Hid (E=decide (0<CC)):=show _=_ by rw[y.out];simp
        clear y
        go_wp2
        go_ret;exact⟨by rw[E2.out];rfl,hB⟩
 ·have ap:(PP !=3)=true:=by simpa using Z
  by_cases A:RR=3
  ·have E2:Hid (E=false):=by rw[HE.out];exact q4B (q4A (by rw[HQ.out.1];exact Z) (Or.inl (by rw[←L.out];exact A)))
   have I:(RR==3)=true:=by simp[A]
   clear HE HQ aj A Z
   go_wp2
   go_ret;exact⟨by rw[E2.out];rfl,hB⟩
  ·have I:(RR==3)=false:=by simpa using A
   have HX:Hid (mayP qr PP=false→E=false):=fun hx=>by rw[HE.out];exact q4B (q4A (by rw[HQ.out.1];exact Z) (Or.inr (by rw[HQ.out.2.2,HQ.out.1];exact hx)))
   have HY:Hid (mayP qr PP=true→proR rs r n=true):=fun hx=>q2k (Or.inr ⟨by rw[←L.out];exact A,by rw[HQ.out.2.2,HQ.out.1];exact hx⟩)
   have aq:=aj w ar;generalize mayP qr PP=X at*;clear A Z HQ aj
   go_wp2_with fail
   refine aq.mono ?_;rintro e w1 ⟨rfl,aC⟩;replace hP:=hP.below aC;replace hB:=hB.trans (aC.mono hB.size);clear aq c0 c1 c2 c3 r0 r1 az aA au ar
   cases X with
   |false=>
    have E2:Hid (E=false):=HX.out rfl;clear HX HY HE
    go_wp2
    go_ret;exact⟨by rw[E2.out];rfl,hB⟩
   |true=>
    have C:Hid (proR rs r n=true):=HY.out rfl;clear HX HY I ap;by_cases ak:r=0
    ·have E2:Hid (E=true):=by rw[HE.out];exact z5h C.out (Or.inl ak)
     subst ak;try simp only[Nat.zero_mul,Nat.add_zero]at r0 r1
     clear HE C
     go_wp2
     go_ret;exact⟨by rw[E2.out];rfl,hB⟩
    ·obtain⟨s,rfl⟩:∃s,r=s+1:=⟨r-1,by omega⟩
     have aD:(((s+1:Nat):Int)==0)=false:=by simp;omega
     by_cases A:repA rs (s+1) n=3
     ·have E2:Hid (E=true):=by rw[HE.out];exact z5h C.out (Or.inr A)
      have I:(RR==3)=true:=by rw[L.out,A];rfl
      clear HE C
      go_wp2
      go_ret;exact⟨by rw[E2.out];rfl,hB⟩
     ·have HS:Hid (E=(q3w rs (s+1) n && (has||(repA rs (s+1) n==0)||decide (0<cnt 7 (rs.getD s z0I).pro 1)))):=by
       rw[HE.out];exact q2l C.out (by omega)
      have I:(RR==3)=false:=by rw[L.out];simpa using A
      have ag:Hid (q3w rs (s+1) n=((proA rs s n !=3) && mayR (rs.getD s z0I).pro (repA rs (s+1) n))):=(rfl:_=_)
      clear HE C;obtain⟨c0,c1,c2,c3⟩:=hP.box;dsimp only at c0 c1 c2 c3;have hs:s<d.length:=by omega
      obtain⟨sb,so,al,aG,am,V⟩:=hP.rounds.cell (by decide) s hs;simp only[Option.some.injEq,Addr.mk.injEq,and_true]at al;obtain⟨rfl,rfl⟩:=al;have U:∀j x,(roundK.cells d[s])[j]?=some x→w1.cell? ⟨rb,ro+s*2+j,none⟩=some x:=am;have s1:=U 1 (d[s].vp) rfl;have z:=(z1Z hF s (by rw[←ae,G];exact hs)).2;rw[←ae,z1u d s hs]at z;have z:vf d[s].pro 2=0:=z;have HA:Hid (proA rs s n=d[s].pro.getD n 0∧(rs.getD s z0I).pro=d[s].pro):=by
       have:rs.getD s z0I=K d[s]:=by rw[←ae];exact z1u d s hs
       refine⟨?_,?_⟩
       ·show(rs.getD s z0I).pro.getD n 0=_;rw[this];rfl
       ·rw[this];rfl
      have T:intK.At w1 d[s].vp d[s].pro:=V.2;clear am U V;generalize d[s].vp=qw at*;generalize d[s].pro=qp at*;obtain⟨pa,pc,pb,po,rfl,ay,ad,W⟩:=z3U T z n hn;have J:=fun w h=>z4J pa pc qp RR w h (by have:=z07 z;omega)
      have D:=fun w h=>z0H pa pc qp 7 1 w h (z07 z) rfl
      rw[z07 z]at J;have y:Hid (E=(((qp.getD n 0 !=3) && mayR qp RR) && (has||(RR==0)||decide (0<cnt 7 qp 1)))):=by
       rw[HS.out,ag.out,HA.out.1,HA.out.2,←L.out];exact(rfl:_=_)
      subst ay;clear HS ag HA T z;generalize qp.getD n 0=AA at*;by_cases hA:AA=3
      ·have E2:Hid (E=false):=by rw[y.out,hA];rfl
       have av:(AA==3)=true:=by simp[hA]
       clear y J D hA
       go_wp2
       go_ret;exact⟨by rw[E2.out];rfl,hB⟩
      ·have av:(AA==3)=false:=by simpa using hA
       have M:(AA !=3)=true:=by simpa using hA
       rw[M]at y;clear hA M;have O:=J w1 W;generalize mayR qp RR=Y at*
       go_wp2_with fail
       refine O.mono ?_;rintro e w5 ⟨rfl,aa⟩;have aw:=hP.below aa;replace hB:=hB.trans (aa.mono hB.size);have ab:=W.below aa;clear J O c0 c1 c2 c3 s1 ad;obtain⟨c0,c1,c2,c3⟩:=aw.box;dsimp only at c0 c1 c2 c3
       cases Y with
       |false=>
        have E2:Hid (E=false):=by rw[y.out];rfl
        clear y D
        go_wp2
        go_ret;exact⟨by rw[E2.out];rfl,hB⟩
       |true=>
        cases has with
        |true=>
         have E2:Hid (E=true):=by rw[y.out];rfl
         clear y D
         go_wp2
         go_ret;exact⟨by rw[E2.out];rfl,hB⟩
        |false=>
         by_cases hz:RR=0
         ·have E2:Hid (E=true):=by rw[y.out,hz];rfl
          have an:(RR==0)=true:=by simp[hz]
          clear y D hz
          go_wp2
          go_ret;exact⟨by rw[E2.out];rfl,hB⟩
         ·have an:(RR==0)=false:=by simpa using hz
          rw[an]at y;have N:=D w5 ab;generalize cnt 7 qp 1=CC at*;clear hz D
          go_wp2_with fail
          refine N.mono ?_;rintro e w6 ⟨rfl,ai⟩;replace hB:=hB.trans (ai.mono hB.size);clear N ai c0 c1 c2 c3;have E2:Hid (E=decide (0<CC)):=show _=_ by rw[y.out];simp
          clear y
          go_wp2
          go_ret;exact⟨by rw[E2.out];rfl,hB⟩
theorem q4C{rs:List RoundE}{v:Int}{k:Nat}(hk:k<rs.length)(h:2≤cnt 7 (rs.getD k z0I).pro v):agr rs v=true:=by
 unfold agr;rw[List.any_eq_true];refine⟨rs[k],List.getElem_mem hk,?_⟩;have e:rs.getD k z0I=rs[k]:=by simp[List.getD,hk]
 rw[e]at h;simpa using h
theorem q0i{rs:List RoundE}{v:Int}(h:∀k,k<rs.length→cnt 7 (rs.getD k z0I).pro v<2):agr rs v=false:=by
 unfold agr;rw[List.any_eq_false];intro x hx;obtain⟨k,hk,rfl⟩:=List.getElem_of_mem hx;have e:rs.getD k z0I=rs[k]:=by simp[List.getD,hk]
 have:=h k hk;rw[e]at this;simpa using this
theorem z9x(b o:Nat)(p:InstQ)(n:Nat)(w:World)(hP:InstP w b o p)(h4:p.rounds.length≤4)(hn:n<3)(hF:z0R (p.rounds.map K)=0)(hD:vf p.dec 1=0):
  Calls Tryz.prog 114 #[.pointer (some ⟨b,o,none⟩),.int .i64 (n:Int)] w fun e w'=>e=.returned (.bool (endR (p.rounds.map K) (p.dec.getD n 0)))∧Below w.heap.size w w':=by
 obtain⟨has,vb,Y,vr,d,vd,dec⟩:=p;dsimp only at h4 hF hD⊢;have D:intK.At w vd dec:=hP.dec;obtain⟨da,dc,db,ae,rfl,Z,J,N⟩:=z3U D hD n hn;subst Z;generalize hE:endR (d.map K) (dec.getD n 0)=E;have HE:Hid (E=((dec.getD n 0==3)||agr (d.map K) (dec.getD n 0))):=hE.symm;clear hE D N;generalize dec.getD n 0=v at*;obtain⟨ra,rk,rfl⟩:∃a c,vr=.slice a d.length c:=hP.rounds.shape;obtain⟨c0,c1,c2,c3⟩:=hP.box;dsimp only at c0 c1 c2 c3;have ag:(n:Int)<3:=by omega
 by_cases hv:v=3
 ·have E2:Hid (E=true):=by rw[HE.out,hv];rfl
  have X:(v==3)=true:=by simp[hv]
  clear HE hv;go_enter func114,ntmps114
  go_wp2
  go_ret;exact⟨by rw[E2.out];rfl,Below.refl _ _⟩
 ·have X:(v==3)=false:=by simpa using hv
  have A:Hid (E=agr (d.map K) v):=by rw[HE.out,X];exact(rfl:_=_)
  clear HE hv;go_enter func114,ntmps114
  go_wp2
  clear c0 c1 c2 c3 J;go_loopw[6] (fun j wr=>∃k:Nat,k≤d.length∧j=.int .i64 k∧Hid (∀j,j<k→cnt 7 ((d.map K).getD j z0I).pro v<2)∧Below w.heap.size w wr) (fun j _=>d.length-(intOf j).toNat)
  case atStart=>exact⟨0,S _,rfl,fun j hj=>absurd hj (Nat.not_lt_zero _),Below.refl _ _⟩
  case round=>
   obtain⟨k,hk,rfl,HA,hb⟩:=hrel;have L:=hP.below hb;obtain⟨c0,c1,c2,c3⟩:=L.box;dsimp only at c0 c1 c2 c3;by_cases y:k<d.length
   ·obtain⟨rb,ro,rfl,af,hc,W⟩:=L.rounds.cell (by decide) k y;have U:∀j x,(roundK.cells d[k])[j]?=some x→wr.cell? ⟨rb,ro+k*2+j,none⟩=some x:=hc;have r1:=U 1 (d[k].vp) rfl;have z:=(z1Z hF k (by rw[G];exact y)).2;have HY:Hid (2≤cnt 7 d[k].pro v→E=true):=fun h=>by
     rw[A.out];exact q4C (k:=k) (by rw[G];exact y) (by rw[z1u d k y];exact h)
    have HN:Hid (cnt 7 d[k].pro v<2→∀j,j<k+1→cnt 7 ((d.map K).getD j z0I).pro v<2):=by
     intro h j hj;by_cases aa:j=k
     ·subst aa;rw[z1u d j y];exact h
     ·exact HA.out j (by omega)
    rw[z1u d k y]at z;have z:vf d[k].pro 2=0:=z;have O:intK.At wr d[k].vp d[k].pro:=W.2;clear hc U W HA;generalize d[k].vp=qw at*;generalize d[k].pro=qp at*;obtain⟨pa,pc,pb,po,rfl,ad,M,I⟩:=z3U O z 0 (by omega);subst ad;have V:=z0H (some ⟨pb,po,none⟩) pc qp 7 v wr I (z07 z) rfl;generalize cnt 7 qp v=C at*;clear O z M I
    go_wp2_with fail
    refine V.mono ?_;rintro e w2 ⟨rfl,T⟩;replace hb:=hb.trans (T.mono hb.size);clear V c0 c1 c2 c3 r1 T L;by_cases hC:2≤C
    ·have E2:Hid (E=true):=HY.out hC;clear HY HN A
     go_wp2
     go_ret;exact⟨by rw[E2.out];rfl,hb⟩
    ·have R:=HN.out (by omega);have HR:Hid _:=R;clear HY HN R
     go_wp2
     go_roundw
     case rel=>exact⟨k+1,by omega,by go_num,HR.out,hb⟩
     case measure=>simp[intOf];omega
   ·have ab:k=d.length:=by omega
    subst ab;have E2:Hid (E=false):=by rw[A.out];exact q0i (by simpa using HA.out)
    clear HA A
    go_wp2
    go_ret;exact⟨by rw[E2.out];rfl,hb⟩
theorem z1p{x:InstE}(h:shpF x=0):(1≤x.rounds.length∧x.rounds.length≤4)∧z0R x.rounds=0∧vf x.dec 1=0∧(x.has=false→x.batch=[])∧(x.has=true→batF x.batch=0):=by
 unfold shpF at h;by_cases h1:x.has=false∧0<x.batch.length
 ·rw[if_pos h1]at h;simp at h
 rw[if_neg h1]at h;by_cases h2:x.has=true∧batF x.batch≠0
 ·rw[if_pos h2]at h;exact absurd h h2.2
 rw[if_neg h2]at h;by_cases h3:x.rounds.length<1∨4<x.rounds.length
 ·rw[if_pos h3]at h;simp at h
 rw[if_neg h3]at h;by_cases h4:z0R x.rounds=0
 ·rw[if_pos h4]at h;refine⟨by omega,h4,h,fun hh=>?_,fun hh=>?_⟩
  ·cases hb:x.batch with
   |nil=>rfl
   |cons _ _=>exact absurd ⟨hh,by rw[hb];simp⟩ h1
  ·by_cases hb:batF x.batch=0
   ·exact hb
   ·exact absurd ⟨hh,hb⟩ h2
 ·rw[if_neg h4]at h;exact absurd h h4
theorem q2m{has:Bool}{rs:List RoundE}{r n:Nat}(hr:r<rs.length)(hn:n<3)(h:sayM has rs r n=false):(List.range rs.length).all (q0b has rs)=false:=by
 rw[List.all_eq_false];refine⟨r,List.mem_range.2 hr,?_⟩;intro e;rw[(z5f has rs r).1 e n hn]at h;exact absurd h (by decide)
theorem z2W(rs:List RoundE)(dec:List Int):z6f rs dec=true↔∀n,n<3→endR rs (dec.getD n 0)=true:=by
 unfold z6f;simp only[Bool.and_eq_true];constructor
 ·rintro⟨⟨h0,h1⟩,h2⟩ n hn;have:n=0∨n=1∨n=2:=by omega
  rcases this with rfl|rfl|rfl
  ·exact h0
  ·exact h1
  ·exact h2
 ·intro h;exact⟨⟨h 0 (by omega),h 1 (by omega)⟩,h 2 (by omega)⟩
theorem q57{x:InstE}(h:shpF x=0):insF x=if q6y x then 0 else 10:=by
 obtain⟨h1,h2,h3,_⟩:=z1p h;unfold insF;rw[if_pos h,q3N h2 (by omega)]
theorem z9y(b o:Nat)(p:InstQ)(w:World)(hP:InstP w b o p)(hl:p.n≤1048576):
  Calls Tryz.prog 69 #[.pointer (some ⟨b,o,none⟩)] w fun e w'=>e=.returned (.int .i64 (insF p.e))∧Below w.heap.size w w':=by
 have ao:=z9r b o p w hP hl;generalize hE:insF p.e=E;have Z:Hid (E=insF p.e):=hE.symm;clear hE;go_enter func69,ntmps69
 go_wp2_with fail
 refine ao.mono ?_;rintro e w1 ⟨rfl,U⟩;replace hP:=hP.below U;clear ao;by_cases h0:shpF p.e=0
 ·obtain⟨⟨h1,h4⟩,hF,hD,_,_⟩:=z1p h0;have HE:Hid (E=if q6y p.e then 0 else 10):=Z.out.trans (q57 h0);rw[h0];clear h0;obtain⟨has,vb,T,vr,d,vd,dec⟩:=p;replace hF:z0R (d.map K)=0:=hF;replace hD:vf dec 1=0:=hD;replace h1:1≤(d.map K).length:=h1;replace h4:(d.map K).length≤4:=h4;rw[G]at h1 h4;have ad:Hid (E=if(has|| !decide (0<cnt 7 ((d.map K).getD 0 z0I).rep 1)) && (List.range (d.map K).length).all (q0b has (d.map K)) && z6f (d.map K) dec then 0 else 10):=HE.out;clear HE Z;have N:=fun r n w hP hr hn=>q06 b o ⟨has,vb,T,vr,d,vd,dec⟩ r n w hP hr h4 hn hF
  have V:=fun n w hP hn=>z9x b o ⟨has,vb,T,vr,d,vd,dec⟩ n w hP h4 hn hF hD
  dsimp only at N V;obtain⟨ra,rk,rfl⟩:∃a c,vr=.slice a d.length c:=hP.rounds.shape;obtain⟨rb,ro,rfl,av,hc,an⟩:=hP.rounds.cell (by decide) 0 (show 0<d.length by omega);have am:∀j x,(roundK.cells d[0])[j]?=some x→w1.cell? ⟨rb,ro+0*2+j,none⟩=some x:=hc;have r0:=am 0 (d[0].vr) rfl;have O:=(z1Z hF 0 (by rw[G];omega)).1;rw[z1u d 0 (by omega)]at O ad;have O:vf d[0].rep 1=0:=O;have J:Hid (E=if(has|| !decide (0<cnt 7 d[0].rep 1)) && (List.range (d.map K).length).all (q0b has (d.map K)) && z6f (d.map K) dec then 0 else 10):=ad.out;clear ad;have ak:intK.At w1 d[0].vr d[0].rep:=an.1;clear hc am an;generalize d[0].vr=qv at*;generalize d[0].rep=qr at*;obtain⟨xa,xc,xb,xo,rfl,aq,aj,ab⟩:=z3U ak O 0 (by omega);subst aq;have af:=z0H (some ⟨xb,xo,none⟩) xc qr 7 1 w1 ab (z07 O) rfl;clear aj ab ak O;generalize cnt 7 qr 1=C at*;obtain⟨c0,c1,c2,c3⟩:=hP.box;dsimp only at c0 c1 c2 c3;simp only[Nat.zero_mul,Nat.add_zero]at r0;have au:(0:Int)<d.length:=by omega
  generalize ap:d.map K=rs at*;have ai:rs.length=d.length:=by rw[←ap,G]
  rw[ai]at J;have aa:Hid (rs.length=d.length):=ai;clear ai
  cases has with
  |true=>
   have D:Hid (E=if(List.range d.length).all (q0b true rs) && z6f rs dec then 0 else 10):=by rw[J.out,Bool.true_or,Bool.true_and];exact(rfl:_=_)
   have hB:=U;clear J af
   go_wp2
   clear c0 c1 c2 c3 r0;go_loopw[4] (fun j wr=>∃k:Nat,k≤d.length∧j=.int .i64 k∧Hid (∀j,j<k→q0b true rs j=true)∧Below w1.heap.size w1 wr) (fun j _=>d.length-(intOf j).toNat)
   case atStart=>exact⟨0,S _,rfl,fun j hj=>absurd hj (Nat.not_lt_zero _),Below.refl _ _⟩
   case round=>
    obtain⟨k,hk,rfl,HA,hb⟩:=hrel;have ae:=hP.below hb;obtain⟨c0,c1,c2,c3⟩:=ae.box;dsimp only at c0 c1 c2 c3;by_cases W:k<d.length
    ·go_wp2
     clear c0 c1 c2 c3;go_loopw[5] (fun j wx=>∃m:Nat,m≤3∧j=.int .i64 m∧Hid (∀j,j<m→sayM true rs k j=true)∧Below w1.heap.size w1 wx) (fun j _=>3-(intOf j).toNat)
     case atStart=>exact⟨0,S _,rfl,fun j hj=>absurd hj (Nat.not_lt_zero _),hb⟩
     case round=>
      obtain⟨m,hm,rfl,HB,y⟩:=hrel;by_cases A:m<3
      ·have hs:=N k m _ (hP.below y) W A;have HY:Hid (sayM true rs k m=false→E=10):=fun h=>by rw[D.out,←aa.out,q2m (by rw[aa.out];exact W) A h];rfl
       have HN:Hid (sayM true rs k m=true→∀j,j<m+1→sayM true rs k j=true):=fun h j hj=>by
        by_cases L:j=m
        ·subst L;exact h
        ·exact HB.out j (by omega)
       clear HB;generalize sayM true rs k m=X at*;have Y:(m:Int)<3:=by omega
       go_wp2_with fail
       refine hs.mono ?_;rintro e w5 ⟨rfl,z⟩;replace y:=y.trans (z.mono y.size);clear hs z
       cases X with
       |false=>
        have E2:Hid (E=10):=HY.out rfl;clear HY HN D
        go_wp2
        go_ret;exact⟨by rw[E2.out];rfl,hB.trans (y.mono hB.size)⟩
       |true=>
        have R:=HN.out rfl;have HR:Hid _:=R;clear HY HN R
        go_wp2
        go_roundw
        case rel=>exact⟨m+1,by omega,by go_num,HR.out,y⟩
        case measure=>simp[intOf];omega
      ·have M:m=3:=by omega
       subst M;have HR:Hid (∀j,j<k+1→q0b true rs j=true):=fun j hj=>by
        by_cases ag:j=k
        ·subst ag;exact(z5f true rs j).2 HB.out
        ·exact HA.out j (by omega)
       clear HA HB
       go_wp2
       go_roundw
       case rel=>exact⟨k+1,by omega,by go_num,HR.out,y⟩
       case measure=>simp[intOf];omega
    ·have ah:k=d.length:=by omega
     subst ah;have I:Hid (E=if z6f rs dec then 0 else 10):=by
      have e:(List.range d.length).all (q0b true rs)=true:=by
       rw[List.all_eq_true];intro x hx;exact HA.out x (List.mem_range.1 hx)
      rw[D.out,e];exact(rfl:_=_)
     clear HA D
     go_wp2
     clear c0 c1 c2 c3;go_loopw[6] (fun j wx=>∃m:Nat,m≤3∧j=.int .i64 m∧Hid (∀j,j<m→endR rs (dec.getD j 0)=true)∧Below w1.heap.size w1 wx) (fun j _=>3-(intOf j).toNat)
     case atStart=>exact⟨0,S _,rfl,fun j hj=>absurd hj (Nat.not_lt_zero _),hb⟩
     case round=>
      obtain⟨m,hm,rfl,HB,y⟩:=hrel;by_cases A:m<3
      ·have hs:=V m _ (hP.below y) A;have HY:Hid (endR rs (dec.getD m 0)=false→E=10):=fun h=>by
        have:z6f rs dec=false:=by
         cases he:z6f rs dec with
         |false=>rfl
         |true=>
          rw[(z2W rs dec).1 he m A]at h;exact absurd h (by decide)
        rw[I.out,this];rfl
       have HN:Hid (endR rs (dec.getD m 0)=true→∀j,j<m+1→endR rs (dec.getD j 0)=true):=fun h j hj=>by
        by_cases L:j=m
        ·subst L;exact h
        ·exact HB.out j (by omega)
       clear HB;generalize endR rs (dec.getD m 0)=X at*;have Y:(m:Int)<3:=by omega
       go_wp2_with fail
       refine hs.mono ?_;rintro e w5 ⟨rfl,z⟩;replace y:=y.trans (z.mono y.size);clear hs z
       cases X with
       |false=>
        have E2:Hid (E=10):=HY.out rfl;clear HY HN I
        go_wp2
        go_ret;exact⟨by rw[E2.out];rfl,hB.trans (y.mono hB.size)⟩
       |true=>
        have R:=HN.out rfl;have HR:Hid _:=R;clear HY HN R
        go_wp2
        go_roundw
        case rel=>exact⟨m+1,by omega,by go_num,HR.out,y⟩
        case measure=>simp[intOf];omega
      ·have M:m=3:=by omega
       subst M;have E2:Hid (E=0):=by rw[I.out,(z2W rs dec).2 HB.out];rfl
       clear HB I
       go_wp2
       go_ret;exact⟨by rw[E2.out];rfl,hB.trans (y.mono hB.size)⟩
  |false=>
   go_wp2_with fail
   refine af.mono ?_;rintro e w2 ⟨rfl,al⟩;replace hP:=hP.below al;have hB:=U.trans (al.mono U.size);clear af c0 c1 c2 c3 r0;by_cases hC:0<C
   ·have E2:Hid (E=10):=show _=_ by rw[J.out];simp[hC]
    clear J
    go_wp2
    go_ret;exact⟨by rw[E2.out];rfl,hB⟩
   ·have D:Hid (E=if(List.range d.length).all (q0b false rs) && z6f rs dec then 0 else 10):=show _=_ by rw[J.out];simp[hC]
    clear J
    go_wp2
    go_loopw[4] (fun j wr=>∃k:Nat,k≤d.length∧j=.int .i64 k∧Hid (∀j,j<k→q0b false rs j=true)∧Below w2.heap.size w2 wr) (fun j _=>d.length-(intOf j).toNat)
    case atStart=>exact⟨0,S _,rfl,fun j hj=>absurd hj (Nat.not_lt_zero _),Below.refl _ _⟩
    case round=>
     obtain⟨k,hk,rfl,HA,hb⟩:=hrel;have ae:=hP.below hb;obtain⟨c0,c1,c2,c3⟩:=ae.box;dsimp only at c0 c1 c2 c3;by_cases W:k<d.length
     ·go_wp2
      clear c0 c1 c2 c3;go_loopw[5] (fun j wx=>∃m:Nat,m≤3∧j=.int .i64 m∧Hid (∀j,j<m→sayM false rs k j=true)∧Below w2.heap.size w2 wx) (fun j _=>3-(intOf j).toNat)
      case atStart=>exact⟨0,S _,rfl,fun j hj=>absurd hj (Nat.not_lt_zero _),hb⟩
      case round=>
       obtain⟨m,hm,rfl,HB,y⟩:=hrel;by_cases A:m<3
       ·have hs:=N k m _ (hP.below y) W A;have HY:Hid (sayM false rs k m=false→E=10):=fun h=>by rw[D.out,←aa.out,q2m (by rw[aa.out];exact W) A h];rfl
        have HN:Hid (sayM false rs k m=true→∀j,j<m+1→sayM false rs k j=true):=fun h j hj=>by
         by_cases L:j=m
         ·subst L;exact h
         ·exact HB.out j (by omega)
        clear HB;generalize sayM false rs k m=X at*;have Y:(m:Int)<3:=by omega
        go_wp2_with fail
        refine hs.mono ?_;rintro e w5 ⟨rfl,z⟩;replace y:=y.trans (z.mono y.size);clear hs z
        cases X with
        |false=>
         have E2:Hid (E=10):=HY.out rfl;clear HY HN D
         go_wp2
         go_ret;exact⟨by rw[E2.out];rfl,hB.trans (y.mono hB.size)⟩
        |true=>
         have R:=HN.out rfl;have HR:Hid _:=R;clear HY HN R
         go_wp2
         go_roundw
         case rel=>exact⟨m+1,by omega,by go_num,HR.out,y⟩
         case measure=>simp[intOf];omega
       ·have M:m=3:=by omega
        subst M;have HR:Hid (∀j,j<k+1→q0b false rs j=true):=fun j hj=>by
         by_cases ag:j=k
         ·subst ag;exact(z5f false rs j).2 HB.out
         ·exact HA.out j (by omega)
        clear HA HB
        go_wp2
        go_roundw
        case rel=>exact⟨k+1,by omega,by go_num,HR.out,y⟩
        case measure=>simp[intOf];omega
     ·have ah:k=d.length:=by omega
      subst ah;have I:Hid (E=if z6f rs dec then 0 else 10):=by
       have e:(List.range d.length).all (q0b false rs)=true:=by
        rw[List.all_eq_true];intro x hx;exact HA.out x (List.mem_range.1 hx)
       rw[D.out,e];exact(rfl:_=_)
      clear HA D
      go_wp2
      clear c0 c1 c2 c3;go_loopw[6] (fun j wx=>∃m:Nat,m≤3∧j=.int .i64 m∧Hid (∀j,j<m→endR rs (dec.getD j 0)=true)∧Below w2.heap.size w2 wx) (fun j _=>3-(intOf j).toNat)
      case atStart=>exact⟨0,S _,rfl,fun j hj=>absurd hj (Nat.not_lt_zero _),hb⟩
      case round=>
       obtain⟨m,hm,rfl,HB,y⟩:=hrel;by_cases A:m<3
       ·have hs:=V m _ (hP.below y) A;have HY:Hid (endR rs (dec.getD m 0)=false→E=10):=fun h=>by
         have:z6f rs dec=false:=by
          cases he:z6f rs dec with
          |false=>rfl
          |true=>
           rw[(z2W rs dec).1 he m A]at h;exact absurd h (by decide)
         rw[I.out,this];rfl
        have HN:Hid (endR rs (dec.getD m 0)=true→∀j,j<m+1→endR rs (dec.getD j 0)=true):=fun h j hj=>by
         by_cases L:j=m
         ·subst L;exact h
         ·exact HB.out j (by omega)
        clear HB;generalize endR rs (dec.getD m 0)=X at*;have Y:(m:Int)<3:=by omega
        go_wp2_with fail
        refine hs.mono ?_;rintro e w5 ⟨rfl,z⟩;replace y:=y.trans (z.mono y.size);clear hs z
        cases X with
        |false=>
         have E2:Hid (E=10):=HY.out rfl;clear HY HN I
         go_wp2
         go_ret;exact⟨by rw[E2.out];rfl,hB.trans (y.mono hB.size)⟩
        |true=>
         have R:=HN.out rfl;have HR:Hid _:=R;clear HY HN R
         go_wp2
         go_roundw
         case rel=>exact⟨m+1,by omega,by go_num,HR.out,y⟩
         case measure=>simp[intOf];omega
       ·have M:m=3:=by omega
        subst M;have E2:Hid (E=0):=by rw[I.out,(z2W rs dec).2 HB.out];rfl
        clear HB I
        go_wp2
        go_ret;exact⟨by rw[E2.out];rfl,hB.trans (y.mono hB.size)⟩
 ·have E2:Hid (E=shpF p.e):=Z.out.trans (if_neg h0);have ar:(shpF p.e !=0)=true:=by simpa using h0
  clear Z;generalize shpF p.e=r at*;clear h0
  go_wp2
  go_ret;exact⟨by rw[E2.out];rfl,U⟩
end Go.Proofs.YtjjoahhnkpjolaaGreatDoor
