/- Texts joined,with what the laws reach alone. -/
import Derived.Test.YtljbililjlafcaaGreatDoorILAE
set_option linter.unusedVariables false
set_option linter.unusedSimpArgs false
set_option maxRecDepth 100000
set_option maxHeartbeats 8000000
namespace Go.Proofs.YtljbililjlafcaaGreatDoor
open Go.RowKit Go.BigFrame
theorem q2p{rs:List RoundE}{r n:Nat}(h:proA rs r n≠3)(h2:repA rs r n=3∨mayP (rs.getD r z0D).rep (proA rs r n)=false):proR rs r n=false:=by
 unfold proR;rw[Bool.or_eq_false_iff];refine⟨by simpa using h,?_⟩;rcases h2 with h2|h2
 ·rw[h2];rfl
 ·rw[h2];simp
theorem q0p{rs:List RoundE}{r n:Nat}(h:proA rs r n=3∨(repA rs r n≠3∧mayP (rs.getD r z0D).rep (proA rs r n)=true)):proR rs r n=true:=by
 unfold proR;rw[Bool.or_eq_true];rcases h with h|⟨h1,h2⟩
 ·left;simpa using h
 ·right;rw[h2];simpa using h1
theorem q2q{has:Bool}{rs:List RoundE}{r n:Nat}(h:proR rs r n=false):sayM has rs r n=false:=by
 unfold sayM;rw[h];rfl
theorem z4b{has:Bool}{rs:List RoundE}{r n:Nat}(h:proR rs r n=true)(h2:r=0∨repA rs r n=3):sayM has rs r n=true:=by
 unfold sayM;rw[h,if_pos h2];rfl
theorem q0q{has:Bool}{rs:List RoundE}{r n:Nat}(h:proR rs r n=true)(h2:¬(r=0∨repA rs r n=3)):sayM has rs r n=(q1q rs r n && (has||(repA rs r n==0)||decide (0<cnt 7 (rs.getD (r-1) z0D).pro 1))):=by
 unfold sayM;rw[h,if_neg h2];rfl
theorem z2W{w:World}{v:Value}{zs:List Int}{m:Int}(h:intK.At w v zs)(hv:vf zs m=0)(n:Nat)(hn:n<3):∃a c b off,v=.slice a 3 c∧a=some ⟨b,off,none⟩∧w.cell? ⟨b,off+n,none⟩=some (.int .i64 (zs.getD n 0))∧Row .i64 w a zs:=by
 have hl:=z0P hv;obtain⟨a,c,e⟩:=h.shape;subst e;have hR:=(z0m h).2;obtain⟨b,off,ha,_,hc⟩:=hR n (by omega);exact⟨a,c,b,off,by rw[hl],ha,hc,hR⟩
theorem z9d(b o:Nat)(p:InstQ)(r n:Nat)(w:World)(hP:InstP w b o p)(hr:r<p.rounds.length)(h4:p.rounds.length≤4)(hn:n<3)(hF:z0H (p.rounds.map RoundQ.e)=0):
  Calls Tryz.prog 81 #[.pointer (some ⟨b,o,none⟩),.int .i64 (r:Int),.int .i64 (n:Int)] w fun e w'=>e=.returned (.bool (sayM p.has (p.rounds.map RoundQ.e) r n))∧Below w.heap.size w w':=by
 have hB:Below w.heap.size w w:=Below.refl _ _;obtain⟨has,vb,aH,vr,d,vd,dec⟩:=p;dsimp only at hr h4 hF⊢;have HE:Hid (sayM has (d.map RoundQ.e) r n=sayM has (d.map RoundQ.e) r n):=(rfl:_=_)
 generalize hE:sayM has (d.map RoundQ.e) r n=E at HE⊢;replace HE:Hid (E=sayM has (d.map RoundQ.e) r n):=hE.symm;clear hE;obtain⟨aL,aQ,rfl⟩:∃a c,vr=.slice a d.length c:=hP.rounds.shape;obtain⟨af,ao⟩:=z1t hF r (by rw[List.length_map];exact hr);have ah:=z07 d r hr;rw[ah]at af ao;have af:vf d[r].rep 1=0:=af;have ao:vf d[r].pro 2=0:=ao;generalize ae:d.map RoundQ.e=rs at*;have HQ:Hid (proA rs r n=d[r].pro.getD n 0∧repA rs r n=d[r].rep.getD n 0∧(rs.getD r z0D).rep=d[r].rep):=by
  refine⟨?_,?_,?_⟩
  ·show(rs.getD r z0D).pro.getD n 0=_;rw[ah];rfl
  ·show(rs.getD r z0D).rep.getD n 0=_;rw[ah];rfl
  ·rw[ah];rfl
 obtain⟨rb,ro,aE,aO,hc,aI⟩:=hP.rounds.cell (by decide) r hr;have aF:aL=some ⟨rb,ro,none⟩:=aE;have ax:∀j x,(roundK.cells d[r])[j]?=some x→w.cell? ⟨rb,ro+r*2+j,none⟩=some x:=hc;have r0:=ax 0 (d[r].vr) rfl;have r1:=ax 1 (d[r].vp) rfl;obtain⟨aB,M⟩:intK.At w d[r].vr d[r].rep∧intK.At w d[r].vp d[r].pro:=aI;clear hc ax ah aE;generalize d[r].vr=qv at*;generalize d[r].rep=qr at*;generalize d[r].vp=qw at*;generalize d[r].pro=qp at*;obtain⟨xa,xc,xb,xo,rfl,aJ,az,ar⟩:=z2W aB af n hn;obtain⟨ya,yc,yb,yo,rfl,aK,aA,au⟩:=z2W M ao n hn;have aj:=fun w h=>z6M xa xc qr (qp.getD n 0) w h (by have:=z0P af;omega)
 rw[z0P af]at aj;subst aJ aK;obtain⟨c0,c1,c2,c3⟩:=hP.box;dsimp only at c0 c1 c2 c3;clear aB M;generalize aM:qp.getD n 0=PP at*;generalize aN:qr.getD n 0=RR at*;have L:Hid (RR=repA rs r n):=HQ.out.2.1.symm;have aP:(n:Int)<3:=by omega
 rw[Nat.add_zero]at r0;subst aF;go_enter Tryz.func81,Tryz.ntmps81;by_cases Z:PP=3
 ·have C:Hid (proR rs r n=true):=q0p (Or.inl (by rw[HQ.out.1];exact Z));have ap:(PP !=3)=false:=by simp[Z]
  clear HQ aj au;by_cases ak:r=0
  ·have E2:Hid (E=true):=by rw[HE.out];exact z4b C.out (Or.inl ak)
   subst ak;try simp only[Nat.zero_mul,Nat.add_zero]at r0 r1
   clear HE C
   go_wp2
   go_ret;exact⟨by rw[E2.out];rfl,hB⟩
  ·obtain⟨s,rfl⟩:∃s,r=s+1:=⟨r-1,by omega⟩
   have aD:(((s+1:Nat):Int)==0)=false:=by simp;omega
   by_cases A:repA rs (s+1) n=3
   ·have E2:Hid (E=true):=by rw[HE.out];exact z4b C.out (Or.inr A)
    have I:(RR==3)=true:=by rw[L.out,A];rfl
    clear HE C
    go_wp2
    go_ret;exact⟨by rw[E2.out];rfl,hB⟩
   ·have HS:Hid (E=(q1q rs (s+1) n && (has||(repA rs (s+1) n==0)||decide (0<cnt 7 (rs.getD s z0D).pro 1)))):=by
     rw[HE.out];exact q0q C.out (by omega)
    have I:(RR==3)=false:=by rw[L.out];simpa using A
    have ag:Hid (q1q rs (s+1) n=((proA rs s n !=3) && mayR (rs.getD s z0D).pro (repA rs (s+1) n))):=(rfl:_=_)
    clear HE C;obtain⟨c0,c1,c2,c3⟩:=hP.box;dsimp only at c0 c1 c2 c3;have hs:s<d.length:=by omega
    obtain⟨sb,so,al,aG,am,V⟩:=hP.rounds.cell (by decide) s hs;simp only[Option.some.injEq,Addr.mk.injEq,and_true]at al;obtain⟨rfl,rfl⟩:=al;have U:∀j x,(roundK.cells d[s])[j]?=some x→w.cell? ⟨rb,ro+s*2+j,none⟩=some x:=am;have s1:=U 1 (d[s].vp) rfl;have z:=(z1t hF s (by rw[←ae,List.length_map];exact hs)).2;rw[←ae,z07 d s hs]at z;have z:vf d[s].pro 2=0:=z;have HA:Hid (proA rs s n=d[s].pro.getD n 0∧(rs.getD s z0D).pro=d[s].pro):=by
     have:rs.getD s z0D=RoundQ.e d[s]:=by rw[←ae];exact z07 d s hs
     refine⟨?_,?_⟩
     ·show(rs.getD s z0D).pro.getD n 0=_;rw[this];rfl
     ·rw[this];rfl
    have T:intK.At w d[s].vp d[s].pro:=V.2;clear am U V;generalize d[s].vp=qw at*;generalize d[s].pro=qp at*;obtain⟨pa,pc,pb,po,rfl,ay,ad,W⟩:=z2W T z n hn;have J:=fun w h=>z3E pa pc qp RR w h (by have:=z0P z;omega)
    have D:=fun w h=>z0B pa pc qp 7 1 w h (z0P z) rfl
    rw[z0P z]at J;have y:Hid (E=(((qp.getD n 0 !=3) && mayR qp RR) && (has||(RR==0)||decide (0<cnt 7 qp 1)))):=by
     rw[HS.out,ag.out,HA.out.1,HA.out.2,←L.out];exact(rfl:_=_)
    subst ay;clear HS ag HA T z;generalize qp.getD n 0=AA at*;by_cases hA:AA=3
    ·have E2:Hid (E=false):=by rw[y.out,hA];rfl
     have av:(AA==3)=true:=by simp[hA]
     clear y J D hA
     go_wp2
     go_ret;exact⟨by rw[E2.out];rfl,hB⟩
    ·have av:(AA==3)=false:=by simpa using hA
     have M:(AA !=3)=true:=by simpa using hA
     rw[M]at y;clear hA M;have O:=J w W;generalize mayR qp RR=Y at*
     go_wp2_with fail
     refine O.mono ?_;rintro e w5 ⟨rfl,aa⟩;have aw:=hP.below aa;replace hB:=hB.trans (aa.mono hB.size);have ab:=W.below aa;clear J O c0 c1 c2 c3 s1 ad;obtain⟨c0,c1,c2,c3⟩:=aw.box;dsimp only at c0 c1 c2 c3
     cases Y with
     |false=>
      have E2:Hid (E=false):=by rw[y.out];rfl
      clear y D
      go_wp2
      go_ret;exact⟨by rw[E2.out];rfl,hB⟩
     |true=>
      cases has with
      |true=>
       have E2:Hid (E=true):=by rw[y.out];rfl
       clear y D
       go_wp2
       go_ret;exact⟨by rw[E2.out];rfl,hB⟩
      |false=>
       by_cases hz:RR=0
       ·have E2:Hid (E=true):=by rw[y.out,hz];rfl
        have an:(RR==0)=true:=by simp[hz]
        clear y D hz
        go_wp2
        go_ret;exact⟨by rw[E2.out];rfl,hB⟩
       ·have an:(RR==0)=false:=by simpa using hz
        rw[an]at y;have N:=D w5 ab;generalize cnt 7 qp 1=CC at*;clear hz D
        go_wp2_with fail
        refine N.mono ?_;rintro e w6 ⟨rfl,ai⟩;replace hB:=hB.trans (ai.mono hB.size);clear N ai c0 c1 c2 c3;have E2:Hid (E=decide (0<CC)):=show _=_ by rw[y.out];simp
        clear y
        go_wp2
        go_ret;exact⟨by rw[E2.out];rfl,hB⟩
 ·have ap:(PP !=3)=true:=by simpa using Z
  by_cases A:RR=3
  ·have E2:Hid (E=false):=by rw[HE.out];exact q2q (q2p (by rw[HQ.out.1];exact Z) (Or.inl (by rw[←L.out];exact A)))
   have I:(RR==3)=true:=by simp[A]
   clear HE HQ aj A Z
   go_wp2
   go_ret;exact⟨by rw[E2.out];rfl,hB⟩
  ·have I:(RR==3)=false:=by simpa using A
   have HX:Hid (mayP qr PP=false→E=false):=fun hx=>by rw[HE.out];exact q2q (q2p (by rw[HQ.out.1];exact Z) (Or.inr (by rw[HQ.out.2.2,HQ.out.1];exact hx)))
   have HY:Hid (mayP qr PP=true→proR rs r n=true):=fun hx=>q0p (Or.inr ⟨by rw[←L.out];exact A,by rw[HQ.out.2.2,HQ.out.1];exact hx⟩)
   have aq:=aj w ar;generalize mayP qr PP=X at*;clear A Z HQ aj
   go_wp2_with fail
   refine aq.mono ?_;rintro e w1 ⟨rfl,aC⟩;replace hP:=hP.below aC;replace hB:=hB.trans (aC.mono hB.size);clear aq c0 c1 c2 c3 r0 r1 az aA au ar
   cases X with
   |false=>
    have E2:Hid (E=false):=HX.out rfl;clear HX HY HE
    go_wp2
    go_ret;exact⟨by rw[E2.out];rfl,hB⟩
   |true=>
    have C:Hid (proR rs r n=true):=HY.out rfl;clear HX HY I ap;by_cases ak:r=0
    ·have E2:Hid (E=true):=by rw[HE.out];exact z4b C.out (Or.inl ak)
     subst ak;try simp only[Nat.zero_mul,Nat.add_zero]at r0 r1
     clear HE C
     go_wp2
     go_ret;exact⟨by rw[E2.out];rfl,hB⟩
    ·obtain⟨s,rfl⟩:∃s,r=s+1:=⟨r-1,by omega⟩
     have aD:(((s+1:Nat):Int)==0)=false:=by simp;omega
     by_cases A:repA rs (s+1) n=3
     ·have E2:Hid (E=true):=by rw[HE.out];exact z4b C.out (Or.inr A)
      have I:(RR==3)=true:=by rw[L.out,A];rfl
      clear HE C
      go_wp2
      go_ret;exact⟨by rw[E2.out];rfl,hB⟩
     ·have HS:Hid (E=(q1q rs (s+1) n && (has||(repA rs (s+1) n==0)||decide (0<cnt 7 (rs.getD s z0D).pro 1)))):=by
       rw[HE.out];exact q0q C.out (by omega)
      have I:(RR==3)=false:=by rw[L.out];simpa using A
      have ag:Hid (q1q rs (s+1) n=((proA rs s n !=3) && mayR (rs.getD s z0D).pro (repA rs (s+1) n))):=(rfl:_=_)
      clear HE C;obtain⟨c0,c1,c2,c3⟩:=hP.box;dsimp only at c0 c1 c2 c3;have hs:s<d.length:=by omega
      obtain⟨sb,so,al,aG,am,V⟩:=hP.rounds.cell (by decide) s hs;simp only[Option.some.injEq,Addr.mk.injEq,and_true]at al;obtain⟨rfl,rfl⟩:=al;have U:∀j x,(roundK.cells d[s])[j]?=some x→w1.cell? ⟨rb,ro+s*2+j,none⟩=some x:=am;have s1:=U 1 (d[s].vp) rfl;have z:=(z1t hF s (by rw[←ae,List.length_map];exact hs)).2;rw[←ae,z07 d s hs]at z;have z:vf d[s].pro 2=0:=z;have HA:Hid (proA rs s n=d[s].pro.getD n 0∧(rs.getD s z0D).pro=d[s].pro):=by
       have:rs.getD s z0D=RoundQ.e d[s]:=by rw[←ae];exact z07 d s hs
       refine⟨?_,?_⟩
       ·show(rs.getD s z0D).pro.getD n 0=_;rw[this];rfl
       ·rw[this];rfl
      have T:intK.At w1 d[s].vp d[s].pro:=V.2;clear am U V;generalize d[s].vp=qw at*;generalize d[s].pro=qp at*;obtain⟨pa,pc,pb,po,rfl,ay,ad,W⟩:=z2W T z n hn;have J:=fun w h=>z3E pa pc qp RR w h (by have:=z0P z;omega)
      have D:=fun w h=>z0B pa pc qp 7 1 w h (z0P z) rfl
      rw[z0P z]at J;have y:Hid (E=(((qp.getD n 0 !=3) && mayR qp RR) && (has||(RR==0)||decide (0<cnt 7 qp 1)))):=by
       rw[HS.out,ag.out,HA.out.1,HA.out.2,←L.out];exact(rfl:_=_)
      subst ay;clear HS ag HA T z;generalize qp.getD n 0=AA at*;by_cases hA:AA=3
      ·have E2:Hid (E=false):=by rw[y.out,hA];rfl
       have av:(AA==3)=true:=by simp[hA]
       clear y J D hA
       go_wp2
       go_ret;exact⟨by rw[E2.out];rfl,hB⟩
      ·have av:(AA==3)=false:=by simpa using hA
       have M:(AA !=3)=true:=by simpa using hA
       rw[M]at y;clear hA M;have O:=J w1 W;generalize mayR qp RR=Y at*
       go_wp2_with fail
       refine O.mono ?_;rintro e w5 ⟨rfl,aa⟩;have aw:=hP.below aa;replace hB:=hB.trans (aa.mono hB.size);have ab:=W.below aa;clear J O c0 c1 c2 c3 s1 ad;obtain⟨c0,c1,c2,c3⟩:=aw.box;dsimp only at c0 c1 c2 c3
       cases Y with
       |false=>
        have E2:Hid (E=false):=by rw[y.out];rfl
        clear y D
        go_wp2
        go_ret;exact⟨by rw[E2.out];rfl,hB⟩
       |true=>
        cases has with
        |true=>
         have E2:Hid (E=true):=by rw[y.out];rfl
         clear y D
         go_wp2
         go_ret;exact⟨by rw[E2.out];rfl,hB⟩
        |false=>
         by_cases hz:RR=0
         ·have E2:Hid (E=true):=by rw[y.out,hz];rfl
          have an:(RR==0)=true:=by simp[hz]
          clear y D hz
          go_wp2
          go_ret;exact⟨by rw[E2.out];rfl,hB⟩
         ·have an:(RR==0)=false:=by simpa using hz
          rw[an]at y;have N:=D w5 ab;generalize cnt 7 qp 1=CC at*;clear hz D
          go_wp2_with fail
          refine N.mono ?_;rintro e w6 ⟨rfl,ai⟩;replace hB:=hB.trans (ai.mono hB.size);clear N ai c0 c1 c2 c3;have E2:Hid (E=decide (0<CC)):=show _=_ by rw[y.out];simp
          clear y
          go_wp2
          go_ret;exact⟨by rw[E2.out];rfl,hB⟩
theorem q2r{rs:List RoundE}{v:Int}{k:Nat}(hk:k<rs.length)(h:2≤cnt 7 (rs.getD k z0D).pro v):agr rs v=true:=by
 unfold agr;rw[List.any_eq_true];refine⟨rs[k],List.getElem_mem hk,?_⟩;have e:rs.getD k z0D=rs[k]:=by simp[List.getD,hk]
 rw[e]at h;simpa using h
theorem z8u{rs:List RoundE}{v:Int}(h:∀k,k<rs.length→cnt 7 (rs.getD k z0D).pro v<2):agr rs v=false:=by
 unfold agr;rw[List.any_eq_false];intro x hx;obtain⟨k,hk,rfl⟩:=List.getElem_of_mem hx;have e:rs.getD k z0D=rs[k]:=by simp[List.getD,hk]
 have:=h k hk;rw[e]at this;simpa using this
theorem z7V(b o:Nat)(p:InstQ)(n:Nat)(w:World)(hP:InstP w b o p)(h4:p.rounds.length≤4)(hn:n<3)(hF:z0H (p.rounds.map RoundQ.e)=0)(hD:vf p.dec 1=0):
  Calls Tryz.prog 82 #[.pointer (some ⟨b,o,none⟩),.int .i64 (n:Int)] w fun e w'=>e=.returned (.bool (endR (p.rounds.map RoundQ.e) (p.dec.getD n 0)))∧Below w.heap.size w w':=by
 obtain⟨has,vb,Y,vr,d,vd,dec⟩:=p;dsimp only at h4 hF hD⊢;have D:intK.At w vd dec:=hP.dec;obtain⟨da,dc,db,ae,rfl,Z,J,N⟩:=z2W D hD n hn;subst Z;generalize hE:endR (d.map RoundQ.e) (dec.getD n 0)=E;have HE:Hid (E=((dec.getD n 0==3)||agr (d.map RoundQ.e) (dec.getD n 0))):=hE.symm;clear hE D N;generalize dec.getD n 0=v at*;obtain⟨ra,rk,rfl⟩:∃a c,vr=.slice a d.length c:=hP.rounds.shape;obtain⟨c0,c1,c2,c3⟩:=hP.box;dsimp only at c0 c1 c2 c3;have ag:(n:Int)<3:=by omega
 by_cases hv:v=3
 ·have E2:Hid (E=true):=by rw[HE.out,hv];rfl
  have X:(v==3)=true:=by simp[hv]
  clear HE hv;go_enter Tryz.func82,Tryz.ntmps82
  go_wp2
  go_ret;exact⟨by rw[E2.out];rfl,Below.refl _ _⟩
 ·have X:(v==3)=false:=by simpa using hv
  have A:Hid (E=agr (d.map RoundQ.e) v):=by rw[HE.out,X];exact(rfl:_=_)
  clear HE hv;go_enter Tryz.func82,Tryz.ntmps82
  go_wp2
  clear c0 c1 c2 c3 J;go_loopw[6] (fun j wr=>∃k:Nat,k≤d.length∧j=.int .i64 k∧Hid (∀j,j<k→cnt 7 ((d.map RoundQ.e).getD j z0D).pro v<2)∧Below w.heap.size w wr) (fun j _=>d.length-(intOf j).toNat)
  case atStart=>exact⟨0,Nat.zero_le _,rfl,fun j hj=>absurd hj (Nat.not_lt_zero _),Below.refl _ _⟩
  case round=>
   obtain⟨k,hk,rfl,HA,hb⟩:=hrel;have L:=hP.below hb;obtain⟨c0,c1,c2,c3⟩:=L.box;dsimp only at c0 c1 c2 c3;by_cases y:k<d.length
   ·obtain⟨rb,ro,rfl,af,hc,W⟩:=L.rounds.cell (by decide) k y;have U:∀j x,(roundK.cells d[k])[j]?=some x→wr.cell? ⟨rb,ro+k*2+j,none⟩=some x:=hc;have r1:=U 1 (d[k].vp) rfl;have z:=(z1t hF k (by rw[List.length_map];exact y)).2;have HY:Hid (2≤cnt 7 d[k].pro v→E=true):=fun h=>by
     rw[A.out];exact q2r (k:=k) (by rw[List.length_map];exact y) (by rw[z07 d k y];exact h)
    have HN:Hid (cnt 7 d[k].pro v<2→∀j,j<k+1→cnt 7 ((d.map RoundQ.e).getD j z0D).pro v<2):=by
     intro h j hj;by_cases aa:j=k
     ·subst aa;rw[z07 d j y];exact h
     ·exact HA.out j (by omega)
    rw[z07 d k y]at z;have z:vf d[k].pro 2=0:=z;have O:intK.At wr d[k].vp d[k].pro:=W.2;clear hc U W HA;generalize d[k].vp=qw at*;generalize d[k].pro=qp at*;obtain⟨pa,pc,pb,po,rfl,ad,M,I⟩:=z2W O z 0 (by omega);subst ad;have V:=z0B (some ⟨pb,po,none⟩) pc qp 7 v wr I (z0P z) rfl;generalize cnt 7 qp v=C at*;clear O z M I
    go_wp2_with fail
    refine V.mono ?_;rintro e w2 ⟨rfl,T⟩;replace hb:=hb.trans (T.mono hb.size);clear V c0 c1 c2 c3 r1 T L;by_cases hC:2≤C
    ·have E2:Hid (E=true):=HY.out hC;clear HY HN A
     go_wp2
     go_ret;exact⟨by rw[E2.out];rfl,hb⟩
    ·have R:=HN.out (by omega);have HR:Hid _:=R;clear HY HN R
     go_wp2
     go_roundw
     case rel=>exact⟨k+1,by omega,by go_num,HR.out,hb⟩
     case measure=>simp[intOf];omega
   ·have ab:k=d.length:=by omega
    subst ab;have E2:Hid (E=false):=by rw[A.out];exact z8u (by simpa using HA.out)
    clear HA A
    go_wp2
    go_ret;exact⟨by rw[E2.out];rfl,hb⟩
theorem z1c{x:InstE}(h:shpF x=0):(1≤x.rounds.length∧x.rounds.length≤4)∧z0H x.rounds=0∧vf x.dec 1=0∧(x.has=false→x.batch=[])∧(x.has=true→batF x.batch=0):=by
 unfold shpF at h;by_cases h1:x.has=false∧0<x.batch.length
 ·rw[if_pos h1]at h;simp at h
 rw[if_neg h1]at h;by_cases h2:x.has=true∧batF x.batch≠0
 ·rw[if_pos h2]at h;exact absurd h h2.2
 rw[if_neg h2]at h;by_cases h3:x.rounds.length<1∨4<x.rounds.length
 ·rw[if_pos h3]at h;simp at h
 rw[if_neg h3]at h;by_cases h4:z0H x.rounds=0
 ·rw[if_pos h4]at h;refine⟨by omega,h4,h,fun hh=>?_,fun hh=>?_⟩
  ·cases hb:x.batch with
   |nil=>rfl
   |cons _ _=>exact absurd ⟨hh,by rw[hb];simp⟩ h1
  ·by_cases hb:batF x.batch=0
   ·exact hb
   ·exact absurd ⟨hh,hb⟩ h2
 ·rw[if_neg h4]at h;exact absurd h h4
theorem q0r{has:Bool}{rs:List RoundE}{r n:Nat}(hr:r<rs.length)(hn:n<3)(h:sayM has rs r n=false):(List.range rs.length).all (z8o has rs)=false:=by
 rw[List.all_eq_false];refine⟨r,List.mem_range.2 hr,?_⟩;intro e;rw[(z39 has rs r).1 e n hn]at h;exact absurd h (by decide)
theorem z2j(rs:List RoundE)(dec:List Int):z45 rs dec=true↔∀n,n<3→endR rs (dec.getD n 0)=true:=by
 unfold z45;simp only[Bool.and_eq_true];constructor
 ·rintro⟨⟨h0,h1⟩,h2⟩ n hn;have:n=0∨n=1∨n=2:=by omega
  rcases this with rfl|rfl|rfl
  ·exact h0
  ·exact h1
  ·exact h2
 ·intro h;exact⟨⟨h 0 (by omega),h 1 (by omega)⟩,h 2 (by omega)⟩
theorem q3Z{x:InstE}(h:shpF x=0):insF x=if q4v x then 0 else 10:=by
 obtain⟨h1,h2,h3,_⟩:=z1c h;unfold insF;rw[if_pos h,q1I h2 (by omega)]
theorem z7W(b o:Nat)(p:InstQ)(w:World)(hP:InstP w b o p)(hl:p.n≤1048576):
  Calls Tryz.prog 53 #[.pointer (some ⟨b,o,none⟩)] w fun e w'=>e=.returned (.int .i64 (insF p.e))∧Below w.heap.size w w':=by
 have ao:=z7S b o p w hP hl;generalize hE:insF p.e=E;have Z:Hid (E=insF p.e):=hE.symm;clear hE;go_enter Tryz.func53,Tryz.ntmps53
 go_wp2_with fail
 refine ao.mono ?_;rintro e w1 ⟨rfl,U⟩;replace hP:=hP.below U;clear ao;by_cases h0:shpF p.e=0
 ·obtain⟨⟨h1,h4⟩,hF,hD,_,_⟩:=z1c h0;have HE:Hid (E=if q4v p.e then 0 else 10):=Z.out.trans (q3Z h0);rw[h0];clear h0;obtain⟨has,vb,T,vr,d,vd,dec⟩:=p;replace hF:z0H (d.map RoundQ.e)=0:=hF;replace hD:vf dec 1=0:=hD;replace h1:1≤(d.map RoundQ.e).length:=h1;replace h4:(d.map RoundQ.e).length≤4:=h4;rw[List.length_map]at h1 h4;have ad:Hid (E=if(has|| !decide (0<cnt 7 ((d.map RoundQ.e).getD 0 z0D).rep 1)) && (List.range (d.map RoundQ.e).length).all (z8o has (d.map RoundQ.e)) && z45 (d.map RoundQ.e) dec then 0 else 10):=HE.out;clear HE Z;have N:=fun r n w hP hr hn=>z9d b o ⟨has,vb,T,vr,d,vd,dec⟩ r n w hP hr h4 hn hF
  have V:=fun n w hP hn=>z7V b o ⟨has,vb,T,vr,d,vd,dec⟩ n w hP h4 hn hF hD
  dsimp only at N V;obtain⟨ra,rk,rfl⟩:∃a c,vr=.slice a d.length c:=hP.rounds.shape;obtain⟨rb,ro,rfl,av,hc,an⟩:=hP.rounds.cell (by decide) 0 (show 0<d.length by omega);have am:∀j x,(roundK.cells d[0])[j]?=some x→w1.cell? ⟨rb,ro+0*2+j,none⟩=some x:=hc;have r0:=am 0 (d[0].vr) rfl;have O:=(z1t hF 0 (by rw[List.length_map];omega)).1;rw[z07 d 0 (by omega)]at O ad;have O:vf d[0].rep 1=0:=O;have J:Hid (E=if(has|| !decide (0<cnt 7 d[0].rep 1)) && (List.range (d.map RoundQ.e).length).all (z8o has (d.map RoundQ.e)) && z45 (d.map RoundQ.e) dec then 0 else 10):=ad.out;clear ad;have ak:intK.At w1 d[0].vr d[0].rep:=an.1;clear hc am an;generalize d[0].vr=qv at*;generalize d[0].rep=qr at*;obtain⟨xa,xc,xb,xo,rfl,aq,aj,ab⟩:=z2W ak O 0 (by omega);subst aq;have af:=z0B (some ⟨xb,xo,none⟩) xc qr 7 1 w1 ab (z0P O) rfl;clear aj ab ak O;generalize cnt 7 qr 1=C at*;obtain⟨c0,c1,c2,c3⟩:=hP.box;dsimp only at c0 c1 c2 c3;simp only[Nat.zero_mul,Nat.add_zero]at r0;have au:(0:Int)<d.length:=by omega
  generalize ap:d.map RoundQ.e=rs at*;have ai:rs.length=d.length:=by rw[←ap,List.length_map]
  rw[ai]at J;have aa:Hid (rs.length=d.length):=ai;clear ai
  cases has with
  |true=>
   have D:Hid (E=if(List.range d.length).all (z8o true rs) && z45 rs dec then 0 else 10):=by rw[J.out,Bool.true_or,Bool.true_and];exact(rfl:_=_)
   have hB:=U;clear J af
   go_wp2
   clear c0 c1 c2 c3 r0;go_loopw[4] (fun j wr=>∃k:Nat,k≤d.length∧j=.int .i64 k∧Hid (∀j,j<k→z8o true rs j=true)∧Below w1.heap.size w1 wr) (fun j _=>d.length-(intOf j).toNat)
   case atStart=>exact⟨0,Nat.zero_le _,rfl,fun j hj=>absurd hj (Nat.not_lt_zero _),Below.refl _ _⟩
   case round=>
    obtain⟨k,hk,rfl,HA,hb⟩:=hrel;have ae:=hP.below hb;obtain⟨c0,c1,c2,c3⟩:=ae.box;dsimp only at c0 c1 c2 c3;by_cases W:k<d.length
    ·go_wp2
     clear c0 c1 c2 c3;go_loopw[5] (fun j wx=>∃m:Nat,m≤3∧j=.int .i64 m∧Hid (∀j,j<m→sayM true rs k j=true)∧Below w1.heap.size w1 wx) (fun j _=>3-(intOf j).toNat)
     case atStart=>exact⟨0,Nat.zero_le _,rfl,fun j hj=>absurd hj (Nat.not_lt_zero _),hb⟩
     case round=>
      obtain⟨m,hm,rfl,HB,y⟩:=hrel;by_cases A:m<3
      ·have hs:=N k m _ (hP.below y) W A;have HY:Hid (sayM true rs k m=false→E=10):=fun h=>by rw[D.out,←aa.out,q0r (by rw[aa.out];exact W) A h];rfl
       have HN:Hid (sayM true rs k m=true→∀j,j<m+1→sayM true rs k j=true):=fun h j hj=>by
        by_cases L:j=m
        ·subst L;exact h
        ·exact HB.out j (by omega)
       clear HB;generalize sayM true rs k m=X at*;have Y:(m:Int)<3:=by omega
       go_wp2_with fail
       refine hs.mono ?_;rintro e w5 ⟨rfl,z⟩;replace y:=y.trans (z.mono y.size);clear hs z
       cases X with
       |false=>
        have E2:Hid (E=10):=HY.out rfl;clear HY HN D
        go_wp2
        go_ret;exact⟨by rw[E2.out];rfl,hB.trans (y.mono hB.size)⟩
       |true=>
        have R:=HN.out rfl;have HR:Hid _:=R;clear HY HN R
        go_wp2
        go_roundw
        case rel=>exact⟨m+1,by omega,by go_num,HR.out,y⟩
        case measure=>simp[intOf];omega
      ·have M:m=3:=by omega
       subst M;have HR:Hid (∀j,j<k+1→z8o true rs j=true):=fun j hj=>by
        by_cases ag:j=k
        ·subst ag;exact(z39 true rs j).2 HB.out
        ·exact HA.out j (by omega)
       clear HA HB
       go_wp2
       go_roundw
       case rel=>exact⟨k+1,by omega,by go_num,HR.out,y⟩
       case measure=>simp[intOf];omega
    ·have ah:k=d.length:=by omega
     subst ah;have I:Hid (E=if z45 rs dec then 0 else 10):=by
      have e:(List.range d.length).all (z8o true rs)=true:=by
       rw[List.all_eq_true];intro x hx;exact HA.out x (List.mem_range.1 hx)
      rw[D.out,e];exact(rfl:_=_)
     clear HA D
     go_wp2
     clear c0 c1 c2 c3;go_loopw[6] (fun j wx=>∃m:Nat,m≤3∧j=.int .i64 m∧Hid (∀j,j<m→endR rs (dec.getD j 0)=true)∧Below w1.heap.size w1 wx) (fun j _=>3-(intOf j).toNat)
     case atStart=>exact⟨0,Nat.zero_le _,rfl,fun j hj=>absurd hj (Nat.not_lt_zero _),hb⟩
     case round=>
      obtain⟨m,hm,rfl,HB,y⟩:=hrel;by_cases A:m<3
      ·have hs:=V m _ (hP.below y) A;have HY:Hid (endR rs (dec.getD m 0)=false→E=10):=fun h=>by
        have:z45 rs dec=false:=by
         cases he:z45 rs dec with
         |false=>rfl
         |true=>
          rw[(z2j rs dec).1 he m A]at h;exact absurd h (by decide)
        rw[I.out,this];rfl
       have HN:Hid (endR rs (dec.getD m 0)=true→∀j,j<m+1→endR rs (dec.getD j 0)=true):=fun h j hj=>by
        by_cases L:j=m
        ·subst L;exact h
        ·exact HB.out j (by omega)
       clear HB;generalize endR rs (dec.getD m 0)=X at*;have Y:(m:Int)<3:=by omega
       go_wp2_with fail
       refine hs.mono ?_;rintro e w5 ⟨rfl,z⟩;replace y:=y.trans (z.mono y.size);clear hs z
       cases X with
       |false=>
        have E2:Hid (E=10):=HY.out rfl;clear HY HN I
        go_wp2
        go_ret;exact⟨by rw[E2.out];rfl,hB.trans (y.mono hB.size)⟩
       |true=>
        have R:=HN.out rfl;have HR:Hid _:=R;clear HY HN R
        go_wp2
        go_roundw
        case rel=>exact⟨m+1,by omega,by go_num,HR.out,y⟩
        case measure=>simp[intOf];omega
      ·have M:m=3:=by omega
       subst M;have E2:Hid (E=0):=by rw[I.out,(z2j rs dec).2 HB.out];rfl
       clear HB I
       go_wp2
       go_ret;exact⟨by rw[E2.out];rfl,hB.trans (y.mono hB.size)⟩
  |false=>
   go_wp2_with fail
   refine af.mono ?_;rintro e w2 ⟨rfl,al⟩;replace hP:=hP.below al;have hB:=U.trans (al.mono U.size);clear af c0 c1 c2 c3 r0;by_cases hC:0<C
   ·have E2:Hid (E=10):=show _=_ by rw[J.out];simp[hC]
    clear J
    go_wp2
    go_ret;exact⟨by rw[E2.out];rfl,hB⟩
   ·have D:Hid (E=if(List.range d.length).all (z8o false rs) && z45 rs dec then 0 else 10):=show _=_ by rw[J.out];simp[hC]
    clear J
    go_wp2
    go_loopw[4] (fun j wr=>∃k:Nat,k≤d.length∧j=.int .i64 k∧Hid (∀j,j<k→z8o false rs j=true)∧Below w2.heap.size w2 wr) (fun j _=>d.length-(intOf j).toNat)
    case atStart=>exact⟨0,Nat.zero_le _,rfl,fun j hj=>absurd hj (Nat.not_lt_zero _),Below.refl _ _⟩
    case round=>
     obtain⟨k,hk,rfl,HA,hb⟩:=hrel;have ae:=hP.below hb;obtain⟨c0,c1,c2,c3⟩:=ae.box;dsimp only at c0 c1 c2 c3;by_cases W:k<d.length
     ·go_wp2
      clear c0 c1 c2 c3;go_loopw[5] (fun j wx=>∃m:Nat,m≤3∧j=.int .i64 m∧Hid (∀j,j<m→sayM false rs k j=true)∧Below w2.heap.size w2 wx) (fun j _=>3-(intOf j).toNat)
      case atStart=>exact⟨0,Nat.zero_le _,rfl,fun j hj=>absurd hj (Nat.not_lt_zero _),hb⟩
      case round=>
       obtain⟨m,hm,rfl,HB,y⟩:=hrel;by_cases A:m<3
       ·have hs:=N k m _ (hP.below y) W A;have HY:Hid (sayM false rs k m=false→E=10):=fun h=>by rw[D.out,←aa.out,q0r (by rw[aa.out];exact W) A h];rfl
        have HN:Hid (sayM false rs k m=true→∀j,j<m+1→sayM false rs k j=true):=fun h j hj=>by
         by_cases L:j=m
         ·subst L;exact h
         ·exact HB.out j (by omega)
        clear HB;generalize sayM false rs k m=X at*;have Y:(m:Int)<3:=by omega
        go_wp2_with fail
        refine hs.mono ?_;rintro e w5 ⟨rfl,z⟩;replace y:=y.trans (z.mono y.size);clear hs z
        cases X with
        |false=>
         have E2:Hid (E=10):=HY.out rfl;clear HY HN D
         go_wp2
         go_ret;exact⟨by rw[E2.out];rfl,hB.trans (y.mono hB.size)⟩
        |true=>
         have R:=HN.out rfl;have HR:Hid _:=R;clear HY HN R
         go_wp2
         go_roundw
         case rel=>exact⟨m+1,by omega,by go_num,HR.out,y⟩
         case measure=>simp[intOf];omega
       ·have M:m=3:=by omega
        subst M;have HR:Hid (∀j,j<k+1→z8o false rs j=true):=fun j hj=>by
         by_cases ag:j=k
         ·subst ag;exact(z39 false rs j).2 HB.out
         ·exact HA.out j (by omega)
        clear HA HB
        go_wp2
        go_roundw
        case rel=>exact⟨k+1,by omega,by go_num,HR.out,y⟩
        case measure=>simp[intOf];omega
     ·have ah:k=d.length:=by omega
      subst ah;have I:Hid (E=if z45 rs dec then 0 else 10):=by
       have e:(List.range d.length).all (z8o false rs)=true:=by
        rw[List.all_eq_true];intro x hx;exact HA.out x (List.mem_range.1 hx)
       rw[D.out,e];exact(rfl:_=_)
      clear HA D
      go_wp2
      clear c0 c1 c2 c3;go_loopw[6] (fun j wx=>∃m:Nat,m≤3∧j=.int .i64 m∧Hid (∀j,j<m→endR rs (dec.getD j 0)=true)∧Below w2.heap.size w2 wx) (fun j _=>3-(intOf j).toNat)
      case atStart=>exact⟨0,Nat.zero_le _,rfl,fun j hj=>absurd hj (Nat.not_lt_zero _),hb⟩
      case round=>
       obtain⟨m,hm,rfl,HB,y⟩:=hrel;by_cases A:m<3
       ·have hs:=V m _ (hP.below y) A;have HY:Hid (endR rs (dec.getD m 0)=false→E=10):=fun h=>by
         have:z45 rs dec=false:=by
          cases he:z45 rs dec with
          |false=>rfl
          |true=>
           rw[(z2j rs dec).1 he m A]at h;exact absurd h (by decide)
         rw[I.out,this];rfl
        have HN:Hid (endR rs (dec.getD m 0)=true→∀j,j<m+1→endR rs (dec.getD j 0)=true):=fun h j hj=>by
         by_cases L:j=m
         ·subst L;exact h
         ·exact HB.out j (by omega)
        clear HB;generalize endR rs (dec.getD m 0)=X at*;have Y:(m:Int)<3:=by omega
        go_wp2_with fail
        refine hs.mono ?_;rintro e w5 ⟨rfl,z⟩;replace y:=y.trans (z.mono y.size);clear hs z
        cases X with
        |false=>
         have E2:Hid (E=10):=HY.out rfl;clear HY HN I
         go_wp2
         go_ret;exact⟨by rw[E2.out];rfl,hB.trans (y.mono hB.size)⟩
        |true=>
         have R:=HN.out rfl;have HR:Hid _:=R;clear HY HN R
         go_wp2
         go_roundw
         case rel=>exact⟨m+1,by omega,by go_num,HR.out,y⟩
         case measure=>simp[intOf];omega
       ·have M:m=3:=by omega
        subst M;have E2:Hid (E=0):=by rw[I.out,(z2j rs dec).2 HB.out];rfl
        clear HB I
        go_wp2
        go_ret;exact⟨by rw[E2.out];rfl,hB.trans (y.mono hB.size)⟩
 ·have E2:Hid (E=shpF p.e):=Z.out.trans (if_neg h0);have ar:(shpF p.e !=0)=true:=by simpa using h0
  clear Z;generalize shpF p.e=r at*;clear h0
  go_wp2
  go_ret;exact⟨by rw[E2.out];rfl,U⟩
section
variable {ops:Array Oper} {rest:List Oper} {op:Oper} {a:Act} {w:World} {Q:Exit→Act→World→Prop}
theorem z1n(hw:Region.wanted op (yielded ops a.tmps)=true)(ty:TypeId)(x y:Operand)(ho:op.op=.store ty x y)
  (g:Nat) (c:Array Value) (hx:a.eval x=.pointer (some ⟨g,0,none⟩)) (hy:a.eval y=.agg c)
  (t:TypeId) (d:Array Value) (hg:w.heap[g]?=some (.cells d t (0,0))) (hi:(Tryz.prog.info? ty).map (·.size)=some c.size)
  (z:d.size=c.size) (h1:c.all (·.oneCell')=true)
  (h:wpList Tryz.prog ops Q rest (a.put op.dst undef) (w.setRow g c)):wpList Tryz.prog ops Q (op::rest) a w:=by
 simp only[wpList];rw[if_pos hw];exact Or.inl (wp_store_row ty x y ho g c hx hy t d hg hi z h1 h)
end
theorem Blk.row{w:World}{b:Nat}{t:TypeId}{old:Array Value}(h:Blk w b t old)(cs:Array Value):Blk (w.setRow b cs) b t cs:=setRow_heap w b old cs t _ h
theorem z0x{B:Nat}{a w:World}(h:Below B a w){g:Nat}(hg:B≤g)(cs:Array Value):Below B a (w.setRow g cs):=
 ⟨h.os,h.tape,h.output,by rw[setRow_size];exact h.size,fun k hk=>(setRow_other w g k cs (by omega)).trans (h.block k hk)⟩
theorem q2s(zs:List Int):(zs.map iv).toArray.all (·.oneCell')=true:=all_oneCell_toArray (fun v hv=>by obtain⟨z,_,rfl⟩:=List.mem_map.1 hv;rfl)
theorem q0s{q:RoundE}(h:q.rep.length=3∧q.pro.length=3):∀j v,(q.pro.map iv)[j]?=some v→(z1f q)[3+j]?=some v:=by
 intro j v hv;obtain⟨hj,rfl⟩:=row_get h.2 hv;exact z8s h j hj
theorem z6S(rs:List RoundE)(v:Int)(w:World)(h:Wel rs)(h4:rs.length≤4):
  Calls Tryz.prog 143 #[.agg (rndC rs).toArray,.int .i64 v] w fun e w'=>e=.returned (.bool (agr rs v))∧Below w.heap.size w w':=by
 have B:=Blk.new w 147 (rndC rs).toArray;have z:Below w.heap.size w (w.alloc (.cells (rndC rs).toArray 147)):=by go_grown
 have hc:=q0l rs;have ad:(rs.length:Int)≤4:=by omega
 generalize hE:agr rs v=E;have HE:Hid (E=agr rs v):=hE.symm;clear hE;have T:Hid (∀r,r<rs.length→∀j v,(z1f (rs.getD r z0D))[j]?=some v→(rndC rs)[1+r*6+j]?=some v):=fun r hr j v hv=>by
  have hj:=(List.getElem?_eq_some_iff.1 hv).1;rw[z0R (z2T h r hr)]at hj;rw[q0m h r hr j hj];exact hv
 generalize rndC rs=ds at*;go_enter Tryz.func143,Tryz.ntmps143
 go_wp2
 clear hc;generalize w.alloc (.cells ds.toArray 147)=W at*;go_loopw[12] (fun j wr=>∃k:Nat,k≤rs.length∧j=.int .i64 k∧Hid (∀j,j<k→cnt 7 (rs.getD j z0D).pro v<2)∧Below W.heap.size W wr) (fun j _=>rs.length-(intOf j).toNat)
 case atStart=>exact⟨0,Nat.zero_le _,rfl,fun j hj=>absurd hj (Nat.not_lt_zero _),Below.refl _ _⟩
 case round=>
  obtain⟨k,hk,rfl,HA,hb⟩:=hrel;by_cases N:k<rs.length
  ·have c:=z2T h k N;have HY:Hid (2≤cnt 7 (rs.getD k z0D).pro v→E=true):=fun hx=>by rw[HE.out];exact q2r N hx
   have HN:Hid (cnt 7 (rs.getD k z0D).pro v<2→∀j,j<k+1→cnt 7 (rs.getD j z0D).pro v<2):=fun hx j hj=>by
    by_cases aa:j=k
    ·subst aa;exact hx
    ·exact HA.out j (by omega)
   have I:=rng (B.below hb) (z1f (rs.getD k z0D)) (o:=1+k*6) (fun j v hv=>by rw[List.getElem?_toArray];exact T.out k N j v hv);clear HA;generalize rs.getD k z0D=q at*;have x:(Tryz.prog.info? 144).map (·.size)=some (z1f q).length:=by rw[z0R c];exact q0o
   have y:(Tryz.prog.info? 144).map (·.size)=some (z1f q).toArray.size:=x;have M:=Blk.new wr 144 #[.int .i64 0,.int .i64 0,.int .i64 0,.int .i64 0,.int .i64 0,.int .i64 0];have U:=M.row (z1f q).toArray;have d:Below W.heap.size W ((wr.alloc (.cells #[.int .i64 0,.int .i64 0,.int .i64 0,.int .i64 0,.int .i64 0,.int .i64 0] 144)).setRow wr.heap.size (z1f q).toArray):=z0x (hb.alloc hb.size _) hb.size _;have J:=rng U (q.pro.map iv) (o:=3) (fun j v hv=>by rw[List.getElem?_toArray];exact q0s c j v hv);have L:(Tryz.prog.info? 142).map (·.size)=some (q.pro.map iv).length:=by rw[List.length_map,c.2];exact z5u
   have A:(#[.int .i64 0,.int .i64 0,.int .i64 0,.int .i64 0,.int .i64 0,.int .i64 0]:Array Value).size=(z1f q).toArray.size:=(show 6=(z1f q).length by rw[z0R c])
   have D:(z1f q).toArray.all (·.oneCell')=true:=q2s _;have Y:=z4a q.pro
   go_wp2_with (first|(refine z9b (by kernel_rfl) 144 _ rfl _ _ rfl (z1f q) _ I Tryz.underlying144 rfl x ?_)|(refine z1n (by kernel_rfl) 144 _ _ rfl _ (z1f q).toArray rfl rfl 144 _ M y A D ?_)|(refine z9b (by kernel_rfl) 142 _ rfl _ _ rfl (q.pro.map iv) _ J Tryz.underlying142 rfl L ?_))
   clear I J x y L A D M U;generalize (wr.alloc (.cells #[.int .i64 0,.int .i64 0,.int .i64 0,.int .i64 0,.int .i64 0,.int .i64 0] 144)).setRow wr.heap.size (z1f q).toArray=W3 at*;refine(Y W3 c.2).mono ?_;rintro e w4 ⟨la,lc,rfl,lO,lG,lR,V⟩;replace d:=d.trans (V.mono d.size);have Z:=z1s la lc q.pro v w4 lR c.2;have X:=q3L q.pro v;have O:=z1F (vot q.pro v) w4 X;rw[q3a]at O;generalize vot q.pro v=m at*;generalize cnt 7 q.pro v=C at*;clear Y lO lG lR V hb X
   go_wp2_with fail
   refine Z.mono ?_;rintro e w' ⟨rfl,hw⟩;replace hw:=hw.symm;subst hw
   go_wp2_with fail
   refine O.mono ?_;rintro e w' ⟨rfl,hw⟩;replace hw:=hw.symm;subst hw;clear Z O;by_cases hC:2≤C
   ·have E2:Hid (E=true):=HY.out hC;clear HY HN HE T
    go_wp2
    go_ret;exact⟨by rw[E2.out];rfl,z.trans (d.mono z.size)⟩
   ·have R:=HN.out (by omega);have HR:Hid _:=R;clear HY HN R
    go_wp2
    go_roundw
    case rel=>exact⟨k+1,by omega,by go_num,HR.out,d⟩
    case measure=>simp[intOf];omega
  ·have ab:k=rs.length:=by omega
   subst ab;have E2:Hid (E=false):=by rw[HE.out];exact z8u HA.out
   clear HA HE
   go_wp2
   go_ret;exact⟨by rw[E2.out];rfl,z.trans (hb.mono z.size)⟩
theorem q0t{has:Bool}{rs:List RoundE}{r n:Nat}(hr:r<rs.length)(hn:n<3)(h:repI has rs r n=false∨proR rs r n=false):(List.range rs.length).all (z9M has rs)=false:=by
 rw[List.all_eq_false];refine⟨r,List.mem_range.2 hr,?_⟩;intro e;have:=(z5T has rs r).1 e n hn;rcases h with h|h
 ·rw[this.1]at h;exact absurd h (by decide)
 ·rw[this.2]at h;exact absurd h (by decide)
theorem q3e{rs:List RoundE}{dec:List Int}{n:Nat}(hn:n<3)(h:endR rs (dec.getD n 0)=false):z45 rs dec=false:=by
 cases he:z45 rs dec with
 |false=>rfl
 |true=>
  rw[(z2j rs dec).1 he n hn]at h;exact absurd h (by decide)
theorem z17{w w':World}{b o:Nat}{L:List Value}(h:w.rangeAt b o L)(hb:Below w.heap.size w w'):w'.rangeAt b o L:=fun j v hv=>by
 have h1:=h j v hv;rw[hb.cell (p:=⟨b,o+j,none⟩) (World.block_lt_of_cell? w _ h1)];exact h1
theorem idx0(x y z:Int)(w:World):(Instr.index 142 (.agg #[.int .i64 x,.int .i64 y,.int .i64 z]) (.int .i64 0)).run Tryz.prog w=.ok (.int .i64 x) w:=by kernel_rfl
theorem idx1(x y z:Int)(w:World):(Instr.index 142 (.agg #[.int .i64 x,.int .i64 y,.int .i64 z]) (.int .i64 1)).run Tryz.prog w=.ok (.int .i64 y) w:=by kernel_rfl
theorem idx2(x y z:Int)(w:World):(Instr.index 142 (.agg #[.int .i64 x,.int .i64 y,.int .i64 z]) (.int .i64 2)).run Tryz.prog w=.ok (.int .i64 z) w:=by kernel_rfl
theorem q0u{zs:List Int}(h3:zs.length=3)(m:Nat)(hm:m<3)(w:World):(Instr.index 142 (.agg (zs.map iv).toArray) (.int .i64 (m:Int))).run Tryz.prog w=.ok (.int .i64 (zs.getD m 0)) w:=by
 obtain⟨x,y,z,rfl⟩:=z8S h3;have:m=0∨m=1∨m=2:=by omega
 rcases this with rfl|rfl|rfl
 ·exact idx0 x y z w
 ·exact idx1 x y z w
 ·exact idx2 x y z w
theorem z7X(has:Bool)(vb:Value)(rs:List RoundE)(dec:List Int)(w:World)(hG:Rul w)(h:Wel rs)(h4:rs.length≤4)(hd:dec.length=3):
  Calls Tryz.prog 118 #[.agg (brdC has vb rs dec).toArray] w fun e w'=>e=.returned (.bool ((List.range rs.length).all (z9M has rs) && z45 rs dec))∧Below w.heap.size w w':=by
 have B:=Blk.new w 149 (brdC has vb rs dec).toArray;have d:Below w.heap.size w (w.alloc (.cells (brdC has vb rs dec).toArray 149)):=by go_grown
 have hc:(brdC has vb rs dec)[0]?=some (iv rs.length):=by rw[z5V h h4 0 (by omega)];rfl
 have V:=rng B (brdC has vb rs dec) (o:=0) (fun j v hv=>by rw[Nat.zero_add,List.getElem?_toArray];exact hv);have J:=z3j h h4 B;have Z:=rng B (dec.map iv) (o:=27) (fun j v hv=>by
  obtain⟨hj,rfl⟩:=row_get hd hv;rw[List.getElem?_toArray];exact q0n h h4 hd j hj)
 have ab:(Tryz.prog.info? 149).map (·.size)=some (brdC has vb rs dec).length:=by rw[z2C h h4 hd];exact z2V
 have L:(Tryz.prog.info? 147).map (·.size)=some (rndC rs).length:=by rw[z0v h h4];exact z2U
 have ad:(Tryz.prog.info? 142).map (·.size)=some (dec.map iv).length:=by rw[List.length_map,hd];exact z5u
 have aa:=fun r n w hG hr hn=>z3k has vb rs dec r n w hG h h4 hd hr hn
 have U:=fun r n w hG hr hn=>z4u rs r n w hG h h4 hr hn
 have af:=fun v w=>z6S rs v w h h4
 generalize hE:((List.range rs.length).all (z9M has rs) && z45 rs dec)=E;have HE:Hid (E=((List.range rs.length).all (z9M has rs) && z45 rs dec)):=hE.symm;clear hE h B;generalize brdC has vb rs dec=cs at*;generalize rndC rs=ds at*;go_enter Tryz.func118,Tryz.ntmps118
 go_wp2
 clear hc;generalize w.alloc (.cells cs.toArray 149)=W at*;replace hG:=hG.below d;go_loopw[10] (fun j wr=>∃k:Nat,k≤rs.length∧j=.int .i64 k∧Hid (∀j,j<k→z9M has rs j=true)∧Below W.heap.size W wr) (fun j _=>rs.length-(intOf j).toNat)
 case atStart=>exact⟨0,Nat.zero_le _,rfl,fun j hj=>absurd hj (Nat.not_lt_zero _),Below.refl _ _⟩
 case round=>
  obtain⟨k,hk,rfl,HA,hb⟩:=hrel;by_cases I:k<rs.length
  ·go_wp2
   go_loopw[13] (fun j wx=>∃m:Nat,m≤3∧j=.int .i64 m∧Hid (∀j,j<m→repI has rs k j=true∧proR rs k j=true)∧Below W.heap.size W wx) (fun j _=>3-(intOf j).toNat)
   case atStart=>exact⟨0,Nat.zero_le _,rfl,fun j hj=>absurd hj (Nat.not_lt_zero _),hb⟩
   case round=>
    obtain⟨m,hm,rfl,HB,c⟩:=hrel;by_cases y:m<3
    ·have T:(m:Int)<3:=by omega
     have HX:Hid (repI has rs k m=false→E=false):=fun hx=>by rw[HE.out,q0t I y (Or.inl hx)];rfl
     have HY:Hid (proR rs k m=false→E=false):=fun hx=>by rw[HE.out,q0t I y (Or.inr hx)];rfl
     have HN:Hid (repI has rs k m=true→proR rs k m=true→∀j,j<m+1→repI has rs k j=true∧proR rs k j=true):=fun h1 h2 j hj=>by
      by_cases M:j=m
      ·subst M;exact⟨h1,h2⟩
      ·exact HB.out j (by omega)
     have h1:=aa k m _ (hG.below c) I y;have h2:=fun w hG=>U k m w hG I y
     have A:=z17 V c;clear HB;generalize repI has rs k m=X at*;generalize proR rs k m=Y at*
     go_wp2_with (refine z9b (by kernel_rfl) 149 _ rfl _ _ rfl cs _ A Tryz.underlying149 rfl ab ?_)
     clear A;refine h1.mono ?_;rintro e w5 ⟨rfl,O⟩;replace c:=c.trans (O.mono c.size);clear h1 O
     cases X with
     |false=>
      have E2:Hid (E=false):=HX.out rfl;clear HX HY HN HE HA
      go_wp2
      go_ret;exact⟨by rw[E2.out];rfl,d.trans (c.mono d.size)⟩
     |true=>
      have C:=z17 J c;have h3:=h2 w5 (hG.below c)
      go_wp2_with (refine z9b (by kernel_rfl) 147 _ rfl _ _ rfl ds _ C Tryz.underlying147 rfl L ?_)
      clear C h2;refine h3.mono ?_;rintro e w6 ⟨rfl,z⟩;replace c:=c.trans (z.mono c.size);clear h3 z
      cases Y with
      |false=>
       have E2:Hid (E=false):=HY.out rfl;clear HX HY HN HE HA
       go_wp2
       go_ret;exact⟨by rw[E2.out];rfl,d.trans (c.mono d.size)⟩
      |true=>
       have R:=HN.out (by first|rfl|trivial) (by first|rfl|trivial);have HR:Hid _:=R;clear HX HY HN R
       go_wp2
       go_roundw
       case rel=>exact⟨m+1,by omega,by go_num,HR.out,c⟩
       case measure=>simp[intOf];omega
    ·have N:m=3:=by omega
     subst N;have HR:Hid (∀j,j<k+1→z9M has rs j=true):=fun j hj=>by
      by_cases ag:j=k
      ·subst ag;exact(z5T has rs j).2 HB.out
      ·exact HA.out j (by omega)
     clear HA HB
     go_wp2
     go_roundw
     case rel=>exact⟨k+1,by omega,by go_num,HR.out,c⟩
     case measure=>simp[intOf];omega
  ·have ah:k=rs.length:=by omega
   subst ah;have D:Hid (E=z45 rs dec):=show _=_ by
    have e:(List.range rs.length).all (z9M has rs)=true:=by
     rw[List.all_eq_true];intro x hx;exact HA.out x (List.mem_range.1 hx)
    rw[HE.out,e,Bool.true_and]
   clear HA HE aa U;have A:=z17 Z hb
   go_wp2_with (refine z9b (by kernel_rfl) 142 _ rfl _ _ rfl (dec.map iv) _ A Tryz.underlying142 rfl ad ?_)
   clear A;go_loopw[33] (fun j wx=>∃m:Nat,m≤3∧j=.int .i64 m∧Hid (∀j,j<m→endR rs (dec.getD j 0)=true)∧Below W.heap.size W wx) (fun j _=>3-(intOf j).toNat)
   case atStart=>exact⟨0,Nat.zero_le _,rfl,fun j hj=>absurd hj (Nat.not_lt_zero _),hb⟩
   case round=>
    obtain⟨m,hm,rfl,HB,c⟩:=hrel;by_cases y:m<3
    ·have T:(m:Int)<3:=by omega
     have HY:Hid (endR rs (dec.getD m 0)=false→E=false):=fun hx=>by rw[D.out,q3e y hx]
     have HN:Hid (endR rs (dec.getD m 0)=true→∀j,j<m+1→endR rs (dec.getD j 0)=true):=fun hx j hj=>by
      by_cases M:j=m
      ·subst M;exact hx
      ·exact HB.out j (by omega)
     have HV:Hid (endR rs (dec.getD m 0)=((dec.getD m 0==3)||agr rs (dec.getD m 0))):=(rfl:_=_)
     have aj:=fun w=>q0u hd m y w
     have h1:=af (dec.getD m 0);have C:=z17 J c;clear HB;generalize dec.getD m 0=v at*;by_cases hv:v=3
     ·have ai:(v !=3)=false:=by simp[hv]
      have R:=HN.out (by rw[HV.out,hv];rfl);have HR:Hid _:=R;clear HY HN HV R hv
      go_wp2
      go_roundw
      case rel=>exact⟨m+1,by omega,by go_num,HR.out,c⟩
      case measure=>simp[intOf];omega
     ·have ai:(v !=3)=true:=by simpa using hv
      have ae:(v==3)=false:=by simpa using hv
      rw[ae,Bool.false_or]at HV;rw[HV.out]at HY HN;generalize agr rs v=X at*;clear HV hv ae;have h3:=h1 wr
      go_wp2_with (refine z9b (by kernel_rfl) 147 _ rfl _ _ rfl ds _ C Tryz.underlying147 rfl L ?_)
      clear C h1;refine h3.mono ?_;rintro e w6 ⟨rfl,z⟩;replace c:=c.trans (z.mono c.size);clear h3 z
      cases X with
      |false=>
       have E2:Hid (E=false):=HY.out rfl;clear HY HN D
       go_wp2
       go_ret;exact⟨by rw[E2.out];rfl,d.trans (c.mono d.size)⟩
      |true=>
       have R:=HN.out (by first|rfl|trivial);have HR:Hid _:=R;clear HY HN R
       go_wp2
       go_roundw
       case rel=>exact⟨m+1,by omega,by go_num,HR.out,c⟩
       case measure=>simp[intOf];omega
    ·have N:m=3:=by omega
     subst N;have E2:Hid (E=true):=by rw[D.out,(z2j rs dec).2 HB.out];rfl
     clear HB D
     go_wp2
     go_ret;exact⟨by rw[E2.out];rfl,d.trans (c.mono d.size)⟩
theorem q0v(w:World)(ty g:Nat)(cur:Array Value)(b off sc:Nat)(zs:List Int)(hz:zs.length=3)(hg:w.heap[g]?=some (.cells cur 142 (0,0)))(hc:cur.size=3)(hr:Row .i64 w (some ⟨b,off,none⟩) zs):
  (Builtin.copy_ #[42,42] ty #[.slice (some ⟨g,0,none⟩) 3 3,.slice (some ⟨b,off,none⟩) 3 sc]).run Tryz.prog w=.ok (goInt 3) (w.setRow g (zs.map iv).toArray):=by
 obtain⟨i0,hi,hz0,hz1,hz2⟩:=info_parts q2o;have hlen:(zs.map iv).length=3:=by simp[hz]
 have hl:=run_loadCells_list (P:=Tryz.prog) w ⟨b,off,none⟩ (zs.map iv) (z2R (z4o hr));have hst:=run_storeCells_at Tryz.prog g 0 142 (zs.map iv) 0 cur w hg (by omega) (fun v hv=>by obtain⟨z,_,rfl⟩:=List.mem_map.1 hv;rfl);have e:cur.toList.drop (zs.map iv).length=[]:=List.drop_of_length_le (by simp;omega);simp only[Nat.zero_add,Nat.add_zero,List.take_zero,List.nil_append,e,List.append_nil]at hst;rw[hlen]at hl;simp[Builtin.copy_,run_underlying Tryz.underlying42,Builtin.lenOf,Builtin.firstCells,sizeOf,typeInfo,hi,hz1,hl,hst]
theorem z6T(b off cap:Nat)(zs:List Int)(w:World)(h:Row .i64 w (some ⟨b,off,none⟩) zs)(h3:zs.length=3):
  Calls Tryz.prog 116 #[.slice (some ⟨b,off,none⟩) 3 cap] w fun e w'=>e=.returned (.agg (zs.map iv).toArray)∧Below w.heap.size w w':=by
 have hb0:Below w.heap.size w ((w.alloc (.cells #[.int .i64 0,.int .i64 0,.int .i64 0] 142)).alloc (.cells #[.int .i64 0,.int .i64 0,.int .i64 0] 142)):=by go_grown
 have C:=(Blk.new w 142 #[.int .i64 0,.int .i64 0,.int .i64 0]).below (w':=(w.alloc (.cells #[.int .i64 0,.int .i64 0,.int .i64 0] 142)).alloc (.cells #[.int .i64 0,.int .i64 0,.int .i64 0] 142)) (by go_grown);have D:=Blk.new (w.alloc (.cells #[.int .i64 0,.int .i64 0,.int .i64 0] 142)) 142 #[.int .i64 0,.int .i64 0,.int .i64 0];simp only[World.size_alloc]at D;have hcp0:=fun ty=>q0v _ ty (w.heap.size+1) _ b off cap zs h3 D rfl (h.below hb0)
 obtain⟨x,y,z,rfl⟩:=z8S h3;obtain⟨W2,hcp,D2,C2,hb2⟩:∃W2,(∀ty,(Builtin.copy_ #[42,42] ty #[.slice (some ⟨w.heap.size+1,0,none⟩) 3 3,.slice (some ⟨b,off,none⟩) 3 cap]).run Tryz.prog ((w.alloc (.cells #[.int .i64 0,.int .i64 0,.int .i64 0] 142)).alloc (.cells #[.int .i64 0,.int .i64 0,.int .i64 0] 142))=.ok (goInt 3) W2)∧Blk W2 (w.heap.size+1) 142 #[.int .i64 x,.int .i64 y,.int .i64 z]∧Blk W2 w.heap.size 142 #[.int .i64 0,.int .i64 0,.int .i64 0]∧Below w.heap.size w W2:=
  ⟨_,hcp0,D.row _,(setRow_other _ _ _ _ (by omega)).trans C,z0x hb0 (g:=w.heap.size+1) (by omega) _⟩
 obtain⟨p0,p1,p2⟩:=D2.cel3;obtain⟨q0,q1,q2⟩:=C2.cel3;obtain⟨f0,f1,f2⟩:=C2.frz3;clear C D D2 C2 hb0 h hcp0;go_enter Tryz.func116,Tryz.ntmps116
 go_wp2
 exact bodyPost_ret (v:=.agg #[.int .i64 x,.int .i64 y,.int .i64 z]) (by simp[results,Tryz.results116,go_sem,q0,q1,q2]) rfl ⟨rfl,((hb2.setCell (p:=⟨w.heap.size,0,none⟩) (Nat.le_refl _) _).setCell (p:=⟨w.heap.size,1,none⟩) (Nat.le_refl _) _).setCell (p:=⟨w.heap.size,2,none⟩) (Nat.le_refl _) _⟩
theorem z3G(b:Nat)(t:TypeId):∀ (vs:List Value) (o:Nat) (w:World) (cs:List Value),Blk w b t cs.toArray→Blk (w.setCells b o vs) b t (z01 cs o vs).toArray
 |[],_,_,_,h=>h
 |v::r,o,w,cs,h=>by
  have h1:=h.set o v;rw[List.setIfInBounds_toArray]at h1;exact z3G b t r (o+1) _ _ h1
theorem z18(b:Nat):∀ (vs:List Value) (o:Nat) (w:World),Out [b] w (w.setCells b o vs)
 |[],_,w=>Out.refl _ w
 |v::r,o,w=>(Out.setCell w b o v).trans (z18 b r (o+1) _)
theorem z7Y(A B C Y:List Value)(h:B.length=Y.length):z01 (A++(B++C)) A.length Y=A++(Y++C):=by
 apply List.ext_getElem?;intro j;by_cases hj:j<(A++(B++C)).length
 ·rw[z2B _ _ _ _ hj];simp only[List.length_append]at hj;by_cases h1:A.length≤j∧j<A.length+Y.length
  ·rw[if_pos h1,List.getElem?_append_right h1.1,List.getElem?_append_left (by omega)]
  ·rw[if_neg h1];by_cases h2:j<A.length
   ·rw[List.getElem?_append_left h2,List.getElem?_append_left h2]
   ·rw[List.getElem?_append_right (by omega),List.getElem?_append_right (by omega),List.getElem?_append_right (by omega),List.getElem?_append_right (by omega),h]
 ·rw[List.getElem?_eq_none (by rw[z1x];omega),List.getElem?_eq_none (by simp only[List.length_append]at hj⊢;omega)]
theorem z9e(rs:List RoundE)(q:RoundE):z3i (rs++[q])=z3i rs++z1f q:=by simp[z3i]
theorem q1O{rs:List RoundE}{q:RoundE}(tail:List Value)(h:Wel rs)(hq:q.rep.length=3∧q.pro.length=3)(h4:rs.length<4):
  (z01 (rndC rs++tail) (1+rs.length*6) (z1f q)).set 0 (iv ((rs.length:Int)+1))=rndC (rs++[q])++tail:=by
 have hl:=z16 h;have hq6:=z0R hq;have e1:rndC rs++tail=(iv rs.length::z3i rs)++(List.replicate 6 (iv 0)++(List.replicate (18-6*rs.length) (iv 0)++tail)):=by
  unfold rndC;rw[show 24-6*rs.length=6+(18-6*rs.length) by omega,←List.replicate_append_replicate];simp[List.append_assoc]
 have e2:(iv rs.length::z3i rs).length=1+rs.length*6:=by simp only[List.length_cons,hl];omega
 rw[e1,←e2,z7Y _ _ _ _ (by rw[List.length_replicate,hq6])];unfold rndC;rw[z9e,List.length_append,List.length_singleton,show 24-6*(rs.length+1)=18-6*rs.length by omega];simp[List.append_assoc]
structure LatR (b g:Nat) (w:World) where
 val:World
 cnt:val.cell? ⟨b,0,none⟩=w.cell? ⟨b,0,none⟩
 box:val.heap[g]?=w.heap[g]?
theorem z6U(b:Nat)(t:TypeId)(rs:List RoundE)(d:List Value)(q:RoundE)(w:World)(hB:Blk w b t (rndC rs++d).toArray)(h:Wel rs)(hq:q.rep.length=3∧q.pro.length=3)(h4:rs.length<4):
  Calls Tryz.prog 117 #[.pointer (some ⟨b,0,none⟩),.agg (z1f q).toArray] w fun e w'=>e=.returned (.tuple #[])∧Blk w' b t (rndC (rs++[q])++d).toArray∧Out [b] w w':=by
 have ae:=hB.lt;have O:Below w.heap.size w (w.alloc (.cells (z1f q).toArray 144)):=by go_grown
 have G:=Blk.new w 144 (z1f q).toArray;replace hB:=hB.below O;have C:(w.alloc (.cells (z1f q).toArray 144)).cell? ⟨b,0,none⟩=some (iv rs.length):=hB.cell 0 _ rfl;have T:(z1f q).toArray.all (·.oneCell')=true:=q2s _;have L:(Tryz.prog.info? 144).map (·.size)=some (z1f q).length:=by rw[z0R hq];exact q0o
 have af:=z0v h (by omega);have A:∀W':World,W'.heap[b]?=(w.alloc (.cells (z1f q).toArray 144)).heap[b]?→W'.there b (1+rs.length*6) (z1f q).toArray.size:=by
  intro W' Z j hj;rw[List.size_toArray,z0R hq]at hj;have N:Blk W' b t (rndC rs++d).toArray:=Z.trans hB;have ab:1+rs.length*6+j<(rndC rs++d).length:=by simp only[List.length_append];omega
  have hx:=List.getElem?_eq_getElem ab;exact⟨by rw[N.cell _ _ (by rw[List.getElem?_toArray];exact hx)];rfl,N.frozen _⟩
 have J:=q1O d h hq h4;have E:Hid ((z01 (rndC rs++d) (1+rs.length*6) (z1f q)).set 0 (iv ((rs.length:Int)+1))=rndC (rs++[q])++d):=J;clear J;generalize rndC (rs++[q])++d=es at*;generalize rndC rs++d=cs at*;have ag:(rs.length:Int)<4:=by omega
 generalize rs.length=c at*;go_enter Tryz.func117,Tryz.ntmps117
 go_wp2_with fail
 generalize w.alloc (.cells (z1f q).toArray 144)=W at*;have y:W.drew.cell? ⟨b,0,none⟩=W.cell? ⟨b,0,none⟩:=rfl;have z:W.drew.heap[w.heap.size]?=W.heap[w.heap.size]?:=rfl;have ad:Nonempty (LatR b w.heap.size W):=⟨⟨W,rfl,rfl⟩⟩
 have k0:∀u:LatR b w.heap.size W,u.val.cell? ⟨b,0,none⟩=some (iv c):=fun u=>u.cnt.trans C
 have V:∀u:LatR b w.heap.size W,(Instr.loadAt 144 (.pointer (some ⟨w.heap.size,0,none⟩))).run Tryz.prog u.val=.ok (.agg (z1f q).toArray) u.val:=fun u=>by
  have hG:Blk u.val w.heap.size 144 (z1f q).toArray:=u.box.trans G;exact run_loadAt_mid u.val w.heap.size 0 144 (z1f q) _ (rng hG _ (fun j v hv=>by rw[Nat.zero_add,List.getElem?_toArray];exact hv)) Tryz.underlying144 rfl L
 refine z0b (S:=fun w'=>∃u:LatR b w.heap.size W,w'=u.val) (by kernel_rfl) ?_;refine sgr [(0,2)] 8 (by kernel_rfl) ⟨⟨_,y,z⟩,rfl⟩ ?_;simp only[pkE];repeat go_big_quiet_step (fail)
 refine wpQuiet_nil ?_;refine qta 2 (some 6) (.pointer (some ⟨b,0,none⟩)) 7 (by kernel_rfl) (fun u _=>by kernel_rfl) ⟨⟨_,y,z⟩,rfl⟩ ?_;simp only[Act.put,pjE];refine sgr [(3,2)] 5 (by kernel_rfl) ⟨⟨_,y,z⟩,rfl⟩ ?_;simp only[pkE];repeat go_big_quiet_step (fail)
 refine wpQuiet_nil ?_;refine qta 5 (some 9) (.agg (z1f q).toArray) 4 (by kernel_rfl) (fun u hu=>?_) ⟨⟨_,y,z⟩,rfl⟩ ?_
 ·obtain⟨u,rfl⟩:=hu;show some (((Instr.loadAt 144 (.pointer (some ⟨w.heap.size,0,none⟩)))>>=fun x=>pure (Next.value x):Sem Next).run Tryz.prog u.val)=_;rw[Sem.run_bind,V u];rfl
 simp only[Act.put,pjE];refine qta 6 (some 10) (.pointer (some ⟨b,0,none⟩)) 3 (by kernel_rfl) (fun u _=>by kernel_rfl) ⟨⟨_,y,z⟩,rfl⟩ ?_;simp only[Act.put,pjE];refine sgr [(7,2)] 1 (by kernel_rfl) ⟨⟨_,y,z⟩,rfl⟩ ?_;simp only[pkE];repeat go_big_quiet_step (fail)
 refine wpQuiet_nil ?_;refine ona 9 0 rfl (by kernel_rfl) ?_;refine st_g (by kernel_rfl) 144 _ _ rfl b (1+c*6) (z1f q).toArray rfl rfl (A _ rfl) L T ?_;have D:Blk (W.drew.setCells b (1+c*6) (z1f q)) b t (z01 cs (1+c*6) (z1f q)).toArray:=z3G b t (z1f q) (1+c*6) W.drew cs hB;have U:Out [b] w (W.drew.setCells b (1+c*6) (z1f q)):=(Out.of_below O).trans ((Out.of_below ((Below.refl _ _).drew)).trans (z18 b (z1f q) (1+c*6) W.drew));have aa:w.heap.size≠b:=by omega
 have I:(W.drew.setCells b (1+c*6) (z1f q)).heap[w.heap.size]?=W.heap[w.heap.size]?:=((z18 b (z1f q) (1+c*6) W.drew).block _ G.lt (by simp only[List.mem_singleton];exact aa))
 have M:(W.drew.setCells b (1+c*6) (z1f q)).cell? ⟨b,0,none⟩=W.cell? ⟨b,0,none⟩:=World.cell?_setCells_out b (z1f q) (1+c*6) W.drew ⟨b,0,none⟩ (fun _ _=>Or.inl (by show 0<1+c*6;omega));refine ThenGo.to ⟨⟨⟨_,M,I⟩,rfl⟩,?_⟩;refine z0f (by kernel_rfl) ?_;have Y:=M.trans C;have ah:=D.frozen 0;have F:=D.set 0 (iv ((c:Int)+1));rw[List.setIfInBounds_toArray,E.out]at F;have U2:=U.set (b:=b) (j:=0) (u:=iv ((c:Int)+1)) (by simp);have HF:Hid (Blk _ b t es.toArray∧Out [b] w _):=And.intro F U2;clear F U2 D U M I z y k0 V ad A E;generalize W.drew.setCells b (1+c*6) (z1f q)=X at*
 go_wp2
 go_end0
 exact⟨rfl,HF.out⟩
def z1V:Act→List (Option Tmp)→List Value→Act
 |a,d::ds,v::vs=>z1V (a.put d v) ds vs
 |a,_,_=>a
section
variable {P:Program} {ops:Array Oper} {Q:Exit→Act→World→Prop}
theorem z1o{id:Nat}{a:Act}{w:World}(ds:List (Option Tmp))(R:List Value→World→Prop)
  (hreg:(Code.region id ops true).wp P (fun e a' w'=>e=.normal∧∃vs,R vs w'∧a'=z1V a ds vs) a w) (himp:∀vs w',R vs w'→Q .normal (z1V a ds vs) w'):(Code.region id ops true).wp P Q a w:=by
 refine Code.wp_mono ?_ hreg;rintro e a' w' ⟨rfl,vs,hR,rfl⟩;exact himp vs w' hR
end
structure LatO (F:List Nat) (w:World) where
 val:World
 isOut:Out F w val
theorem z6V{F:List Nat}{w:World}{b o:Nat}{v:Value}(h:w.cell? ⟨b,o,none⟩=some v)(hF:b∉F):∀u:LatO F w,u.val.cell? ⟨b,o,none⟩=some v:=fun u=>by
 have hb:=World.block_lt_of_cell? w _ h;have e:=u.isOut.block b hb hF;unfold World.cell? at h⊢;simp only at h⊢;rw[e];exact h
def brd0:List Value:=brdC false (.slice none 0 0) [] [0,0,0]
theorem z2E{fn:Func}{p q:Tmp}{ty:TypeId}(h:fn.results=#[.cell p ty,.tmp q])(tmps:Array Value)(w:World)(g:Nat)(cs:Array Value)(v:Value)
  (hp:tmps.getD p undef=.pointer (some ⟨g,0,none⟩)) (hq:tmps.getD q undef=v) (hld:(loadVar ty ⟨g,0,none⟩).run Tryz.prog w=.ok (.agg cs) w):
  (results fn tmps).run Tryz.prog w=.ok (.tuple #[.agg cs,v]) w:=by
 have hp':tmps[p]?.getD undef=.pointer (some ⟨g,0,none⟩):=by simpa using hp
 have hq':tmps[q]?.getD undef=v:=by simpa using hq
 simp[results,h,hp',hq',asAddr,hld]
theorem q0w{w:World}{g:Nat}{t:TypeId}{L:List Value}(hB:Blk w g t L.toArray)(hl:L.length=30):(loadVar 149 ⟨g,0,none⟩).run Tryz.prog w=.ok (.agg L.toArray) w:=
 run_loadVar_mid w g 0 149 L _ (rng hB L (fun j v hv=>by rw[Nat.zero_add,List.getElem?_toArray];exact hv)) Tryz.underlying149 rfl (by rw[hl];exact z2V)
theorem q2t{rs:List RoundE}(h:z0H rs=0):Wel rs:=fun r hr=>by
 obtain⟨k,hk,rfl⟩:=List.getElem_of_mem hr;have:=z1t h k hk;have e:rs.getD k z0D=rs[k]:=by simp[List.getD,hk]
 rw[e]at this;exact⟨z0P this.1,z0P this.2⟩
theorem q1P{rs:List RoundE}(h:Wel rs)(k:Nat):Wel (rs.take k):=fun r hr=>h r (List.mem_of_mem_take hr)
theorem q30{x:InstE}(h:shpF x=0):insF x=if q3G x then 0 else 10:=if_pos h
theorem z4v(p:InstQ)(w:World)(hG:Rul w)(h:instK.rd w p)(hl:p.n≤1048576):
  Calls Tryz.prog 91 #[.agg #[.bool p.has,p.vb,p.vr,p.vd]] w fun e w'=>e=.returned (.tuple #[.agg (if insF p.e=0 then brdC p.has p.vb p.e.rounds p.dec else brd0).toArray,.int .i64 (insF p.e)])∧Below w.heap.size w w':=by
 have aw:=fun w h=>z5U p w h hl
 have az:=fun(w':World) hb=>instK.rd_below (w':=w') h hb
 generalize hC:insF p.e=C;generalize aI:(if C=0 then brdC p.has p.vb p.e.rounds p.dec else brd0)=BD;have HC:Hid (insF p.e=C∧(if C=0 then brdC p.has p.vb p.e.rounds p.dec else brd0)=BD):=And.intro hC aI;clear hC aI;obtain⟨has,vb,d,vr,c,vd,dec⟩:=p;obtain⟨hT,hR,hD⟩:txnK.At w vb d∧roundK.At w vr c∧intK.At w vd dec:=h;obtain⟨ba,bk,rfl⟩:=hT.shape;obtain⟨va,vk,rfl⟩:=hR.shape;obtain⟨da,dk,rfl⟩:=hD.shape;dsimp only at aw az;have B:=(Blk.new w 44 #[.bool has,.slice ba d.length bk,.slice va c.length vk,.slice da dec.length dk]).below (w':=(w.alloc (.cells #[.bool has,.slice ba d.length bk,.slice va c.length vk,.slice da dec.length dk] 44)).alloc (.cells brd0.toArray 149)) (by go_grown);have Rb:=Blk.new (w.alloc (.cells #[.bool has,.slice ba d.length bk,.slice va c.length vk,.slice da dec.length dk] 44)) 149 brd0.toArray;simp only[World.size_alloc]at Rb;have hB:Below w.heap.size w ((w.alloc (.cells #[.bool has,.slice ba d.length bk,.slice va c.length vk,.slice da dec.length dk] 44)).alloc (.cells brd0.toArray 149)):=by go_grown
 have bg:(Tryz.prog.info? 149).map (·.size)=some brd0.toArray.size:=by kernel_rfl
 have a8:brd0.toArray.size=brd0.toArray.size:=rfl;have ap:(Tryz.prog.info? 149).map (·.size)=some (#[.int .i64 0,.int .i64 0,.int .i64 0,.int .i64 0,.int .i64 0,.int .i64 0,.int .i64 0,.int .i64 0,.int .i64 0,.int .i64 0,.int .i64 0,.int .i64 0,.int .i64 0,.int .i64 0,.int .i64 0,.int .i64 0,.int .i64 0,.int .i64 0,.int .i64 0,.int .i64 0,.int .i64 0,.int .i64 0,.int .i64 0,.int .i64 0,.int .i64 0,.bool false,.slice none 0 0,.int .i64 0,.int .i64 0,.int .i64 0]:Array Value).size:=by kernel_rfl
 have V:brd0.toArray.size=(#[.int .i64 0,.int .i64 0,.int .i64 0,.int .i64 0,.int .i64 0,.int .i64 0,.int .i64 0,.int .i64 0,.int .i64 0,.int .i64 0,.int .i64 0,.int .i64 0,.int .i64 0,.int .i64 0,.int .i64 0,.int .i64 0,.int .i64 0,.int .i64 0,.int .i64 0,.int .i64 0,.int .i64 0,.int .i64 0,.int .i64 0,.int .i64 0,.int .i64 0,.bool false,.slice none 0 0,.int .i64 0,.int .i64 0,.int .i64 0]:Array Value).size:=rfl;have Z:(#[.int .i64 0,.int .i64 0,.int .i64 0,.int .i64 0,.int .i64 0,.int .i64 0,.int .i64 0,.int .i64 0,.int .i64 0,.int .i64 0,.int .i64 0,.int .i64 0,.int .i64 0,.int .i64 0,.int .i64 0,.int .i64 0,.int .i64 0,.int .i64 0,.int .i64 0,.int .i64 0,.int .i64 0,.int .i64 0,.int .i64 0,.int .i64 0,.int .i64 0,.bool false,.slice none 0 0,.int .i64 0,.int .i64 0,.int .i64 0]:Array Value).all (·.oneCell')=true:=by kernel_rfl
 have bb:brd0.toArray.all (·.oneCell')=true:=by kernel_rfl
 have bh:#[.int .i64 0,.int .i64 0,.int .i64 0,.int .i64 0,.int .i64 0,.int .i64 0,.int .i64 0,.int .i64 0,.int .i64 0,.int .i64 0,.int .i64 0,.int .i64 0,.int .i64 0,.int .i64 0,.int .i64 0,.int .i64 0,.int .i64 0,.int .i64 0,.int .i64 0,.int .i64 0,.int .i64 0,.int .i64 0,.int .i64 0,.int .i64 0,.int .i64 0,.bool false,.slice none 0 0,.int .i64 0,.int .i64 0,.int .i64 0]=brd0.toArray:=rfl;go_enter Tryz.func91,Tryz.ntmps91
 go_wp2_with fail
 generalize (w.alloc (.cells #[.bool has,.slice ba d.length bk,.slice va c.length vk,.slice da dec.length dk] 44)).alloc (.cells brd0.toArray 149)=W at*;refine(aw W (az W hB)).mono ?_;rintro e w1 ⟨rfl,aj⟩;have Bx:=B.below aj;replace Rb:=Rb.below aj;replace hB:=hB.trans (aj.mono hB.size);have br:w.heap.size+1<w1.heap.size:=Rb.lt;clear aw az aj B;by_cases h0:shpF (InstQ.e ⟨has,.slice ba d.length bk,d,.slice va c.length vk,c,.slice da dec.length dk,dec⟩)=0
 ·obtain⟨⟨h1,h4⟩,hF,aq,_,_⟩:=z1c h0;have aJ:=q30 h0;replace hF:z0H (c.map RoundQ.e)=0:=hF;replace aq:vf dec 1=0:=aq;replace h1:1≤(c.map RoundQ.e).length:=h1;replace h4:(c.map RoundQ.e).length≤4:=h4;rw[List.length_map]at h1 h4;have ag:Hid (C=if(List.range (c.map RoundQ.e).length).all (z9M has (c.map RoundQ.e)) && z45 (c.map RoundQ.e) dec then 0 else 10):=HC.out.1.symm.trans aJ;have af:Hid ((if C=0 then brdC has (.slice ba d.length bk) (c.map RoundQ.e) dec else brd0)=BD):=HC.out.2;rw[h0];clear h0 aJ HC;have a2:=z0P aq;obtain⟨d0,d1,d2,rfl⟩:=z8S a2;have ai:=(z0m (hD.below hB)).2;obtain⟨db,O,a6,_,_⟩:=ai 0 (by simp);subst a6;have aA:=fun b aB cap w h h3=>z6T b aB cap [d0,d1,d2] w h h3
  have aa:=fun zs b aB cap w h h3=>z6T b aB cap zs w h h3
  have a1:[d0,d1,d2].length=3:=rfl;rw[a1]at Bx
  go_wp2_with fail
  refine z1o [some 14,some 15,some 16,some 17,some 18,some 19,some 20,some 21,some 5] (fun vs w'=>∃g:Nat,vs=[.pointer (some ⟨w.heap.size,0,none⟩),.bool has,.pointer (some ⟨w.heap.size,1,none⟩),.slice ba d.length bk,.pointer (some ⟨w.heap.size,3,none⟩),.slice (some ⟨db,O,none⟩) 3 dk,.agg #[iv d0,iv d1,iv d2],.agg (brdC has (.slice ba d.length bk) [] [d0,d1,d2]).toArray,.pointer (some ⟨g,0,none⟩)]∧w1.heap.size≤g∧Blk w' g 149 (brdC has (.slice ba d.length bk) [] [d0,d1,d2]).toArray∧Below w1.heap.size w1 w') ?_ ?_
  ·have hW:Below w1.heap.size w1 w1.drew:=(Below.refl _ _).drew;have aM:Nonempty (Lat w1):=⟨⟨w1,Below.refl _ _⟩⟩
   obtain⟨p0,p1⟩:=Bx.lts2;have p3:=Bx.lat 3 _ rfl;have D:(Tryz.prog.info? 149).map (·.size)=some (brdC has (.slice ba d.length bk) [] [d0,d1,d2]).toArray.size:=by kernel_rfl
   have an:brd0.toArray.size=(brdC has (.slice ba d.length bk) [] [d0,d1,d2]).toArray.size:=rfl;have ao:(brdC has (.slice ba d.length bk) [] [d0,d1,d2]).toArray.all (·.oneCell')=true:=by kernel_rfl
   refine z0b (S:=fun w'=>∃u:Lat w1,w'=u.val) (by kernel_rfl) ?_;refine sgr [(0,6)] 4 (by kernel_rfl) ⟨⟨_,hW⟩,rfl⟩ ?_;simp only[pkE];repeat go_big_quiet_step (fail)
   refine wpQuiet_nil ?_;clear p0 p1 p3;generalize w1.drew=wd at hW⊢;refine twa 6 8 3 (by kernel_rfl) ?_ ?_
   ·refine opc 6 (some 20) 116 #[.slice (some ⟨db,O,none⟩) 3 dk] (by kernel_rfl) ?_;refine(aA db O dk _ (ai.below hW) rfl).mono ?_;rintro e w8 ⟨rfl,A⟩;replace hW:=hW.trans (A.mono hW.size);clear A;refine⟨_,rfl,⟨⟨_,hW⟩,rfl⟩,?_⟩;simp only[Act.put,pgE,pjE];refine qta 7 (some 21) (.agg (brdC has (.slice ba d.length bk) [] [d0,d1,d2]).toArray) 2 (by kernel_rfl) (fun u _=>by kernel_rfl) ⟨⟨_,hW⟩,rfl⟩ ?_;simp only[Act.put,pgE,pjE];refine ona 8 1 rfl (by kernel_rfl) ?_;have Bz:=Blk.new w8 149 brd0.toArray;have M:w1.heap.size≤w8.heap.size:=hW.size;replace hW:=hW.alloc hW.size (.cells brd0.toArray 149)
    go_wp2
    refine ThenGo.to ⟨⟨⟨_,hW⟩,rfl⟩,?_⟩;generalize w8.alloc (.cells brd0.toArray 149)=Z8 at Bz hW⊢;refine ona 9 0 rfl (by kernel_rfl) ?_;refine z1n (by kernel_rfl) 149 _ _ rfl _ (brdC has (.slice ba d.length bk) [] [d0,d1,d2]).toArray rfl rfl 149 _ Bz D an ao ?_;refine ThenGo.to ⟨⟨⟨_,z0x hW M _⟩,rfl⟩,?_⟩;refine z0f (by kernel_rfl) ?_;refine⟨rfl,_,⟨w8.heap.size,rfl,M,Bz.row _,z0x hW M _⟩,?_⟩;simp only[z1V,Act.put,pgE,pjE];try rfl
   ·refine z2u 8 _ rfl ?_;have Bz:=Blk.new wd 149 brd0.toArray;have M:w1.heap.size≤wd.heap.size:=hW.size;replace hW:=hW.alloc hW.size (.cells brd0.toArray 149)
    go_wp2
    refine ThenGo.to ⟨⟨⟨_,hW⟩,rfl⟩,?_⟩;generalize wd.alloc (.cells brd0.toArray 149)=Z8 at Bz hW⊢;refine cla 6 (some 20) 116 #[.slice (some ⟨db,O,none⟩) 3 dk] 2 (by kernel_rfl) ?_;refine(aA db O dk _ (ai.below hW) rfl).mono ?_;rintro e w8 ⟨rfl,A⟩;replace hW:=hW.trans (A.mono hW.size);replace Bz:=Bz.below A;clear A;refine⟨_,rfl,⟨⟨_,hW⟩,rfl⟩,?_⟩;simp only[Act.put,pgE,pjE];refine qta 7 (some 21) (.agg (brdC has (.slice ba d.length bk) [] [d0,d1,d2]).toArray) 1 (by kernel_rfl) (fun u _=>by kernel_rfl) ⟨⟨_,hW⟩,rfl⟩ ?_;simp only[Act.put,pgE,pjE];refine ona 9 0 rfl (by kernel_rfl) ?_;refine z1n (by kernel_rfl) 149 _ _ rfl _ (brdC has (.slice ba d.length bk) [] [d0,d1,d2]).toArray rfl rfl 149 _ Bz D an ao ?_;refine ThenGo.to ⟨⟨⟨_,z0x hW M _⟩,rfl⟩,?_⟩;refine z0f (by kernel_rfl) ?_;refine⟨rfl,_,⟨wd.heap.size,rfl,M,Bz.row _,z0x hW M _⟩,?_⟩;simp only[z1V,Act.put,pgE,pjE];try rfl
  rintro vs X ⟨g,rfl,hg,Bg,hX⟩;simp only[z1V,Act.put,pjE];have ah:Below w.heap.size w X:=hB.trans (hX.mono hB.size);have aF:=Rb.below hX;have aV:=Bx.below hX;have bp:w.heap.size+1<g:=by omega
  have bl:=hR.below ah;have bj:=hG.below ah;have p2:=aV.cell 2 _ rfl;clear hX hB Rb Bx aA ai
  go_wp2
  clear p2;generalize aO:c.map RoundQ.e=rs at*;have ae:=q2t hF;have L:rs.length=c.length:=by rw[←aO,List.length_map]
  go_loopw[25] (fun j wr=>∃k:Nat,k≤c.length∧j=.int .i64 k∧Hid (Blk wr g 149 (brdC has (.slice ba d.length bk) (rs.take k) [d0,d1,d2]).toArray)∧Hid (Out [g] X wr)) (fun j _=>c.length-(intOf j).toNat)
  case atStart=>exact⟨0,Nat.zero_le _,rfl,Bg,Out.refl _ _⟩
  case round=>
   obtain⟨k,hk,rfl,HB,HO⟩:=hrel;have y:Below w.heap.size w wr:=Out.keep ah HO.out ah.size (fun k hk=>by simp only[List.mem_singleton]at hk;omega);by_cases J:k<c.length
   ·obtain⟨rb,ro,bc,bn,hc,bd⟩:=(hR.below y).cell (by decide) k J;have av:∀j x,(roundK.cells c[k])[j]?=some x→wr.cell? ⟨rb,ro+k*2+j,none⟩=some x:=hc;have r0:=av 0 (c[k].vr) rfl;have r1:=av 1 (c[k].vp) rfl;have ar:rs.getD k z0D=RoundQ.e c[k]:=by rw[←aO];exact z07 c k J
    obtain⟨ab,ad⟩:=z1t hF k (by rw[L];exact J);rw[ar]at ab ad;replace ab:vf c[k].rep 1=0:=ab;replace ad:vf c[k].pro 2=0:=ad;have aK:rs[k]'(by rw[L];exact J)=RoundQ.e c[k]:=by rw[←ar];simp[List.getD,show k<rs.length by rw[L];exact J]
    have aE:Hid (rs.take (k+1)=rs.take k++[RoundE.mk c[k].rep c[k].pro]):=by
     rw[List.take_succ_eq_append_getElem (show k<rs.length by rw[L];exact J),aK];exact(rfl:_=_)
    have aN:roundK.rd w c[k]:=by
     obtain⟨_,_,_,_,_,hx⟩:=hR.cell (by decide) k J;exact hx
    obtain⟨aG,aH⟩:intK.At w c[k].vr c[k].rep∧intK.At w c[k].vp c[k].pro:=aN;clear hc av ar aK bd;generalize c[k].vr=qv at*;generalize c[k].rep=qr at*;generalize c[k].vp=qw at*;generalize c[k].pro=qp at*;obtain⟨xa,xc,xb,xo,rfl,be,_,aT⟩:=z2W aG ab 0 (by omega);obtain⟨ya,yc,yb,yo,rfl,bf,_,aU⟩:=z2W aH ad 0 (by omega);subst bc be bf;obtain⟨x0,x1,x2,rfl⟩:=z8S (z0P ab);obtain⟨y0,y1,y2,rfl⟩:=z8S (z0P ad);have By:=Blk.new wr 78 #[.slice (some ⟨xb,xo,none⟩) 3 xc,.slice (some ⟨yb,yo,none⟩) 3 yc];have ak:Below wr.heap.size wr (wr.alloc (.cells #[.slice (some ⟨xb,xo,none⟩) 3 xc,.slice (some ⟨yb,yo,none⟩) 3 yc] 78)):=by go_grown
    have aD:Hid (Out [g] X (wr.alloc (.cells #[.slice (some ⟨xb,xo,none⟩) 3 xc,.slice (some ⟨yb,yo,none⟩) 3 yc] 78))):=HO.out.call ak;have aC:Hid (Blk (wr.alloc (.cells #[.slice (some ⟨xb,xo,none⟩) 3 xc,.slice (some ⟨yb,yo,none⟩) 3 yc] 78)) g 149 (brdC has (.slice ba d.length bk) (rs.take k) [d0,d1,d2]).toArray):=HB.out.below ak;have bq:g<wr.heap.size:=HB.out.lt;have aQ:wr.heap.size≠g:=by omega
    replace y:=y.trans (ak.mono y.size);rw[Nat.add_zero]at r0;clear HB HO ak aG aH
    go_wp2_with fail
    clear r0 r1;generalize wr.alloc (.cells #[.slice (some ⟨xb,xo,none⟩) 3 xc,.slice (some ⟨yb,yo,none⟩) 3 yc] 78)=Y at*;have I:∀W',Out [g] Y W'→Below w.heap.size w W':=fun W' aZ=>Out.keep y aZ y.size (fun k hk=>by simp only[List.mem_singleton]at hk;omega)
    have am:=fun w' aY=>z6U g 149 (rs.take k) ([.bool has,.slice ba d.length bk]++[d0,d1,d2].map iv) ⟨[x0,x1,x2],[y0,y1,y2]⟩ w' aY (q1P ae k) ⟨rfl,rfl⟩ (by rw[List.length_take];omega)
    have aM:Nonempty (LatO [g] Y):=⟨⟨Y,Out.refl _ _⟩⟩
    have hW:Out [g] Y Y.drew:=Out.of_below ((Below.refl _ _).drew);have p0:=z6V (F:=[g]) (By.cell 0 _ rfl) (by simp only[List.mem_singleton];exact aQ);have p1:=z6V (F:=[g]) (By.cell 1 _ rfl) (by simp only[List.mem_singleton];exact aQ);have N:=aC.out.below (w':=Y.drew) ((Below.refl _ _).drew);refine z0b (S:=fun w'=>∃u:LatO [g] Y,w'=u.val) (by kernel_rfl) ?_;refine sgr [(0,3),(4,2)] 4 (by kernel_rfl) ⟨⟨_,hW⟩,rfl⟩ ?_;simp only[pkE];repeat go_big_quiet_step (fail)
    refine wpQuiet_nil ?_;refine cla 3 (some 32) 116 #[.slice (some ⟨xb,xo,none⟩) 3 xc] 3 (by kernel_rfl) ?_;refine(aa _ xb xo xc _ (aT.below (I _ hW)) rfl).mono ?_;rintro e w8 ⟨rfl,A⟩;replace hW:=hW.call A;replace N:=N.below A;clear A;refine⟨_,rfl,⟨⟨_,hW⟩,rfl⟩,?_⟩;simp only[Act.put,pjE];refine cla 6 (some 35) 116 #[.slice (some ⟨yb,yo,none⟩) 3 yc] 2 (by kernel_rfl) ?_;refine(aa _ yb yo yc _ (aU.below (I _ hW)) rfl).mono ?_;rintro e w9 ⟨rfl,au⟩;replace hW:=hW.call au;replace N:=N.below au;clear au;refine⟨_,rfl,⟨⟨_,hW⟩,rfl⟩,?_⟩;simp only[Act.put,pjE];refine qta 7 (some 36) (.agg (z1f ⟨[x0,x1,x2],[y0,y1,y2]⟩).toArray) 1 (by kernel_rfl) (fun u _=>by kernel_rfl) ⟨⟨_,hW⟩,rfl⟩ ?_;simp only[Act.put,pjE];refine cla 8 (some 37) 117 #[.pointer (some ⟨g,0,none⟩),.agg (z1f ⟨[x0,x1,x2],[y0,y1,y2]⟩).toArray] 0 (by kernel_rfl) ?_;refine(am w9 N).mono ?_;rintro e aS ⟨rfl,al,aR⟩;replace hW:=hW.trans aR;clear aR;refine⟨_,rfl,⟨⟨_,hW⟩,rfl⟩,?_⟩;simp only[Act.put,pjE];refine z0f (by kernel_rfl) ?_;have aW:Hid (Blk aS g 149 (brdC has (.slice ba d.length bk) (rs.take (k+1)) [d0,d1,d2]).toArray):=by rw[aE.out];exact al
    have aX:Hid (Out [g] X aS):=aD.out.trans hW;clear al hW am aC aD p0 p1 aM I aE
    go_wp2
    go_roundw
    case rel=>exact⟨k+1,by omega,by go_num,aW.out,aX.out⟩
    case measure=>simp[intOf];omega
   ·have a7:k=c.length:=by omega
    subst a7;have Bw:=HB.out;rw[←L,List.take_length]at Bw;have Rw:Blk wr (w.heap.size+1) 149 brd0.toArray:=(HO.out.block _ aF.lt (by simp only[List.mem_singleton];omega)).trans aF;have U:=z2C (has:=has) (vb:=.slice ba d.length bk) (dec:=[d0,d1,d2]) ae (by rw[L];exact h4) rfl;have aL:=z7X has (.slice ba d.length bk) rs [d0,d1,d2] wr (hG.below y) ae (by rw[L];exact h4) rfl;have E:=rng Bw (brdC has (.slice ba d.length bk) rs [d0,d1,d2]) (o:=0) (fun j v hv=>by rw[Nat.zero_add,List.getElem?_toArray];exact hv);have D:(Tryz.prog.info? 149).map (·.size)=some (brdC has (.slice ba d.length bk) rs [d0,d1,d2]).length:=by rw[U];exact z2V
    have ay:(brdC has (.slice ba d.length bk) rs [d0,d1,d2]).toArray.all (·.oneCell')=true:=all_oneCell_toArray (fun v hv=>by
     simp only[brdC,rndC,z3i,List.mem_append,List.mem_cons,List.mem_flatMap,List.mem_replicate,List.mem_map,z1f,List.not_mem_nil,or_false]at hv;rcases hv with (rfl | ⟨r,_,z,_,rfl⟩ | ⟨_,rfl⟩) | (rfl | rfl) | ⟨z,_,rfl⟩ <;> rfl)
    clear HB HO aa;generalize bm:((List.range rs.length).all (z9M has rs) && z45 rs [d0,d1,d2])=XX at*;generalize bo:brdC has (.slice ba d.length bk) rs [d0,d1,d2]=cs at*
    go_wp2_with (refine z9b (by kernel_rfl) 149 _ rfl _ _ rfl cs _ E Tryz.underlying149 rfl D ?_)
    refine aL.mono ?_;rintro e w5 ⟨rfl,T⟩;replace Rw:=Rw.below T;replace Bw:=Bw.below T;replace y:=y.trans (T.mono y.size);replace E:=z17 E T;clear aL T
    cases XX with
    |false=>
     have E1:Hid (C=10):=by rw[ag.out];exact(rfl:_=_)
     have E2:Hid (BD=brd0):=by
      have:=af.out;rw[E1.out,if_neg (by decide)]at this;exact this.symm
     clear ag af E
     go_wp2_with (refine z1n (by kernel_rfl) 149 _ _ rfl _ #[.int .i64 0,.int .i64 0,.int .i64 0,.int .i64 0,.int .i64 0,.int .i64 0,.int .i64 0,.int .i64 0,.int .i64 0,.int .i64 0,.int .i64 0,.int .i64 0,.int .i64 0,.int .i64 0,.int .i64 0,.int .i64 0,.int .i64 0,.int .i64 0,.int .i64 0,.int .i64 0,.int .i64 0,.int .i64 0,.int .i64 0,.int .i64 0,.int .i64 0,.bool false,.slice none 0 0,.int .i64 0,.int .i64 0,.int .i64 0] rfl rfl 149 _ Rw ap V Z ?_)
     rw[E2.out,E1.out];exact bodyPost_ret (v:=.tuple #[.agg brd0.toArray,.int .i64 10]) (z2E Tryz.results91 _ _ (w.heap.size+1) brd0.toArray _ rfl rfl (q0w (Rw.row _) rfl)) rfl ⟨rfl,z0x y (by omega) _⟩
    |true=>
     have E1:Hid (C=0):=by rw[ag.out];exact(rfl:_=_)
     have E2:Hid (BD=cs):=by
      have:=af.out;rw[E1.out,if_pos rfl]at this;exact this.symm
     have aP:(Tryz.prog.info? 149).map (·.size)=some cs.toArray.size:=D;have ax:brd0.toArray.size=cs.toArray.size:=(show 30=cs.length from U.symm)
     clear ag af
     go_wp2_with (first|(refine z9b (by kernel_rfl) 149 _ rfl _ _ rfl cs _ E Tryz.underlying149 rfl D ?_)|(refine z1n (by kernel_rfl) 149 _ _ rfl _ cs.toArray rfl rfl 149 _ Rw aP ax ay ?_))
     rw[E2.out,E1.out];exact bodyPost_ret (v:=.tuple #[.agg cs.toArray,.int .i64 0]) (z2E Tryz.results91 _ _ (w.heap.size+1) cs.toArray _ rfl rfl (q0w (Rw.row _) U)) rfl ⟨rfl,z0x y (by omega) _⟩
 ·have hC:C≠0∧C=shpF (InstQ.e ⟨has,.slice ba d.length bk,d,.slice va c.length vk,c,.slice da dec.length dk,dec⟩):=by
   have:=HC.out.1;unfold insF at this;rw[if_neg h0]at this;exact⟨by rw[←this];exact h0,this.symm⟩
  have E2:Hid (BD=brd0):=by
   have:=HC.out.2;rw[if_neg hC.1]at this;exact this.symm
  rw[←hC.2];have bi:(C !=0)=true:=by simpa using hC.1
  clear HC h0 hC hR hT hD
  go_wp2_with (refine z1n (by kernel_rfl) 149 _ _ rfl _ #[.int .i64 0,.int .i64 0,.int .i64 0,.int .i64 0,.int .i64 0,.int .i64 0,.int .i64 0,.int .i64 0,.int .i64 0,.int .i64 0,.int .i64 0,.int .i64 0,.int .i64 0,.int .i64 0,.int .i64 0,.int .i64 0,.int .i64 0,.int .i64 0,.int .i64 0,.int .i64 0,.int .i64 0,.int .i64 0,.int .i64 0,.int .i64 0,.int .i64 0,.bool false,.slice none 0 0,.int .i64 0,.int .i64 0,.int .i64 0] rfl rfl 149 _ Rb ap V Z ?_)
  rw[E2.out];exact bodyPost_ret (v:=.tuple #[.agg brd0.toArray,.int .i64 C]) (z2E Tryz.results91 _ _ (w.heap.size+1) brd0.toArray _ rfl rfl (q0w (Rb.row _) rfl)) rfl ⟨rfl,z0x hB (by omega) _⟩
end Go.Proofs.YtljbililjlafcaaGreatDoor
