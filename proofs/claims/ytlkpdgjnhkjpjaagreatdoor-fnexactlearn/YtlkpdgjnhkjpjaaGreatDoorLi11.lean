import Derived.Test.YtlkpdgjnhkjpjaaGreatDoorLe11
import Derived.Test.YtlkpdgjnhkjpjaaGreatDoorLp11
import Derived.Test.YtlkpdgjnhkjpjaaGreatDoorSYAT
import Derived.Test.YtlkpdgjnhkjpjaaGreatDoorSYBF
import Derived.Test.YtlkpdgjnhkjpjaaGreatDoorSYBQ
set_option linter.unusedVariables false
set_option linter.unusedSimpArgs false
set_option maxRecDepth 100000
set_option maxHeartbeats 16000000
namespace Go.Proofs.YtlkpdgjnhkjpjaaGreatDoor
open Go.RowKit Go.BigFrame
open InstQ renaming e->b
open IntKind renaming i64->R
open Value renaming int->E,slice->S
open Go.Proofs.Tryz
theorem z53(v:Value)(ps:List InstQ)(kn sf:Int)(p:RepQ)(w:World)(hG:Rul w)(hE:ErrT w)(h:instK.Own w v ps)(hl:(ps.length+nmL InstQ.n ps)≤1048576)(hp:repK.own w p)(aj:p.n≤1048576):
    Calls Tryz.prog 13 #[v,.agg #[E R kn,E R sf,p.vd,p.vb,p.vt,p.vu,p.vn]] w fun e w'=>∃q:RepQ,e=.returned (.agg #[E R (leC (ps.map b) kn sf p.e),E R (leA (ps.map b) kn sf p.e),E R (leK (ps.map b) kn sf p.e),E R (leS (ps.map b) kn sf p.e),q.vd,q.vb,q.vt,q.vu,q.vn])∧q.e=leE (ps.map b) kn sf p.e∧repK.own w' q∧(repK.foot q).Nodup∧(∀k∈repK.foot q,w.heap.size≤k)∧Below w.heap.size w w':=by
  have ak:=fun w hG hE h hp=>z9U v ps kn sf p w hG hE h hl hp aj
  have ap:=fun g q w hG B h=>q1f g kn sf q v ps w hG B h hl
  have ao:=fun g q (hq:RepQ.e q=p.e) w hG hE B h h1 h2 h3 h4=>q7l g kn sf q v ps w hG hE B h hl h1 h2 h3 h4
  have HF:Hid (nodF (ps.map b) kn sf p.e≠0→_):=fun h0=>q7p h0
  have ab:Hid (nodF (ps.map b) kn sf p.e=0→¬kn<(decN (ps.map b):Int)→_):=fun h0 h1=>q7q h0 h1
  have ag:Hid (nodF (ps.map b) kn sf p.e=0→kn<(decN (ps.map b):Int)→_):=fun h0 h1=>q7s h0 h1
  have Z:Hid (nodF (ps.map b) kn sf p.e=0→diV (ps.map b)=(decN (ps.map b):Int)):=fun h0=>q7r h0
  have af:Hid (∀q:RepQ,q.e=p.e→q.n≤1048576):=fun q hq=>by rw[q6w hq];exact aj
  have t:=fun(w':World) (hb:Below w.heap.size w w')=>repK.own_out (F:=[]) (w':=w') hp (Out.of_below hb) (fun _ _=>by simp)
  have Y:∀ (g:Nat) (q:RepQ) (hq:RepQ.e q=p.e) w (hG:Rul w) (hE:ErrT w) (B:Blk w g 31 #[E R kn,E R sf,q.vd,q.vb,q.vt,q.vu,q.vn]) (h:instK.Own w v ps) (h1:repK.own w q) (h2:q.n≤1048576) (h3:g∉repK.foot q) (h4:nodF (ps.map b) kn sf p.e=0) (h5:kn<(decN (ps.map b):Int)),Calls Tryz.prog 54 #[.pointer (some ⟨g,0,none⟩),v] w fun e w'=>∃q9:RepQ,e=.returned (.tuple #[E R (dlA p.e (q4G (ps.map b) kn p.e)),E R 0])∧Blk w' g 31 #[E R (kn+1),E R sf,q9.vd,q9.vb,q9.vt,q9.vu,q9.vn]∧q9.e=dlE p.e (q4G (ps.map b) kn p.e)∧repK.own w' q9∧(repK.foot q9).Nodup∧(∀k∈repK.foot q9,w.heap.size≤k)∧Out [g] w w':=fun g q hq w hG hE B h h1 h2 h3 h4 h5=>by
    have:=ao g q hq w hG hE B h h1 h2 h3 (by rw[hq];exact h4) h5;rw[hq]at this;exact this
  clear ao hp aj;generalize dlA p.e (q4G (ps.map b) kn p.e)=AA at*;generalize dlE p.e (q4G (ps.map b) kn p.e)=EE at*;generalize leC (ps.map b) kn sf p.e=LC at*;generalize leA (ps.map b) kn sf p.e=LA at*;generalize leK (ps.map b) kn sf p.e=LK at*;generalize leS (ps.map b) kn sf p.e=LS at*;generalize leE (ps.map b) kn sf p.e=LE at*;generalize nodF (ps.map b) kn sf p.e=D at*;generalize (decN (ps.map b):Int)=M at*;generalize diV (ps.map b)=VV at*;generalize p.e=PE at*;obtain⟨vd,done,vb,m,vt,r,vu,l,vn,y⟩:=p;obtain⟨a0,k0,rfl⟩:∃a c,vd=S a done.length c:=(t w (Below.refl _ _)).1.shape;obtain⟨a1,k1,rfl⟩:∃a c,vb=S a m.length c:=(t w (Below.refl _ _)).2.1.shape;obtain⟨a2,k2,rfl⟩:∃a c,vt=S a r.length c:=(t w (Below.refl _ _)).2.2.1.shape;obtain⟨a3,k3,rfl⟩:∃a c,vu=S a l.length c:=(t w (Below.refl _ _)).2.2.2.1.shape;obtain⟨a4,k4,rfl⟩:∃a c,vn=S a y.length c:=(t w (Below.refl _ _)).2.2.2.2.shape;obtain⟨va,vc,rfl⟩:=h.shape;dsimp only at ak t;have ad:Hid _:=ak;have aa:Hid _:=ap;have U:Hid _:=Y;have ae:Hid _:=t;have HH:Hid (instK.Own w (S va ps.length vc) ps):=h;have x:Hid (∀ (w':World) (hb:Below w.heap.size w w'),instK.Own w' (S va ps.length vc) ps):=fun w' hb=>h.below hb
  have s:Hid (Rul w∧ErrT w):=⟨hG,hE⟩
  clear ak t ap Y h hG hE;have b0:Below w.heap.size w ((w.alloc (.cells #[E R kn,E R sf,S a0 done.length k0,S a1 m.length k1,S a2 r.length k2,S a3 l.length k3,S a4 y.length k4] 31)).alloc (.cells #[E R 0,E R 0,E R 0,E R 0,S none 0 0,S none 0 0,S none 0 0,S none 0 0,S none 0 0] 35)):=by go_grown
  have A0:=(Blk.new w 31 #[E R kn,E R sf,S a0 done.length k0,S a1 m.length k1,S a2 r.length k2,S a3 l.length k3,S a4 y.length k4]).below (w':=(w.alloc (.cells #[E R kn,E R sf,S a0 done.length k0,S a1 m.length k1,S a2 r.length k2,S a3 l.length k3,S a4 y.length k4] 31)).alloc (.cells #[E R 0,E R 0,E R 0,E R 0,S none 0 0,S none 0 0,S none 0 0,S none 0 0,S none 0 0] 35)) (by go_grown);have Rb:=Blk.new (w.alloc (.cells #[E R kn,E R sf,S a0 done.length k0,S a1 m.length k1,S a2 r.length k2,S a3 l.length k3,S a4 y.length k4] 31)) 35 #[E R 0,E R 0,E R 0,E R 0,S none 0 0,S none 0 0,S none 0 0,S none 0 0,S none 0 0];simp only[World.size_alloc]at Rb;obtain⟨p0,p1,p2,p3,p4,p5,p6⟩:=A0.cel7;go_enter func13,ntmps13
  go_wp2_with fail
  clear p0 p1 p2 p3 p4 p5 p6;generalize (w.alloc (.cells #[E R kn,E R sf,S a0 done.length k0,S a1 m.length k1,S a2 r.length k2,S a3 l.length k3,S a4 y.length k4] 31)).alloc (.cells #[E R 0,E R 0,E R 0,E R 0,S none 0 0,S none 0 0,S none 0 0,S none 0 0,S none 0 0] 35)=W at*;have aA:=Rb.lt;refine(ad.out W (s.out.1.below b0) (s.out.2.below b0) (x.out W b0) (ae.out W b0)).mono ?_;rintro e w1 (⟨hD,rfl,hb⟩|⟨hD,g,q9,rfl,Bg,e9,o9,n9,ar,hg,hb⟩)
  ·replace Rb:=Rb.below hb;replace b0:=b0.trans (hb.mono b0.size);have HS:Hid _:=HF.out hD;have ai:(D !=0)=true:=by simpa using hD
   clear HF ab ag Z af ad aa U ae HH x s A0 hb;have Rr:=Rb.row #[E R D,E R 0,E R 0,E R 0,S none 0 0,S none 0 0,S none 0 0,S none 0 0,S none 0 0];have ah:=z0j b0 (g:=w.heap.size+1) (by omega) #[E R D,E R 0,E R 0,E R 0,S none 0 0,S none 0 0,S none 0 0,S none 0 0,S none 0 0];have K:(Tryz.prog.info? 35).map (·.size)=some (#[E R D,E R 0,E R 0,E R 0,S none 0 0,S none 0 0,S none 0 0,S none 0 0,S none 0 0]:Array Value).size:=by kernel_rfl
   go_wp2_with (refine z0r (by kernel_rfl) 35 _ _ rfl _ #[E R D,E R 0,E R 0,E R 0,S none 0 0,S none 0 0,S none 0 0,S none 0 0,S none 0 0] rfl rfl 35 _ Rb K rfl (by simp[Value.oneCell']) ?_)
   obtain⟨r0,r1,r2,r3,r4,r5,r6,r7,r8⟩:=Rr.cel9;obtain⟨T,u⟩:=z0u (w1.setRow (w.heap.size+1) #[E R D,E R 0,E R 0,E R 0,S none 0 0,S none 0 0,S none 0 0,S none 0 0,S none 0 0]);exact bodyPost_ret (v:=.agg #[E R D,E R 0,E R 0,E R 0,S none 0 0,S none 0 0,S none 0 0,S none 0 0,S none 0 0]) (by simp[results,results13,go_sem,r0,r1,r2,r3,r4,r5,r6,r7,r8]) rfl ⟨q0t,by rw[HS.out.1,HS.out.2.1,HS.out.2.2.1,HS.out.2.2.2.1];rfl,by rw[HS.out.2.2.2.2];rfl,T,by rw[u];simp,by rw[u];simp,ah⟩
  ·replace Rb:=Rb.below hb;replace b0:=b0.trans (hb.mono b0.size);have au:=Z.out hD;subst au;have z:Hid _:=ab.out hD;have A:Hid _:=ag.out hD;have am:Hid (D=0):=hD;clear hD ab ag HF Z A0 hb ad ae;have ai:((0:Int) !=0)=false:=by decide
   have aB:=Bg.lt;have HQ:Hid (q9.e=PE∧(∀k∈repK.foot q9,W.heap.size≤k∧k≠g)∧q9.n≤1048576):=⟨e9,ar,af.out q9 e9⟩
   clear e9 n9 ar af
   go_wp2_with fail
   clear ai;refine(aa.out g q9 w1 (s.out.1.below b0) Bg (x.out w1 b0).at).mono ?_;rintro e w2 ⟨rfl,hb⟩;replace Rb:=Rb.below hb;replace Bg:=Bg.below hb;replace o9:=repK.own_out (F:=[]) o9 (Out.of_below hb) (fun _ _=>by simp);replace b0:=b0.trans (hb.mono b0.size);have aE:=hb.size;clear hb aa;by_cases hk:kn<VV
   case neg=>
     have HS:Hid _:=z.out (by omega);have X:decide (kn<VV)=false:=by simpa using hk
     have an:(!decide (kn<VV))=true:=by rw[X];rfl
     clear z A U x s HQ hk HH o9 Bg;have Rr:=Rb.row #[E R 4,E R 0,E R 0,E R 0,S none 0 0,S none 0 0,S none 0 0,S none 0 0,S none 0 0];have ah:=z0j b0 (g:=w.heap.size+1) (by omega) #[E R 4,E R 0,E R 0,E R 0,S none 0 0,S none 0 0,S none 0 0,S none 0 0,S none 0 0];have K:(Tryz.prog.info? 35).map (·.size)=some (#[E R 4,E R 0,E R 0,E R 0,S none 0 0,S none 0 0,S none 0 0,S none 0 0,S none 0 0]:Array Value).size:=by kernel_rfl
     go_wp2_with (refine z0r (by kernel_rfl) 35 _ _ rfl _ #[E R 4,E R 0,E R 0,E R 0,S none 0 0,S none 0 0,S none 0 0,S none 0 0,S none 0 0] rfl rfl 35 _ Rb K rfl (by simp[Value.oneCell']) ?_)
     obtain⟨r0,r1,r2,r3,r4,r5,r6,r7,r8⟩:=Rr.cel9;obtain⟨T,u⟩:=z0u (w2.setRow (w.heap.size+1) #[E R 4,E R 0,E R 0,E R 0,S none 0 0,S none 0 0,S none 0 0,S none 0 0,S none 0 0]);exact bodyPost_ret (v:=.agg #[E R 4,E R 0,E R 0,E R 0,S none 0 0,S none 0 0,S none 0 0,S none 0 0,S none 0 0]) (by simp[results,results13,go_sem,r0,r1,r2,r3,r4,r5,r6,r7,r8]) rfl ⟨q0t,by rw[HS.out.1,HS.out.2.1,HS.out.2.2.1,HS.out.2.2.2.1];rfl,by rw[HS.out.2.2.2.2];rfl,T,by rw[u];simp,by rw[u];simp,ah⟩
   have HS:Hid _:=A.out hk;have X:decide (kn<VV)=true:=by simpa using hk
   have an:(!decide (kn<VV))=false:=by rw[X];rfl
   have HK:Hid (kn<VV):=hk;clear z A hk
   go_wp2_with fail
   clear X an;refine(U.out g q9 HQ.out.1 w2 (s.out.1.below b0) (s.out.2.below b0) Bg (x.out w2 b0) o9 HQ.out.2.2 (fun hk=>(HQ.out.2.1 g hk).2 rfl) am.out HK.out).mono ?_;rintro e w3 ⟨q8,rfl,al,e8,o8,n8,aq,hU⟩;have aC:W.heap.size≤g:=hg;have b3:=Out.keep b0 hU b0.size (fun k hk=>by simp at hk;omega);have R3:Blk _ _ _ _:=(hU.block _ Rb.lt (by simp;omega)).trans Rb;have aD:=b0.size;have V:Hid (q8.e=EE∧(repK.foot q8).Nodup∧∀k∈repK.foot q8,w.heap.size+1<k):=⟨e8,n8,fun k hk=>by have:=aq k hk;omega⟩
   clear e8 n8 aq hU U x s HQ HH o9 Bg Rb b0 am HK;obtain⟨aw,i,av,f,ay,j,az,d,ax,o⟩:=q8;obtain⟨C,L,rfl⟩:∃a c,aw=S a i.length c:=o8.1.shape;obtain⟨G,N,rfl⟩:∃a c,av=S a f.length c:=o8.2.1.shape;obtain⟨H,O,rfl⟩:∃a c,ay=S a j.length c:=o8.2.2.1.shape;obtain⟨I,P,rfl⟩:∃a c,az=S a d.length c:=o8.2.2.2.1.shape;obtain⟨J,Q,rfl⟩:∃a c,ax=S a o.length c:=o8.2.2.2.2.shape;have Rr:=R3.row #[E R 0,E R AA,E R (kn+1),E R sf,S C i.length L,S G f.length N,S H j.length O,S I d.length P,S J o.length Q];have U3:=z1I w3 (w.heap.size+1) #[E R 0,E R AA,E R (kn+1),E R sf,S C i.length L,S G f.length N,S H j.length O,S I d.length P,S J o.length Q];have O3:=repK.own_out o8 U3 (fun k hk=>by have:=V.out.2.2 k hk;simp;omega);have b4:=Out.keep b3 U3 b3.size (fun k hk=>by simp at hk;omega);have K:(Tryz.prog.info? 35).map (·.size)=some (#[E R 0,E R AA,E R (kn+1),E R sf,S C i.length L,S G f.length N,S H j.length O,S I d.length P,S J o.length Q]:Array Value).size:=by kernel_rfl
   have ai:((0:Int) !=0)=false:=by decide
   obtain⟨p0,p1,p2,p3,p4,p5,p6⟩:=al.cel7;clear o8 U3 al
   go_wp2_with (refine z0r (by kernel_rfl) 35 _ _ rfl _ #[E R 0,E R AA,E R (kn+1),E R sf,S C i.length L,S G f.length N,S H j.length O,S I d.length P,S J o.length Q] rfl rfl 35 _ R3 K rfl (by simp[Value.oneCell']) ?_)
   obtain⟨r0,r1,r2,r3,r4,r5,r6,r7,r8⟩:=Rr.cel9;exact bodyPost_ret (v:=.agg #[E R 0,E R AA,E R (kn+1),E R sf,S C i.length L,S G f.length N,S H j.length O,S I d.length P,S J o.length Q]) (by simp[results,results13,go_sem,r0,r1,r2,r3,r4,r5,r6,r7,r8]) rfl ⟨_,by rw[HS.out.1,HS.out.2.1,HS.out.2.2.1,HS.out.2.2.2.1],by rw[HS.out.2.2.2.2];exact V.out.1,O3,V.out.2.1,fun k hk=>by have:=V.out.2.2 k hk;omega,b4⟩
end Go.Proofs.YtlkpdgjnhkjpjaaGreatDoor
