import Derived.Test.YtlkpdgjnhkjpjaaGreatDoorSYAT
import Derived.Test.YtlkpdgjnhkjpjaaGreatDoorSYBF
import Derived.Test.YtlkpdgjnhkjpjaaGreatDoorSYBQ
import Derived.Test.YtlkpdgjnhkjpjaaGreatDoorLp11
set_option linter.unusedVariables false
set_option linter.unusedSimpArgs false
set_option maxRecDepth 100000
set_option maxHeartbeats 16000000
namespace Go.Proofs.YtlkpdgjnhkjpjaaGreatDoor
open Go.RowKit Go.BigFrame
open InstQ renaming e->p
open IntKind renaming i64->R
open Value renaming int->E,slice->D
open Go.Proofs.Tryz
theorem q1f(g:Nat)(kn sf:Int)(q:RepQ)(v:Value)(ps:List InstQ)(w:World)(hG:Rul w)(B:Blk w g 31 #[E R kn,E R sf,q.vd,q.vb,q.vt,q.vu,q.vn])(h:instK.At w v ps)(hl:(ps.length+nmL InstQ.n ps)≤1048576):
    Calls Tryz.prog 53 #[.pointer (some ⟨g,0,none⟩),v] w fun e w'=>e=.returned (.bool (decide (kn<diV (ps.map p))))∧Below w.heap.size w w':=by
  have hdi:=fun w hG h=>z2a v ps w hG h hl
  generalize diV (ps.map p)=VV at*;generalize ordF (ps.map p)=C at*;obtain⟨va,vc,rfl⟩:=h.shape;have HG:Hid (Rul w):=hG;have HH:Hid (instK.At w (D va ps.length vc) ps):=h;have HDI:Hid _:=hdi;have k0:=B.lat 0 _ rfl;clear hG h hdi B;go_enter func53,ntmps53
  go_wp2_with fail
  have hW:Below w.heap.size w w.drew:=(Below.refl _ _).drew;have hnn:Nonempty (Lat w):=⟨⟨w,Below.refl _ _⟩⟩
  refine z0b (S:=fun w'=>∃u:Lat w,w'=u.val) (by kernel_rfl) ?_;refine sgr [(0,5)] 4 (by kernel_rfl) ⟨⟨_,hW⟩,rfl⟩ ?_;simp only[pkE];repeat go_big_quiet_step (fail)
  refine wpQuiet_nil ?_;refine cla 5 (some 10) 33 #[D va ps.length vc] 3 (by kernel_rfl) ?_;refine(HDI.out _ (HG.out.below hW) (HH.out.below hW)).mono ?_;rintro e w9 ⟨rfl,hb9⟩;replace hW:=hW.trans (hb9.mono hW.size);clear hb9;refine⟨_,rfl,⟨⟨_,hW⟩,rfl⟩,?_⟩;simp only[Act.put,pjE];refine qta 6 (some 11) (E R VV) 2 (by kernel_rfl) (fun u _=>by kernel_rfl) ⟨⟨_,hW⟩,rfl⟩ ?_;simp only[Act.put,pjE];refine sgr [(7,2)] 0 (by kernel_rfl) ⟨⟨_,hW⟩,rfl⟩ ?_;simp only[pkE];repeat go_big_quiet_step (fail)
  refine wpQuiet_nil ?_;refine z0e (by kernel_rfl) ?_;clear k0 hnn
  go_wp2
  go_ret;exact⟨rfl,hW⟩
theorem q7l(g:Nat)(kn sf:Int)(q:RepQ)(v:Value)(ps:List InstQ)(w:World)(hG:Rul w)(hE:ErrT w)(B:Blk w g 31 #[E R kn,E R sf,q.vd,q.vb,q.vt,q.vu,q.vn])(h:instK.Own w v ps)(hl:(ps.length+nmL InstQ.n ps)≤1048576)(hq:repK.own w q)(aj:q.n≤1048576)(hg:g∉repK.foot q)(h0:nodF (ps.map p) kn sf q.e=0)(hk:kn<(decN (ps.map p):Int)):
    Calls Tryz.prog 54 #[.pointer (some ⟨g,0,none⟩),v] w fun e w'=>∃q9:RepQ,e=.returned (.tuple #[E R (dlA q.e (q4G (ps.map p) kn q.e)),E R 0])∧Blk w' g 31 #[E R (kn+1),E R sf,q9.vd,q9.vb,q9.vt,q9.vu,q9.vn]∧q9.e=dlE q.e (q4G (ps.map p) kn q.e)∧repK.own w' q9∧(repK.foot q9).Nodup∧(∀k∈repK.foot q9,w.heap.size≤k)∧Out [g] w w':=by
  have ag:=h.capOk;have ah:=fun w hG h=>z4a v ps (kn+1) w hG h ag hl
  have hz:=z3j h0;obtain⟨d1,d2,d3,d4⟩:=z57 h0 hk;have Q:Hid (∀qs:List TxnQ,qs.map TxnQ.e=dfT (ps.map p) (kn+1)→q.done.length≤qs.length):=fun qs hq=>by
    have e:=congrArg List.length (hq.trans d2);rw[List.length_map,List.length_append]at e;have:q.e.done.length=q.done.length:=by show(q.done.map TxnQ.e).length=_;rw[List.length_map]
    omega
  have P:Hid (∀qs:List TxnQ,qs.map TxnQ.e=dfT (ps.map p) (kn+1)→(qs.map TxnQ.e).drop q.done.length=q4G (ps.map p) kn q.e):=fun qs hq=>by
    have:q.done.length=q.e.done.length:=by show _=(q.done.map TxnQ.e).length;rw[List.length_map]
    rw[hq,d2,this,List.drop_left]
  have Z:Hid (∀qs:List TxnQ,qs.map TxnQ.e=dfT (ps.map p) (kn+1)→qs.length+nmL TxnQ.n qs≤1048576):=fun qs hq=>q6X hq hl
  have HC:Hid (dlC q.e (q4G (ps.map p) kn q.e)=0):=q3q h0;have ai:=fun(v':Value) (rs:List TxnQ) (hr:rs.map TxnQ.e=q4G (ps.map p) kn q.e) w hE h1 h2 h3 h4 h5=>q3s q v' rs w hE h1 h2 h3 h4 aj h5
  have J:∀ (v':Value) (rs:List TxnQ) (hr:rs.map TxnQ.e=q4G (ps.map p) kn q.e) w (hE:ErrT w) (h1:repK.own w q) (h2:txnK.At w v' rs) (h3:z1Q v') (h4:z2F v') (h5:rs.length+nmL TxnQ.n rs≤1048576),Calls Tryz.prog 100 #[.agg #[q.vd,q.vb,q.vt,q.vu,q.vn],v'] w fun e w'=>∃q9:RepQ,e=.returned (.agg #[E R 0,E R (dlA q.e (q4G (ps.map p) kn q.e)),E R 0,q9.vd,q9.vb,q9.vt,q9.vu,q9.vn])∧q9.e=dlE q.e (q4G (ps.map p) kn q.e)∧repK.own w' q9∧(repK.foot q9).Nodup∧(∀k∈repK.foot q9,w.heap.size≤k)∧Below w.heap.size w w':=fun v' rs hr w hE h1 h2 h3 h4 h5=>by
    have:=ai v' rs hr w hE h1 h2 h3 h4 h5;rw[hr,HC.out]at this;exact this
  have T:Hid (∀ (w':World) (hb:Below w.heap.size w w'),repK.own w' q):=fun w' hb=>repK.own_out (F:=[]) (w':=w') hq (Out.of_below hb) (fun _ _=>by simp)
  have HG:Hid (Rul w):=hG;have HE:Hid (ErrT w):=hE;have HH:Hid (instK.At w v ps):=h.at;obtain⟨va,vc,rfl⟩:=h.shape;clear ai ag hG hE h hz d1 d2 HC h0 hk;generalize dlA q.e (q4G (ps.map p) kn q.e)=AA at*;generalize dlE q.e (q4G (ps.map p) kn q.e)=EE at*;generalize q4G (ps.map p) kn q.e=ML at*;generalize dfT (ps.map p) (kn+1)=DT at*;generalize dfC (ps.map p) (kn+1)=DC at*;obtain⟨vd,done,vb,N,vt,O,vu,L,vn,al⟩:=q;obtain⟨a0,k0,rfl⟩:∃a c,vd=D a done.length c:=hq.1.shape;obtain⟨a1,k1,rfl⟩:∃a c,vb=D a N.length c:=hq.2.1.shape;obtain⟨a2,k2,rfl⟩:∃a c,vt=D a O.length c:=hq.2.2.1.shape;obtain⟨a3,k3,rfl⟩:∃a c,vu=D a L.length c:=hq.2.2.2.1.shape;obtain⟨a4,k4,rfl⟩:∃a c,vn=D a al.length c:=hq.2.2.2.2.shape;dsimp only at J T Q P hg;have X:Hid _:=ah;have Y:Hid _:=J;clear ah J hq aj;obtain⟨k0,k1,k2,k3,k4,k5,k6⟩:=B.lts7;have aB:=B.lt;go_enter func54,ntmps54
  go_wp2_with fail
  have hW:Below w.heap.size w w.drew:=(Below.refl _ _).drew;have ap:Nonempty (Lat w):=⟨⟨w,Below.refl _ _⟩⟩
  refine z0b (S:=fun w'=>∃u:Lat w,w'=u.val) (by kernel_rfl) ?_;refine sgr [(0,6),(8,5)] 5 (by kernel_rfl) ⟨⟨_,hW⟩,rfl⟩ ?_;simp only[pkE];repeat go_big_quiet_step (fail)
  refine wpQuiet_nil ?_;refine qta 13 (some 21) (E R (done.length:Int)) 4 (by kernel_rfl) (fun u _=>by kernel_rfl) ⟨⟨_,hW⟩,rfl⟩ ?_;simp only[Act.put,pjE];refine cla 6 (some 14) 32 #[D va ps.length vc,E R (kn+1)] 3 (by kernel_rfl) ?_;refine(X.out _ (HG.out.below hW) (HH.out.below hW)).mono ?_;rintro e w9 ⟨vq,qs,rfl,eq,oq,_,_,af⟩;replace hW:=hW.trans (af.mono hW.size);obtain⟨xa,xc,rfl⟩:=oq.shape;have U:=oq.capK;have ak:qs.length=done.length+(qs.drop done.length).length:=by rw[List.length_drop];have:=Q.out qs eq;omega
  obtain⟨rs,K⟩:∃l,l=qs.drop done.length:=⟨_,rfl⟩
  rw[←K]at ak;obtain⟨ra,rc,W,aa,ae,ab⟩:∃ra rc,(∀u:Lat w,(Instr.sliceAt 25 (D xa qs.length xc) (some (E R (done.length:Int))) none none).run Tryz.prog u.val=.ok (D ra rs.length rc) u.val)∧(∀w',txnK.At w' (D xa qs.length xc) qs→txnK.At w' (D ra rs.length rc) rs)∧z1Q (D ra rs.length rc)∧z2F (D ra rs.length rc):=by
    refine⟨_,_,fun u=>?_,fun w' h=>by rw[K];exact h.dropS done.length (by omega) U.1 (xc-done.length),?_,?_⟩
    · rw[run_sliceAt_slice u.val 25 _ _ _ _ (by kernel_rfl),run_slice_l u.val 25 xa qs.length xc (by kernel_rfl) .i64 (done.length:Int) (by omega) (by omega),show rs.length=qs.length-done.length from by omega];rfl
    · intro a n c e;simp only[Value.slice.injEq]at e;obtain⟨e1,e2,e3⟩:=e;subst e1;rcases oq.niceV xa qs.length xc rfl with⟨ad,rfl⟩|⟨rfl,h1,h2⟩
      · left;by_cases hx:xc=done.length
        · exact⟨ad,if_pos hx⟩
        · exact⟨ad.add (done.length*txnK.size),if_neg hx⟩
      · right;exact⟨by split<;>rfl,by omega,by omega⟩
    · exact⟨by omega,by have:=U.2;omega⟩
  have ao:rs.map TxnQ.e=ML:=by rw[K,List.map_drop];exact P.out qs eq
  have aq:rs.length+nmL TxnQ.n rs≤1048576:=by rw[K];have:=q0y qs done.length;have:=Z.out qs eq;omega
  clear ak U K;clear af;refine⟨_,rfl,⟨⟨_,hW⟩,rfl⟩,?_⟩;simp only[Act.put,pjE];refine qta 7 (some 15) (D xa qs.length xc) 2 (by kernel_rfl) (fun u _=>by kernel_rfl) ⟨⟨_,hW⟩,rfl⟩ ?_;simp only[Act.put,pjE];refine qta 14 (some 22) (D ra rs.length rc) 1 (by kernel_rfl) (fun u hu=>?_) ⟨⟨_,hW⟩,rfl⟩ ?_
  · obtain⟨u,rfl⟩:=hu;refine Eq.trans (b:=some (((Instr.sliceAt 25 (D xa qs.length xc) (some (E R (done.length:Int))) none none)>>=fun x=>pure (Next.value x):Sem Next).run Tryz.prog u.val)) (by kernel_rfl) ?_;rw[Sem.run_bind,W u];rfl
  simp only[Act.put,pjE];refine sgr [(15,1)] 0 (by kernel_rfl) ⟨⟨_,hW⟩,rfl⟩ ?_;simp only[pkE];repeat go_big_quiet_step (fail)
  refine wpQuiet_nil ?_;refine z0e (by kernel_rfl) ?_;clear ap W k0 k1 k2 k3 k4 k5 k6;replace B:=B.below hW;have M:Hid (txnK.At _ (D ra rs.length rc) rs∧z1Q (D ra rs.length rc)∧z2F (D ra rs.length rc)):=⟨aa _ oq.at,ae,ab⟩
  clear aa ae ab oq;obtain⟨p0,p1,p2,p3,p4,p5,p6⟩:=B.cel7
  go_wp2_with fail
  clear p0 p1 p2 p3 p4 p5 p6;have W:=hW.size;refine(Y.out _ rs ao w9 (HE.out.below hW) (T.out w9 hW) M.out.1 M.out.2.1 M.out.2.2 aq).mono ?_;rintro e w2 ⟨q9,rfl,e9,o9,n9,g9,hb⟩;replace B:=B.below hb;replace hW:=hW.trans (hb.mono hW.size);have am:∀k∈repK.foot q9,k<w2.heap.size:=fun k hk=>repK.own_lt o9 k hk
  have HQ:Hid (q9.e=EE∧(repK.foot q9).Nodup∧(∀k∈repK.foot q9,w.heap.size≤k)∧∀k∈repK.foot q9,k<w2.heap.size):=⟨e9,n9,fun k hk=>by have:=g9 k hk;omega,am⟩
  clear e9 n9 g9 am hb Y X M T HE HG HH Q P Z;obtain⟨aw,i,av,f,ay,j,az,d,ax,m⟩:=q9;obtain⟨o,z,rfl⟩:∃a c,aw=D a i.length c:=o9.1.shape;obtain⟨r,A,rfl⟩:∃a c,av=D a f.length c:=o9.2.1.shape;obtain⟨s,C,rfl⟩:∃a c,ay=D a j.length c:=o9.2.2.1.shape;obtain⟨t,G,rfl⟩:∃a c,az=D a d.length c:=o9.2.2.2.1.shape;obtain⟨y,H,rfl⟩:∃a c,ax=D a m.length c:=o9.2.2.2.2.shape;have aC:=hW.size;have Bz:=Blk.new w2 95 #[E R 0,E R 0,E R 0,D none 0 0,D none 0 0,D none 0 0,D none 0 0,D none 0 0];have I:Below w2.heap.size w2 (w2.alloc (.cells #[E R 0,E R 0,E R 0,D none 0 0,D none 0 0,D none 0 0,D none 0 0,D none 0 0] 95)):=by go_grown
  have au:(Tryz.prog.info? 95).map (·.size)=some (#[E R 0,E R AA,E R 0,D o i.length z,D r f.length A,D s j.length C,D t d.length G,D y m.length H]:Array Value).size:=by kernel_rfl
  have ar:(Tryz.prog.info? 29).map (·.size)=some (#[D o i.length z,D r f.length A,D s j.length C,D t d.length G,D y m.length H]:Array Value).size:=by kernel_rfl
  have R3:=Bz.row #[E R 0,E R AA,E R 0,D o i.length z,D r f.length A,D s j.length C,D t d.length G,D y m.length H];have U3:=z1I (w2.alloc (.cells #[E R 0,E R 0,E R 0,D none 0 0,D none 0 0,D none 0 0,D none 0 0,D none 0 0] 95)) w2.heap.size #[E R 0,E R AA,E R 0,D o i.length z,D r f.length A,D s j.length C,D t d.length G,D y m.length H];have O3:=repK.own_out (repK.own_out (F:=[]) o9 (Out.of_below I) (fun _ _=>by simp)) U3 (fun k hk=>by have:=HQ.out.2.2.2 k hk;simp;omega);have B3:Blk _ _ _ _:=(U3.block _ (B.below I).lt (by simp;omega)).trans (B.below I);have W3:=Out.keep (hW.trans (I.mono hW.size)) U3 (hW.trans (I.mono hW.size)).size (fun k hk=>by simp at hk;omega);have aA:g≠w2.heap.size:=by omega
  generalize hV:(w2.alloc (.cells #[E R 0,E R 0,E R 0,D none 0 0,D none 0 0,D none 0 0,D none 0 0,D none 0 0] 95)).setRow w2.heap.size #[E R 0,E R AA,E R 0,D o i.length z,D r f.length A,D s j.length C,D t d.length G,D y m.length H]=V at*;have U4:Out [g] V (V.setCell ⟨g,0,none⟩ (E R (kn+1))):=Out.setCell V g 0 (E R (kn+1));have B4:Blk (V.setCell ⟨g,0,none⟩ (E R (kn+1))) g 31 #[E R (kn+1),E R sf,D a0 done.length k0,D a1 N.length k1,D a2 O.length k2,D a3 L.length k3,D a4 al.length k4]:=by
    have:=B3.set 0 (E R (kn+1));simpa using this
  have R4:Blk _ _ _ _:=(U4.block _ R3.lt (by simp;omega)).trans R3;have O4:=repK.own_out O3 U4 (fun k hk=>by have:=HQ.out.2.2.1 k hk;simp;omega);have U5:=q0l (V.setCell ⟨g,0,none⟩ (E R (kn+1))) g (D o i.length z) (D r f.length A) (D s j.length C) (D t d.length G) (D y m.length H);have B5:=B4.mid5 (D o i.length z) (D r f.length A) (D s j.length C) (D t d.length G) (D y m.length H);have R5:Blk _ _ _ _:=(U5.block _ R4.lt (by simp;omega)).trans R4;have O5:=repK.own_out O4 U5 (fun k hk=>by have:=HQ.out.2.2.1 k hk;simp;omega);have W5:=((Out.of_below (F:=[g]) W3).trans U4).trans U5;generalize an:(V.setCell ⟨g,0,none⟩ (E R (kn+1))).setCells g 2 [D o i.length z,D r f.length A,D s j.length C,D t d.length G,D y m.length H]=V2 at*;obtain⟨r0,r1,r2,r3,r4,r5,r6,r7⟩:=R3.cel8;obtain⟨p0,p1,p2,p3,p4,p5,p6⟩:=B3.cel7;have pf:=B3.frozen 0;obtain⟨s0,s1,s2,s3,s4,s5,s6,s7⟩:=R4.cel8;obtain⟨t0,t1,t2,t3,t4,t5,t6,t7⟩:=R5.cel8;clear Bz I U3 U4 U5 hW W3 o9 O3 O4 B
  go_wp2_with (first|(refine z0r (by kernel_rfl) 95 _ _ rfl _ #[E R 0,E R AA,E R 0,D o i.length z,D r f.length A,D s j.length C,D t d.length G,D y m.length H] rfl rfl 95 _ (Blk.new w2 95 #[E R 0,E R 0,E R 0,D none 0 0,D none 0 0,D none 0 0,D none 0 0,D none 0 0]) au rfl (by simp[Value.oneCell']) ?_;(try dsimp only);rw[hV])|(refine q4y (by kernel_rfl) 29 _ _ rfl _ 2 #[D o i.length z,D r f.length A,D s j.length C,D t d.length G,D y m.length H] rfl rfl 31 _ B4 ar (by simp) (by simp[Value.oneCell']) ?_;(try dsimp only);rw[an]))
  exact bodyPost_ret (v:=.tuple #[E R AA,E R 0]) (by simp[results,results54,go_sem]) rfl ⟨_,rfl,B5,HQ.out.1,O5,HQ.out.2.1,HQ.out.2.2.1,W5⟩
end Go.Proofs.YtlkpdgjnhkjpjaaGreatDoor
