import Derived.Test.YtlkpdgjnhkjpjaaGreatDoorLp11
import Derived.Test.YtlkpdgjnhkjpjaaGreatDoorSYAT
import Derived.Test.YtlkpdgjnhkjpjaaGreatDoorSYBF
import Derived.Test.YtlkpdgjnhkjpjaaGreatDoorSYBQ
set_option linter.unusedVariables false
set_option linter.unusedSimpArgs false
set_option maxRecDepth 100000
set_option maxHeartbeats 16000000
namespace Go.Proofs.YtlkpdgjnhkjpjaaGreatDoor
open Go.RowKit Go.BigFrame
open InstQ renaming e->Va
open IntKind renaming i64->Sl
open Value renaming int->It,slice->E
open Go.Proofs.Tryz renaming prog->Ki
open Go.Proofs.Tryz
theorem z64(b:Nat)(kn sf:Int)(p:RepQ)(v:Value)(ps:List InstQ)(w:World)(hB:Blk w b 31 #[It Sl kn,It Sl sf,p.vd,p.vb,p.vt,p.vu,p.vn])(h:instK.At w v ps)(hl:(ps.length+nmL InstQ.n ps)≤1048576)(hp:repK.own w p)(az:p.n≤1048576)(h0:nodF (ps.map Va) kn sf p.e=0):
    Calls Ki 66 #[v,.pointer (some ⟨b,0,none⟩)] w fun e w'=>∃q:RepQ,e=.returned (.agg #[It Sl (leC (ps.map Va) kn sf p.e),It Sl (leA (ps.map Va) kn sf p.e),It Sl (leK (ps.map Va) kn sf p.e),It Sl (leS (ps.map Va) kn sf p.e),q.vd,q.vb,q.vt,q.vu,q.vn])∧q.e=leE (ps.map Va) kn sf p.e∧repK.own w' q∧(repK.foot q).Nodup∧(∀k∈repK.foot q,w.heap.size≤k)∧Below w.heap.size w w':=by
  have hz:=z3j h0;have X:=z90 h0;have ao:Hid (∀w,instK.At w v ps→_):=fun w h=>q5D v ps w h hl hz.1
  have aa:Hid (kn<(decN (ps.map Va):Int)→∀w,instK.At w v ps→_):=fun hk w h=>q5E v ps (kn+1) w h hl hz.1 ⟨by have:=hz.2.1;omega,by omega⟩
  have V:Hid (∀qs:List TxnQ,qs.map TxnQ.e=defL (ps.map Va) (kn+1).toNat→p.done.length≤qs.length):=fun qs hq=>by
    have e:=congrArg List.length (hq.trans X);rw[List.length_map,List.length_append]at e;have:p.e.done.length=p.done.length:=by show(p.done.map TxnQ.e).length=_;rw[List.length_map]
    omega
  have T:Hid (∀qs:List TxnQ,qs.map TxnQ.e=defL (ps.map Va) (kn+1).toNat→(qs.map TxnQ.e).drop p.done.length=q4G (ps.map Va) kn p.e):=fun qs hq=>by
    have:p.done.length=p.e.done.length:=by show _=(p.done.map TxnQ.e).length;rw[List.length_map]
    rw[hq,X,this,List.drop_left]
  have P:Hid (kn<(decN (ps.map Va):Int)→∀qs:List TxnQ,qs.map TxnQ.e=defL (ps.map Va) (kn+1).toNat→qs.length+nmL TxnQ.n qs≤1048576):=fun hk qs hq=>q6X (hq.trans (X.trans (z57 h0 hk).2.1.symm)) hl
  have HC:Hid (dlC p.e (q4G (ps.map Va) kn p.e)=0∧lstF (q4G (ps.map Va) kn p.e)=0∧repF p.e=0):=⟨q3q h0,q5Q hz.1,hz.2.2.2.1⟩
  have aj:∀ (v':Value) (rs:List TxnQ) (hr:rs.map TxnQ.e=q4G (ps.map Va) kn p.e) w (B:Blk w b 31 #[It Sl kn,It Sl sf,p.vd,p.vb,p.vt,p.vu,p.vn]) (h1:repK.own w p) (h2:txnK.At w v' rs) (h3:∀q∈rs,z4f q) (h4:z2F v') (h5:rs.length+nmL TxnQ.n rs≤1048576),Calls Ki 115 #[.pointer (some ⟨b,2,none⟩),v'] w fun e w'=>∃q9:RepQ,e=.returned (.agg #[It Sl 0,It Sl (dlA p.e (q4G (ps.map Va) kn p.e)),It Sl 0,q9.vd,q9.vb,q9.vt,q9.vu,q9.vn])∧q9.e=dlE p.e (q4G (ps.map Va) kn p.e)∧repK.own w' q9∧(repK.foot q9).Nodup∧(∀k∈repK.foot q9,w.heap.size≤k)∧Below w.heap.size w w':=fun v' rs hr w B h1 h2 h3 h4 h5=>by
    have:=q5R kn sf b p v' rs w B h1 h2 h3 h4 az h5 HC.out.2.2 (by rw[hr];exact HC.out.2.1);rw[hr,HC.out.1]at this;exact this
  have ad:Hid (¬kn<(decN (ps.map Va):Int)→_):=fun h1=>q7q h0 h1
  have af:Hid (kn<(decN (ps.map Va):Int)→_):=fun h1=>q7s h0 h1
  have U:Hid (0≤kn∧(kn<(decN (ps.map Va):Int)→kn≤4)):=⟨hz.2.1.1,fun hk=>(z57 h0 hk).2.2.2⟩
  have J:=fun(w':World) (hb:Below w.heap.size w w')=>repK.own_out (F:=[]) (w':=w') hp (Out.of_below hb) (fun _ _=>by simp)
  clear hz X HC hp az h0;generalize dlA p.e (q4G (ps.map Va) kn p.e)=AA at*;generalize dlE p.e (q4G (ps.map Va) kn p.e)=EE at*;generalize q4G (ps.map Va) kn p.e=ML at*;generalize leC (ps.map Va) kn sf p.e=LC at*;generalize leA (ps.map Va) kn sf p.e=LA at*;generalize leK (ps.map Va) kn sf p.e=LK at*;generalize leS (ps.map Va) kn sf p.e=LS at*;generalize leE (ps.map Va) kn sf p.e=LE at*;generalize defL (ps.map Va) (kn+1).toNat=DL at*;generalize (decN (ps.map Va):Int)=M at*;obtain⟨vd,done,vb,au,vt,aE,vu,al,vn,aL⟩:=p;obtain⟨a0,k0,rfl⟩:∃a c,vd=E a done.length c:=(J w (Below.refl _ _)).1.shape;obtain⟨a1,k1,rfl⟩:∃a c,vb=E a au.length c:=(J w (Below.refl _ _)).2.1.shape;obtain⟨a2,k2,rfl⟩:∃a c,vt=E a aE.length c:=(J w (Below.refl _ _)).2.2.1.shape;obtain⟨a3,k3,rfl⟩:∃a c,vu=E a al.length c:=(J w (Below.refl _ _)).2.2.2.1.shape;obtain⟨a4,k4,rfl⟩:∃a c,vn=E a aL.length c:=(J w (Below.refl _ _)).2.2.2.2.shape;obtain⟨va,vc,rfl⟩:=h.shape;dsimp only at aj J V T hB;have ab:Hid _:=aj;have ae:Hid _:=J;have HH:Hid (instK.At w (E va ps.length vc) ps):=h;clear aj J h;have b0:Below w.heap.size w (w.alloc (.cells #[It Sl 0,It Sl 0,It Sl 0,It Sl 0,E none 0 0,E none 0 0,E none 0 0,E none 0 0,E none 0 0] 35)):=by go_grown
  have Bg:=hB.below b0;have Rb:=Blk.new w 35 #[It Sl 0,It Sl 0,It Sl 0,It Sl 0,E none 0 0,E none 0 0,E none 0 0,E none 0 0,E none 0 0];have aU:=hB.lt;clear hB;go_enter func66,ntmps66
  go_wp2_with fail
  generalize w.alloc (.cells #[It Sl 0,It Sl 0,It Sl 0,It Sl 0,E none 0 0,E none 0 0,E none 0 0,E none 0 0,E none 0 0] 35)=W at*;have aT:=Rb.lt;have hW:Below W.heap.size W W.drew:=(Below.refl _ _).drew;have Q:Nonempty (Lat W):=⟨⟨W,Below.refl _ _⟩⟩
  obtain⟨k0,k1,k2,k3,k4,k5,k6⟩:=Bg.lts7;refine z0b (S:=fun w'=>∃u:Lat W,w'=u.val) (by kernel_rfl) ?_;refine sgr [(0,5)] 2 (by kernel_rfl) ⟨⟨_,hW⟩,rfl⟩ ?_;simp only[pkE];repeat go_big_quiet_step (fail)
  refine wpQuiet_nil ?_;refine cla 5 (some 12) 72 #[E va ps.length vc] 1 (by kernel_rfl) ?_;refine(ao.out _ (HH.out.below (b0.trans (hW.mono b0.size)))).mono ?_;rintro e w9 ⟨rfl,ay⟩;replace hW:=hW.trans (ay.mono hW.size);clear ay;refine⟨_,rfl,⟨⟨_,hW⟩,rfl⟩,?_⟩;simp only[Act.put,pjE];refine sgr [(6,1)] 0 (by kernel_rfl) ⟨⟨_,hW⟩,rfl⟩ ?_;simp only[pkE];repeat go_big_quiet_step (fail)
  refine wpQuiet_nil ?_;refine z0e (by kernel_rfl) ?_;clear k0 k1 k2 k3 k4 k5 k6;replace Rb:=Rb.below hW;replace Bg:=Bg.below hW;replace b0:=b0.trans (hW.mono b0.size);clear Q hW ao;by_cases hk:kn<M
  case neg=>
    have HS:Hid _:=ad.out (by omega);have L:decide (M≤kn)=true:=decide_eq_true (by omega);have N:decide (kn≥M)=true:=decide_eq_true (by omega);first|rw[N]|rw[L]|simp only[L,N]
    clear ad af aa V T P ab ae HH U hk Bg
    go_wp2_with fail
    refine(q1u 4 w9).mono ?_;rintro e w2 ⟨rfl,hb⟩;replace Rb:=Rb.below hb;replace b0:=b0.trans (hb.mono b0.size);clear hb;have Rr:=Rb.row #[It Sl 4,It Sl 0,It Sl 0,It Sl 0,E none 0 0,E none 0 0,E none 0 0,E none 0 0,E none 0 0];have aF:=z0j b0 (g:=w.heap.size) (by omega) #[It Sl 4,It Sl 0,It Sl 0,It Sl 0,E none 0 0,E none 0 0,E none 0 0,E none 0 0,E none 0 0];have ak:(Ki.info? 35).map (·.size)=some (#[It Sl 4,It Sl 0,It Sl 0,It Sl 0,E none 0 0,E none 0 0,E none 0 0,E none 0 0,E none 0 0]:Array Value).size:=by kernel_rfl
    go_wp2_with (refine z0r (by kernel_rfl) 35 _ _ rfl _ #[It Sl 4,It Sl 0,It Sl 0,It Sl 0,E none 0 0,E none 0 0,E none 0 0,E none 0 0,E none 0 0] rfl rfl 35 _ Rb ak rfl (by simp[Value.oneCell']) ?_)
    obtain⟨r0,r1,r2,r3,r4,r5,r6,r7,r8⟩:=Rr.cel9;obtain⟨aD,Z⟩:=z0u (w2.setRow (w.heap.size) #[It Sl 4,It Sl 0,It Sl 0,It Sl 0,E none 0 0,E none 0 0,E none 0 0,E none 0 0,E none 0 0]);exact bodyPost_ret (v:=.agg #[It Sl 4,It Sl 0,It Sl 0,It Sl 0,E none 0 0,E none 0 0,E none 0 0,E none 0 0,E none 0 0]) (by simp[results,results66,go_sem,r0,r1,r2,r3,r4,r5,r6,r7,r8]) rfl ⟨q0t,by rw[HS.out.1,HS.out.2.1,HS.out.2.2.1,HS.out.2.2.2.1];rfl,by rw[HS.out.2.2.2.2];rfl,aD,by rw[Z];simp,by rw[Z];simp,aF⟩
  have HS:Hid _:=af.out hk;have L:decide (M≤kn)=false:=decide_eq_false (by omega);have N:decide (kn≥M)=false:=decide_eq_false (by omega);have aV:=U.out.1;have aW:=U.out.2 hk;have Y:Hid _:=aa.out hk;replace P:Hid _:=P.out hk;first|rw[N]|rw[L]|simp only[L,N]
  clear ad af U hk aa;obtain⟨p0,p1,p2,p3,p4,p5,p6⟩:=Bg.cel7
  go_wp2_with fail
  clear p0 p1 p2 p3 p4 p5 p6;clear L N;refine(Y.out w9 (HH.out.below b0)).mono ?_;rintro e w2 ⟨vq,qs,rfl,eq,oq,_,_,hb⟩;replace Rb:=Rb.below hb;replace Bg:=Bg.below hb;replace b0:=b0.trans (hb.mono b0.size);clear hb Y;obtain⟨xa,xc,rfl⟩:=oq.shape;have ai:=oq.capK;have aB:qs.length=done.length+(qs.drop done.length).length:=by rw[List.length_drop];have:=V.out qs eq;omega
  obtain⟨rs,O⟩:∃l,l=qs.drop done.length:=⟨_,rfl⟩
  rw[←O]at aB;obtain⟨ra,rc,aC,aw,ax⟩:∃ra rc,(∀u:Lat w2,(Instr.sliceAt 25 (E xa qs.length xc) (some (It Sl (done.length:Int))) none none).run Ki u.val=.ok (E ra rs.length rc) u.val)∧(∀w',txnK.At w' (E xa qs.length xc) qs→txnK.At w' (E ra rs.length rc) rs)∧z2F (E ra rs.length rc):=by
    refine⟨_,_,fun u=>?_,fun w' h=>by rw[O];exact h.dropS done.length (by omega) ai.1 (xc-done.length),?_⟩
    · rw[run_sliceAt_slice u.val 25 _ _ _ _ (by kernel_rfl),run_slice_l u.val 25 xa qs.length xc (by kernel_rfl) .i64 (done.length:Int) (by omega) (by omega),show rs.length=qs.length-done.length from by omega];rfl
    · exact⟨by omega,by have:=ai.2;omega⟩
  have aG:rs.map TxnQ.e=ML:=by rw[O,List.map_drop];exact T.out qs eq
  have aI:rs.length+nmL TxnQ.n rs≤1048576:=by rw[O];have:=q0y qs done.length;have:=P.out qs eq;omega
  have ap:Hid (∀q∈rs,z4f q):=fun q hq=>z3i (oq.2 q (List.mem_of_mem_drop (O▸hq)))
  have an:Hid (∀w',Below w2.heap.size w2 w'→txnK.At w' (E ra rs.length rc) rs):=fun w' hb=>aw w' (oq.at.below hb)
  have ar:Hid _:=ax;clear aB ai aw ax O oq eq;have aX:=b0.size
  go_wp2_with fail
  have hW:Below w2.heap.size w2 w2.drew:=(Below.refl _ _).drew;have Q:Nonempty (Lat w2):=⟨⟨w2,Below.refl _ _⟩⟩
  obtain⟨k0,k1,k2,k3,k4,k5,k6⟩:=Bg.lts7;refine z0b (S:=fun w'=>∃u:Lat w2,w'=u.val) (by kernel_rfl) ?_;refine sgr [(0,9)] 5 (by kernel_rfl) ⟨⟨_,hW⟩,rfl⟩ ?_;simp only[pkE];repeat go_big_quiet_step (fail)
  refine wpQuiet_nil ?_;refine qta 9 (some 31) (It Sl (done.length:Int)) 4 (by kernel_rfl) (fun u _=>by kernel_rfl) ⟨⟨_,hW⟩,rfl⟩ ?_;simp only[Act.put,pjE];refine qta 10 (some 32) (E ra rs.length rc) 3 (by kernel_rfl) (fun u hu=>?_) ⟨⟨_,hW⟩,rfl⟩ ?_
  · obtain⟨u,rfl⟩:=hu;refine Eq.trans (b:=some (((Instr.sliceAt 25 (E xa qs.length xc) (some (It Sl (done.length:Int))) none none)>>=fun x=>pure (Next.value x):Sem Next).run Ki u.val)) (by kernel_rfl) ?_;rw[Sem.run_bind,aC u];rfl
  simp only[Act.put,pjE];clear k0 k1 k2 k3 k4 k5 k6;generalize w2.drew=x at hW⊢;refine twa 11 12 2 (by kernel_rfl) ?_ ?_
  rotate_left
  focus
    refine z0L 12 _ rfl ?_;have Bz:=Blk.new x 95 #[It Sl 0,It Sl 0,It Sl 0,E none 0 0,E none 0 0,E none 0 0,E none 0 0,E none 0 0];have aK:w2.heap.size≤x.heap.size:=hW.size;have K:Below x.heap.size x (x.alloc (.cells #[It Sl 0,It Sl 0,It Sl 0,E none 0 0,E none 0 0,E none 0 0,E none 0 0,E none 0 0] 95)):=by go_grown
    replace hW:=hW.trans (K.mono hW.size);clear K
    go_wp2
    refine ThenGo.to ⟨⟨⟨_,hW⟩,rfl⟩,?_⟩;generalize ah:x.heap.size=gz at*;clear ah;generalize x.alloc (.cells #[It Sl 0,It Sl 0,It Sl 0,E none 0 0,E none 0 0,E none 0 0,E none 0 0,E none 0 0] 95)=x at*
  all_goals first|refine cla 11 (some 33) 115 #[.pointer (some ⟨b,2,none⟩),E ra rs.length rc] 1 (by kernel_rfl) ?_|refine opc 11 (some 33) 115 #[.pointer (some ⟨b,2,none⟩),E ra rs.length rc] (by kernel_rfl) ?_
  all_goals
    refine(ab.out _ rs aG x (Bg.below hW) (ae.out x (b0.trans (hW.mono b0.size))) (an.out x hW) ap.out ar.out aI).mono ?_;rintro e x ⟨q9,rfl,e9,o9,n9,g9,hb⟩;have av:∀k∈repK.foot q9,w2.heap.size≤k:=fun k hk=>by have:=g9 k hk;have:=hW.size;omega
    try have ag:∀k∈repK.foot q9,k≠gz:=fun k hk=>by have:=g9 k hk;have:=Bz.lt;omega
    have aq:Hid (q9.e=EE∧(repK.foot q9).Nodup):=⟨e9,n9⟩
    clear e9 n9;obtain⟨aN,i,aM,f,aP,j,aQ,d,aO,m⟩:=q9;obtain⟨o,A,rfl⟩:∃a c,aN=E a i.length c:=o9.1.shape;obtain⟨r,C,rfl⟩:∃a c,aM=E a f.length c:=o9.2.1.shape;obtain⟨s,G,rfl⟩:∃a c,aP=E a j.length c:=o9.2.2.1.shape;obtain⟨t,H,rfl⟩:∃a c,aQ=E a d.length c:=o9.2.2.2.1.shape;obtain⟨z,I,rfl⟩:∃a c,aO=E a m.length c:=o9.2.2.2.2.shape;dsimp only;try replace Bz:=Bz.below hb
    replace hW:=hW.trans (hb.mono hW.size);clear hb g9;refine⟨_,rfl,⟨⟨_,hW⟩,rfl⟩,?_⟩;simp only[Act.put,pgE,pjE]
  rotate_right
  focus
    refine ona 12 1 rfl (by kernel_rfl) ?_;have Bz:=Blk.new x 95 #[It Sl 0,It Sl 0,It Sl 0,E none 0 0,E none 0 0,E none 0 0,E none 0 0,E none 0 0];have aK:w2.heap.size≤x.heap.size:=hW.size;have K:Below x.heap.size x (x.alloc (.cells #[It Sl 0,It Sl 0,It Sl 0,E none 0 0,E none 0 0,E none 0 0,E none 0 0,E none 0 0] 95)):=by go_grown
    have ag:∀k∈repK.foot (⟨E o i.length A,i,E r f.length C,f,E s j.length G,j,E t d.length H,d,E z m.length I,m⟩:RepQ),k≠x.heap.size:=fun k hk=>by have:=repK.own_lt o9 k hk;omega
    replace o9:=repK.own_out (F:=[]) o9 (Out.of_below K) (fun _ _=>by simp);replace hW:=hW.trans (K.mono hW.size);clear K
    go_wp2
    refine ThenGo.to ⟨⟨⟨_,hW⟩,rfl⟩,?_⟩;generalize ah:x.heap.size=gz at*;clear ah;generalize x.alloc (.cells #[It Sl 0,It Sl 0,It Sl 0,E none 0 0,E none 0 0,E none 0 0,E none 0 0,E none 0 0] 95)=x at*
  all_goals
    refine ona 13 0 rfl (by kernel_rfl) ?_;have aH:w2.heap.size≤gz:=by omega
    have Rz:=Bz.row #[It Sl 0,It Sl AA,It Sl 0,E o i.length A,E r f.length C,E s j.length G,E t d.length H,E z m.length I];have oz:=repK.own_out o9 (z1I _ gz #[It Sl 0,It Sl AA,It Sl 0,E o i.length A,E r f.length C,E s j.length G,E t d.length H,E z m.length I]) (fun k hk=>by simp only[List.mem_singleton];exact ag k hk);replace hW:=z0j hW aH #[It Sl 0,It Sl AA,It Sl 0,E o i.length A,E r f.length C,E s j.length G,E t d.length H,E z m.length I];have aJ:(Ki.info? 95).map (·.size)=some (#[It Sl 0,It Sl AA,It Sl 0,E o i.length A,E r f.length C,E s j.length G,E t d.length H,E z m.length I]:Array Value).size:=by kernel_rfl
    refine z0r (by kernel_rfl) 95 _ _ rfl _ #[It Sl 0,It Sl AA,It Sl 0,E o i.length A,E r f.length C,E s j.length G,E t d.length H,E z m.length I] rfl rfl 95 _ Bz aJ rfl (by simp[Value.oneCell']) ?_;refine ThenGo.to ⟨⟨⟨_,hW⟩,rfl⟩,?_⟩;refine z0e (by kernel_rfl) ?_;have am:=Bg.below hW;have R4:=Rb.below hW;have b4:=b0.trans (hW.mono b0.size);have aS:=am.lt;have aY:=b4.size;have aR:=Rb.lt;have aA:Hid (∀k∈repK.foot (⟨E o i.length A,i,E r f.length C,f,E s j.length G,j,E t d.length H,d,E z m.length I,m⟩:RepQ),w.heap.size<k):=fun k hk=>by have:=av k hk;omega
    clear Bz ag av hW o9 ab ae an ap ar HH V T P Bg Rb b0 aC Q;generalize x.setRow gz #[It Sl 0,It Sl AA,It Sl 0,E o i.length A,E r f.length C,E s j.length G,E t d.length H,E z m.length I]=y at*;obtain⟨t0,t1,t2,t3,t4,t5,t6,t7⟩:=Rz.cel8
    go_wp2_with fail
    clear t0 t1 t2 t3 t4 t5 t6 t7;have hW:Below y.heap.size y y.drew:=(Below.refl _ _).drew;have Q:Nonempty (Lat y):=⟨⟨y,Below.refl _ _⟩⟩
    obtain⟨t0,t1,t2,t3,t4,t5,t6,t7⟩:=Rz.lts8;obtain⟨c0,c1,c2,c3,c4,c5,c6⟩:=am.lts7;refine z6I (S:=fun w'=>∃u:Lat y,w'=u.val) (R:=fun _ _=>False) 15 (by kernel_rfl) (fun _ _ _ _ h=>h.elim) ?_;refine sgX [(0,15)] 1 (by kernel_rfl) ⟨⟨_,hW⟩,rfl⟩ ?_;simp only[pkE];repeat go_big_quiet_step (fail)
    refine wpQuiet_nil ?_;clear t0 t1 t2 t3 t4 t5 t6 t7;clear c0 c1 c2 c3 c4 c5 c6;refine onX 15 0 rfl (by kernel_rfl) ?_;replace R4:=R4.below hW;replace oz:=repK.own_out (F:=[]) oz (Out.of_below hW) (fun _ _=>by simp);replace b4:=b4.trans (hW.mono b4.size);have Rr:=R4.row #[It Sl 0,It Sl AA,It Sl (kn+1),It Sl sf,E o i.length A,E r f.length C,E s j.length G,E t d.length H,E z m.length I];have U5:=z1I y.drew w.heap.size #[It Sl 0,It Sl AA,It Sl (kn+1),It Sl sf,E o i.length A,E r f.length C,E s j.length G,E t d.length H,E z m.length I];have O5:=repK.own_out oz U5 (fun k hk=>by have:=aA.out k hk;simp;omega);have b5:=Out.keep b4 U5 b4.size (fun k hk=>by simp at hk;omega);have ak:(Ki.info? 35).map (·.size)=some (#[It Sl 0,It Sl AA,It Sl (kn+1),It Sl sf,E o i.length A,E r f.length C,E s j.length G,E t d.length H,E z m.length I]:Array Value).size:=by kernel_rfl
    clear hW Q;refine z0r (by kernel_rfl) 35 _ _ rfl _ #[It Sl 0,It Sl AA,It Sl (kn+1),It Sl sf,E o i.length A,E r f.length C,E s j.length G,E t d.length H,E z m.length I] rfl rfl 35 _ R4 ak rfl (by simp[Value.oneCell']) ?_;refine ThenX.to ⟨Or.inl (by kernel_rfl),?_⟩;refine q5T (by kernel_rfl) ?_;clear R4 oz b4 U5;obtain⟨r0,r1,r2,r3,r4,r5,r6,r7,r8⟩:=Rr.cel9
    go_wp2
    exact bodyPost_ret (v:=.agg #[It Sl 0,It Sl AA,It Sl (kn+1),It Sl sf,E o i.length A,E r f.length C,E s j.length G,E t d.length H,E z m.length I]) (by simp[results,results66,go_sem,r0,r1,r2,r3,r4,r5,r6,r7,r8]) rfl ⟨_,by rw[HS.out.1,HS.out.2.1,HS.out.2.2.1,HS.out.2.2.2.1],by rw[HS.out.2.2.2.2];exact aq.out.1,O5,aq.out.2,fun k hk=>by have:=aA.out k hk;omega,b5⟩
theorem z63(v:Value)(ps:List InstQ)(kn sf:Int)(p:RepQ)(w:World)(h:instK.At w v ps)(hl:(ps.length+nmL InstQ.n ps)≤1048576)(hp:repK.own w p)(N:p.n≤1048576):
    Calls Ki 19 #[v,.agg #[It Sl kn,It Sl sf,p.vd,p.vb,p.vt,p.vu,p.vn]] w fun e w'=>∃q:RepQ,e=.returned (.agg #[It Sl (leC (ps.map Va) kn sf p.e),It Sl (leA (ps.map Va) kn sf p.e),It Sl (leK (ps.map Va) kn sf p.e),It Sl (leS (ps.map Va) kn sf p.e),q.vd,q.vb,q.vt,q.vu,q.vn])∧q.e=leE (ps.map Va) kn sf p.e∧repK.own w' q∧(repK.foot q).Nodup∧(∀k∈repK.foot q,w.heap.size≤k)∧Below w.heap.size w w':=by
  have M:=fun b w hB h hp=>z8Y v ps b kn sf p w hB h hl hp N
  have O:=fun h0 b w hB h hp=>z64 b kn sf p v ps w hB h hl hp N h0
  have HF:Hid (nodF (ps.map Va) kn sf p.e≠0→_):=fun h0=>q7p h0
  have P:=fun(w':World) (hb:Below w.heap.size w w')=>repK.own_out (F:=[]) (w':=w') hp (Out.of_below hb) (fun _ _=>by simp)
  generalize leC (ps.map Va) kn sf p.e=LC at*;generalize leA (ps.map Va) kn sf p.e=LA at*;generalize leK (ps.map Va) kn sf p.e=LK at*;generalize leS (ps.map Va) kn sf p.e=LS at*;generalize leE (ps.map Va) kn sf p.e=LE at*;generalize nodF (ps.map Va) kn sf p.e=D at*;generalize p.e=PE at*;obtain⟨vd,done,vb,m,vt,r,vu,l,vn,s⟩:=p;obtain⟨a0,k0,rfl⟩:∃a c,vd=E a done.length c:=hp.1.shape;obtain⟨a1,k1,rfl⟩:∃a c,vb=E a m.length c:=hp.2.1.shape;obtain⟨a2,k2,rfl⟩:∃a c,vt=E a r.length c:=hp.2.2.1.shape;obtain⟨a3,k3,rfl⟩:∃a c,vu=E a l.length c:=hp.2.2.2.1.shape;obtain⟨a4,k4,rfl⟩:∃a c,vn=E a s.length c:=hp.2.2.2.2.shape;obtain⟨va,vc,rfl⟩:=h.shape;dsimp only at M O P;have T:Hid _:=M;have L:Hid _:=O;have I:Hid _:=P;have HH:Hid (instK.At w (E va ps.length vc) ps):=h;clear M O P hp N h;have b0:Below w.heap.size w ((w.alloc (.cells #[It Sl kn,It Sl sf,E a0 done.length k0,E a1 m.length k1,E a2 r.length k2,E a3 l.length k3,E a4 s.length k4] 31)).alloc (.cells #[It Sl 0,It Sl 0,It Sl 0,It Sl 0,E none 0 0,E none 0 0,E none 0 0,E none 0 0,E none 0 0] 35)):=by go_grown
  have A0:=(Blk.new w 31 #[It Sl kn,It Sl sf,E a0 done.length k0,E a1 m.length k1,E a2 r.length k2,E a3 l.length k3,E a4 s.length k4]).below (w':=(w.alloc (.cells #[It Sl kn,It Sl sf,E a0 done.length k0,E a1 m.length k1,E a2 r.length k2,E a3 l.length k3,E a4 s.length k4] 31)).alloc (.cells #[It Sl 0,It Sl 0,It Sl 0,It Sl 0,E none 0 0,E none 0 0,E none 0 0,E none 0 0,E none 0 0] 35)) (by go_grown);have Rb:=Blk.new (w.alloc (.cells #[It Sl kn,It Sl sf,E a0 done.length k0,E a1 m.length k1,E a2 r.length k2,E a3 l.length k3,E a4 s.length k4] 31)) 35 #[It Sl 0,It Sl 0,It Sl 0,It Sl 0,E none 0 0,E none 0 0,E none 0 0,E none 0 0,E none 0 0];simp only[World.size_alloc]at Rb;go_enter func19,ntmps19
  go_wp2_with fail
  generalize (w.alloc (.cells #[It Sl kn,It Sl sf,E a0 done.length k0,E a1 m.length k1,E a2 r.length k2,E a3 l.length k3,E a4 s.length k4] 31)).alloc (.cells #[It Sl 0,It Sl 0,It Sl 0,It Sl 0,E none 0 0,E none 0 0,E none 0 0,E none 0 0,E none 0 0] 35)=W at*;have ae:=Rb.lt;refine(T.out _ W A0 (HH.out.below b0) (I.out W b0)).mono ?_;rintro e w1 ⟨rfl,hb⟩;have af:=hb.size;replace A0:=A0.below hb;replace Rb:=Rb.below hb;replace b0:=b0.trans (hb.mono b0.size);clear hb T;by_cases hD:D=0
  case neg=>
    have U:(D !=0)=true:=by simpa using hD
    have HS:Hid _:=HF.out hD;clear HF L I HH A0
    go_wp2_with fail
    refine(q1u D w1).mono ?_;rintro e w2 ⟨rfl,hb⟩;replace Rb:=Rb.below hb;replace b0:=b0.trans (hb.mono b0.size);have Rr:=Rb.row #[It Sl D,It Sl 0,It Sl 0,It Sl 0,E none 0 0,E none 0 0,E none 0 0,E none 0 0,E none 0 0];have X:=z0j b0 (g:=w.heap.size+1) (by omega) #[It Sl D,It Sl 0,It Sl 0,It Sl 0,E none 0 0,E none 0 0,E none 0 0,E none 0 0,E none 0 0];have Q:(Ki.info? 35).map (·.size)=some (#[It Sl D,It Sl 0,It Sl 0,It Sl 0,E none 0 0,E none 0 0,E none 0 0,E none 0 0,E none 0 0]:Array Value).size:=by kernel_rfl
    go_wp2_with (refine z0r (by kernel_rfl) 35 _ _ rfl _ #[It Sl D,It Sl 0,It Sl 0,It Sl 0,E none 0 0,E none 0 0,E none 0 0,E none 0 0,E none 0 0] rfl rfl 35 _ Rb Q rfl (by simp[Value.oneCell']) ?_)
    obtain⟨r0,r1,r2,r3,r4,r5,r6,r7,r8⟩:=Rr.cel9;obtain⟨V,K⟩:=z0u (w2.setRow (w.heap.size+1) #[It Sl D,It Sl 0,It Sl 0,It Sl 0,E none 0 0,E none 0 0,E none 0 0,E none 0 0,E none 0 0]);exact bodyPost_ret (v:=.agg #[It Sl D,It Sl 0,It Sl 0,It Sl 0,E none 0 0,E none 0 0,E none 0 0,E none 0 0,E none 0 0]) (by simp[results,results19,go_sem,r0,r1,r2,r3,r4,r5,r6,r7,r8]) rfl ⟨q0t,by rw[HS.out.1,HS.out.2.1,HS.out.2.2.1,HS.out.2.2.2.1];rfl,by rw[HS.out.2.2.2.2];rfl,V,by rw[K];simp,by rw[K];simp,X⟩
  have J:Hid _:=L.out hD;subst hD;have U:((0:Int) !=0)=false:=by decide
  clear HF L
  go_wp2_with fail
  clear U;refine(J.out _ w1 A0 (HH.out.below b0) (I.out w1 b0)).mono ?_;rintro e w2 ⟨q9,rfl,e9,o9,n9,g9,hb⟩;have HQ:Hid (q9.e=LE∧(repK.foot q9).Nodup∧∀k∈repK.foot q9,w.heap.size+1<k):=⟨e9,n9,fun k hk=>by have:=g9 k hk;omega⟩
  replace Rb:=Rb.below hb;replace b0:=b0.trans (hb.mono b0.size);clear hb J I HH e9 n9 g9 A0;obtain⟨Z,i,Y,f,ab,j,ad,d,aa,o⟩:=q9;obtain⟨t,A,rfl⟩:∃a c,Z=E a i.length c:=o9.1.shape;obtain⟨u,B,rfl⟩:∃a c,Y=E a f.length c:=o9.2.1.shape;obtain⟨x,C,rfl⟩:∃a c,ab=E a j.length c:=o9.2.2.1.shape;obtain⟨y,G,rfl⟩:∃a c,ad=E a d.length c:=o9.2.2.2.1.shape;obtain⟨z,H,rfl⟩:∃a c,aa=E a o.length c:=o9.2.2.2.2.shape;have Rr:=Rb.row #[It Sl LC,It Sl LA,It Sl LK,It Sl LS,E t i.length A,E u f.length B,E x j.length C,E y d.length G,E z o.length H];have U3:=z1I w2 (w.heap.size+1) #[It Sl LC,It Sl LA,It Sl LK,It Sl LS,E t i.length A,E u f.length B,E x j.length C,E y d.length G,E z o.length H];have O3:=repK.own_out o9 U3 (fun k hk=>by have:=HQ.out.2.2 k hk;simp;omega);have b3:=Out.keep b0 U3 b0.size (fun k hk=>by simp at hk;omega);have Q:(Ki.info? 35).map (·.size)=some (#[It Sl LC,It Sl LA,It Sl LK,It Sl LS,E t i.length A,E u f.length B,E x j.length C,E y d.length G,E z o.length H]:Array Value).size:=by kernel_rfl
  clear o9 U3 b0
  go_wp2_with (refine z0r (by kernel_rfl) 35 _ _ rfl _ #[It Sl LC,It Sl LA,It Sl LK,It Sl LS,E t i.length A,E u f.length B,E x j.length C,E y d.length G,E z o.length H] rfl rfl 35 _ Rb Q rfl (by simp[Value.oneCell']) ?_)
  obtain⟨r0,r1,r2,r3,r4,r5,r6,r7,r8⟩:=Rr.cel9;exact bodyPost_ret (v:=.agg #[It Sl LC,It Sl LA,It Sl LK,It Sl LS,E t i.length A,E u f.length B,E x j.length C,E y d.length G,E z o.length H]) (by simp[results,results19,go_sem,r0,r1,r2,r3,r4,r5,r6,r7,r8]) rfl ⟨_,rfl,HQ.out.1,O3,HQ.out.2.1,fun k hk=>by have:=HQ.out.2.2 k hk;omega,b3⟩
end Go.Proofs.YtlkpdgjnhkjpjaaGreatDoor
