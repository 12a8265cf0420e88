/- Texts joined,with what the laws reach alone. -/
import Derived.Test.YtciofogeiohleaaGreatDoorDEAJ
import Derived.Test.YtciofogeiohleaaGreatDoorDEAE
set_option linter.unusedVariables false
set_option linter.unusedSimpArgs false
set_option maxRecDepth 100000
set_option maxHeartbeats 16000000
namespace Go.Proofs.YtciofogeiohleaaGreatDoor
open Go.RowKit Go.BigFrame
theorem z2H:∀xs:List (List UndoD),sameUss xs xs=true
 |[]=>rfl
 |x::r=>by simp only[sameUss,z5N,z2H r,Bool.and_self]
theorem z2I(x:RepE):sameRep x x=true:=by simp[sameRep,z1Y,z2m,z2H]
theorem z74{D E:List TxnD}(h1:D.length≤16)(h2:E.length≤8)(h:lstF (D++E)=0):repF (mkR D E)=0:=by
 have hn:¬(16<(mkR D E).done.length∨8<(mkR D E).tent.length):=by show¬(16<D.length∨8<E.length);omega
 rw[z3r hn h];exact if_pos (z2I (mkR D E))
theorem z3Y{r:RepE}(h:repF r=0):r.base=allI [] r.done∧r.now=allI r.base r.tent∧r.undos=z4f r.base r.tent∧(∀t∈r.done,t.F=0)∧(∀t∈r.tent,t.F=0)∧r.base.length≤8∧Good r.base∧r.now.length≤8∧Good r.now∧r.done.length≤16∧r.tent.length≤8:=by
 have e:=z7z h;obtain⟨⟨l1,l2⟩,l3,_⟩:=z2C h;have hF:=z8D l3;have hD:∀t∈r.done,t.F=0:=fun t ht=>hF t (List.mem_append_left _ ht)
 have hE:∀t∈r.tent,t.F=0:=fun t ht=>hF t (List.mem_append_right _ ht)
 have e1:r.base=allI [] r.done:=congrArg RepE.base e;have e2:r.now=allI (allI [] r.done) r.tent:=congrArg RepE.now e;have e3:r.undos=z4f (allI [] r.done) r.tent:=congrArg RepE.undos e;have g:=z0R (xs:=[]) (by simp) z17 hD;have g2:=z0R g.1 g.2 hE;refine⟨e1,by rw[e1];exact e2,by rw[e1];exact e3,hD,hE,by rw[e1];exact g.1,by rw[e1];exact g.2,by rw[e2];exact g2.1,by rw[e2];exact g2.2,l1,l2⟩
theorem z43(D E:List TxnD)(xs:List ItemD):allI xs (D++E)=allI (allI xs D) E:=by
 induction D generalizing xs with
 |nil=>rfl
 |cons t r ih=>exact ih (nextI xs t)
theorem z7C{r:RepE}{fs:List TxnD}(h:dlC r fs=0):repF (mkR (r.done++fs) (plK r.tent fs))=0:=by
 obtain⟨h0,hf,hk,hn,hB,hF1,hF2,hl8⟩:=z2G h;obtain⟨⟨l1,l2⟩,l3,_⟩:=z2C h0;obtain⟨_,hA,hP⟩:=(z04 _).1 l3;obtain⟨_,_,hPf⟩:=(z04 _).1 hf;obtain⟨_,_,hPk⟩:=(z04 _).1 (z8K hB);obtain⟨p1,p2,p3⟩:=List.pairwise_append.1 hP;have hkf:=z85 hk;have hko:=z8L hB;refine z74 (by rw[List.length_append];exact hn) hl8 ?_;refine(z04 _).2 ⟨by rw[List.length_append,List.length_append];omega,fun x hx=>?_,?_⟩
 ·rcases List.mem_append.1 hx with hx|hx
  ·exact hF1 x hx
  ·exact hF2 x hx
 ·rw[List.pairwise_append,List.pairwise_append];refine⟨⟨p1,hPf,fun a ha b hb=>knw_false.1 (hkf b hb) a ha⟩,hPk,fun a ha b hb=>?_⟩;rcases List.mem_append.1 ha with ha|ha
  ·exact p3 a ha b (z6c hb)
  ·exact knw_false.1 (hko b hb) a ha
theorem z75{r:RepE}{fs:List TxnD}(h:dlC r fs=0):eaI r.base fs=allI [] (r.done++fs):=by
 obtain⟨h0,hf,hk,hn,hB,hF1,hF2,hl8⟩:=z2G h;obtain⟨e1,e2,e3,hD,hE,b8,bg,n8,ng,_,t8⟩:=z3Y h0;have f1:itemsF r.base=0:=z3F b8 bg;have f2:idsC fs=0:=z8i (fun t ht=>hF1 t (List.mem_append_right _ ht)) (by omega);rw[(z7o f1 f2).2.2.2,z43,←e1]
theorem z8M{r:RepE}{fs:List TxnD}(h:dlC r fs=0)(hb:plA r.tent fs=[]):(mkR (r.done++fs) (plK r.tent fs)).now=r.now:=by
 obtain⟨h0,hf,hk,hn,hB,hF1,hF2,hl8⟩:=z2G h;obtain⟨e1,e2,e3,hD,hE,b8,bg,n8,ng,_,t8⟩:=z3Y h0;have hd:fs.drop (comN r.tent fs)=[]:=by
  have:=(pl_n hB).2;rw[hb]at this;exact this.symm
 have hK:=(z69 hB hd).2.2.2;have hc:=z42 r.tent fs;have hfs:fs.take (comN r.tent fs)=fs:=by
  have:=List.take_append_drop (comN r.tent fs) fs;rw[hd,List.append_nil]at this;exact this
 show allI (allI [] (r.done++fs)) (plK r.tent fs)=r.now;rw[hK,e2,e1,z43,←z43]
 congr 1
 rw[hfs]at hc
 conv=>lhs;arg 1;rw[←hc]
 exact List.take_append_drop _ _
theorem z3Z(p:RepQ)(vf:Value)(fs:List TxnQ)(w:World)(hg:ErrT w)(h9:repK.own w p)(av:txnK.At w vf fs)(aP:z2o vf)(aO:z2k vf)(hl:p.n≤1048576)(aH:fs.length+nmL TxnQ.n fs≤1048576):
  Calls Tryz.prog 28 #[.agg #[p.vd,p.vb,p.vt,p.vu,p.vn],vf] w fun e w'=>∃q:RepQ,e=.returned (.agg #[.int .i64 (dlC p.e (fs.map TxnQ.e)),.int .i64 (dlA p.e (fs.map TxnQ.e)),.int .i64 0,q.vd,q.vb,q.vt,q.vu,q.vn])∧q.e=dlE p.e (fs.map TxnQ.e)∧repK.own w' q∧(repK.foot q).Nodup∧(∀k∈repK.foot q,w.heap.size≤k)∧Below w.heap.size w w':=by
 have ax:=fun w h hT=>z4h p vf fs w h h9.1.niceV h9.2.2.1.niceV hl hT aH
 have h:=repK.own_rd h9;have hr:=fun(w':World) hb=>repK.rd_below (w':=w') h hb
 have D:=fun(w':World) (hb:Below w.heap.size w w')=>av.below hb
 have L:Hid (z2o p.vd∧z2o vf):=⟨h9.1.niceV,aP⟩
 have am:Hid (z2k p.vt∧z2k vf):=⟨h9.2.2.1.capOk,aO⟩
 have HE:Hid ((dlC p.e (fs.map TxnQ.e)=0→dlA p.e (fs.map TxnQ.e)=plB (p.tent.map TxnQ.e) (fs.map TxnQ.e)∧dlE p.e (fs.map TxnQ.e)=mkR ((p.done++fs).map TxnQ.e) (plK (p.tent.map TxnQ.e) (fs.map TxnQ.e))∧bthF (p.tent.map TxnQ.e) (fs.map TxnQ.e)=0∧(∀q∈p.done++fs,(TxnQ.e q).F=0)∧(∀t∈plK (p.tent.map TxnQ.e) (fs.map TxnQ.e),t.F=0)∧(plK (p.tent.map TxnQ.e) (fs.map TxnQ.e)).length≤8∧p.done.length+fs.length≤16)∧(dlC p.e (fs.map TxnQ.e)≠0→dlA p.e (fs.map TxnQ.e)=0∧dlE p.e (fs.map TxnQ.e)=⟨[],[],[],[],[]⟩)):=by
  refine⟨fun h0=>?_,fun h0=>⟨if_neg h0,if_neg h0⟩⟩;obtain⟨z0,z1,z2,z3,z4,z5,z6,z7⟩:=z2G h0;refine⟨if_pos h0,?_,z4,fun q hq=>z5 _ ?_,z6,z7,?_⟩
  ·rw[dlE,if_pos h0,List.map_append];rfl
  ·rcases List.mem_append.1 hq with hq|hq
   ·exact List.mem_append_left _ (List.mem_map.2 ⟨q,hq,rfl⟩)
   ·exact List.mem_append_right _ (List.mem_map.2 ⟨q,hq,rfl⟩)
  ·simpa[RepQ.e]using z3
 have aQ:p.tent.length+nmL TxnQ.n p.tent≤1048576:=by dsimp only[RepQ.n]at hl;omega
 have af:=fun w' hA hB=>z2e p.vt vf p.tent fs w' hA hB am.out.1 am.out.2 aQ aH
 obtain⟨fa,fk,rfl⟩:=av.shape;generalize dlA p.e (fs.map TxnQ.e)=AA at*;generalize dlE p.e (fs.map TxnQ.e)=RE at*;generalize dlC p.e (fs.map TxnQ.e)=c at*;obtain⟨aU,pd,aT,pb,aW,pt,aX,pu,aV,pn⟩:=p;obtain⟨p0,p5,rfl⟩:∃a c,aU=.slice a pd.length c:=h.1.shape;obtain⟨p1,p6,rfl⟩:∃a c,aT=.slice a pb.length c:=h.2.1.shape;obtain⟨p2,p7,rfl⟩:∃a c,aW=.slice a pt.length c:=h.2.2.1.shape;obtain⟨p3,p8,rfl⟩:∃a c,aX=.slice a pu.length c:=h.2.2.2.1.shape;obtain⟨p4,p9,rfl⟩:∃a c,aV=.slice a pn.length c:=h.2.2.2.2.shape;dsimp only at ax HE af L;have N:∀w':World,Below w.heap.size w w'→txnK.At w' (.slice p0 pd.length p5) pd:=fun w' hb=>(hr w' hb).1
 have aR:∀w':World,Below w.heap.size w w'→txnK.At w' (.slice p2 pt.length p7) pt:=fun w' hb=>(hr w' hb).2.2.1
 have b0:Below w.heap.size w ((w.alloc (.cells #[.slice p0 pd.length p5,.slice p1 pb.length p6,.slice p2 pt.length p7,.slice p3 pu.length p8,.slice p4 pn.length p9] 57)).alloc (.cells #[.int .i64 0,.int .i64 0,.int .i64 0,.slice none 0 0,.slice none 0 0,.slice none 0 0,.slice none 0 0,.slice none 0 0] 61)):=by go_grown
 have BA:=(Blk.new w 57 #[.slice p0 pd.length p5,.slice p1 pb.length p6,.slice p2 pt.length p7,.slice p3 pu.length p8,.slice p4 pn.length p9]).below (w':=((w.alloc (.cells #[.slice p0 pd.length p5,.slice p1 pb.length p6,.slice p2 pt.length p7,.slice p3 pu.length p8,.slice p4 pn.length p9] 57)).alloc (.cells #[.int .i64 0,.int .i64 0,.int .i64 0,.slice none 0 0,.slice none 0 0,.slice none 0 0,.slice none 0 0,.slice none 0 0] 61))) (by go_grown);have RB:=Blk.new (w.alloc (.cells #[.slice p0 pd.length p5,.slice p1 pb.length p6,.slice p2 pt.length p7,.slice p3 pu.length p8,.slice p4 pn.length p9] 57)) 61 #[.int .i64 0,.int .i64 0,.int .i64 0,.slice none 0 0,.slice none 0 0,.slice none 0 0,.slice none 0 0,.slice none 0 0];simp only[World.size_alloc]at RB;have aI:=hr _ b0;have ae:=hg.below b0;have al:=D _ b0;clear h9 av am;go_enter Tryz.func28,Tryz.ntmps28
 go_wp2_with fail
 generalize ((w.alloc (.cells #[.slice p0 pd.length p5,.slice p1 pb.length p6,.slice p2 pt.length p7,.slice p3 pu.length p8,.slice p4 pn.length p9] 57)).alloc (.cells #[.int .i64 0,.int .i64 0,.int .i64 0,.slice none 0 0,.slice none 0 0,.slice none 0 0,.slice none 0 0,.slice none 0 0] 61))=W at*;refine(ax W aI al).mono ?_;rintro e w2 ⟨rfl,hb⟩;replace BA:=BA.below hb;replace RB:=RB.below hb;replace ae:=ae.below hb;replace b0:=z0l b0 hb;clear hb ax aI al
 go_wp2_with fail
 refine(z4x c w2 ae).mono ?_;rintro e w3 ⟨rfl,hb⟩;replace BA:=BA.below hb;replace RB:=RB.below hb;replace b0:=z0l b0 hb;clear hb ae;by_cases hc:c=0
 ·obtain⟨eA,eE,ay,az,aA,au,ba⟩:=HE.out.1 hc;subst hc;clear HE;have a2:=BA.cell 2 _ rfl;rw[ay]at af;have V:Hid _:=az;clear az
  go_wp2_with fail
  clear a2;refine(af w3 (aR _ b0) (D _ b0)).mono ?_;rintro e w4 ⟨v1,v2,q1,kq,rfl,e1,e2,o1,M,aS,aL,hb⟩;obtain⟨an,ao,aF⟩:=o1.shape;generalize aG:q1.length=ap at aF;subst aF;obtain⟨ka,kc,rfl⟩:=M.shape;replace BA:=BA.below hb;replace RB:=RB.below hb;replace b0:=z0l b0 hb;clear hb af aS aL o1 e1 aG;have Y:Hid (∀q∈kq,(TxnQ.e q).F=0):=fun q hq=>aA _ (by rw[←e2];exact List.mem_map.2 ⟨q,hq,rfl⟩)
  have bi:kq.length≤8:=by rw[←e2,List.length_map]at au;exact au
  have ai:Hid (AA=_∧RE=mkR ((pd++fs).map TxnQ.e) (kq.map TxnQ.e)):=⟨eA,by rw[e2];exact eE⟩
  clear aA au eA eE e2 ay;generalize plN (pt.map TxnQ.e) (fs.map TxnQ.e)=PN at*;generalize plB (pt.map TxnQ.e) (fs.map TxnQ.e)=PB at*;have ab:Below w4.heap.size w4 (w4.alloc (.cells #[.int .i64 0,.int .i64 PN,.int .i64 PB,.slice an ap ao,.slice ka kq.length kc] 67)):=by go_grown
  have BP:=Blk.new w4 67 #[.int .i64 0,.int .i64 PN,.int .i64 PB,.slice an ap ao,.slice ka kq.length kc];have bb:w4.heap.size≠w.heap.size+1:=by have:=RB.lt;omega
  replace BA:=BA.below ab;replace RB:=RB.below ab;replace b0:=z0l b0 ab;replace M:=M.below ab;clear ab
  go_wp2_with fail
  generalize w4.alloc (.cells #[.int .i64 0,.int .i64 PN,.int .i64 PB,.slice an ap ao,.slice ka kq.length kc] 67)=X at*;generalize w4.heap.size=gp at*;have bX:=b0;have be:=RB.lt;refine z1i [some 20,some 21,some 22,some 23,some 24,some 25,some 26,some 27,some 7] (fun vs w'=>∃ (v23 v24:Value) (k1:Option Addr) (k2 k3:Nat) (k4:Option Addr) (k5 k6:Nat) (k7:Option Addr) (k8 k9:Nat) (m1:Option Addr) (m2 m3:Nat) (w0:World) (g:Nat),vs=[.pointer (some ⟨w.heap.size,0,none⟩),.slice p0 pd.length p5,.slice fa fs.length fk,v23,v24,.pointer (some ⟨gp,4,none⟩),.slice ka kq.length kc,.agg #[.slice k1 k2 k3,.slice k4 k5 k6,.slice k7 k8 k9,.slice m1 m2 m3],.pointer (some ⟨g,0,none⟩)]∧X.heap.size≤g∧Blk w' g 116 #[.slice k1 k2 k3,.slice k4 k5 k6,.slice k7 k8 k9,.slice m1 m2 m3]∧RecPost w0 w' (.slice k1 k2 k3) (.slice k4 k5 k6) (.slice k7 k8 k9) (.slice m1 m2 m3) ((pd++fs).map TxnQ.e) (kq.map TxnQ.e)∧Below w0.heap.size w0 w'∧X.heap.size≤w0.heap.size∧Below X.heap.size X w') ?_ ?_
  ·have hW:Below X.heap.size X X.drew:=(Below.refl _ _).drew;have bk:Nonempty (Lat X):=⟨⟨X,Below.refl _ _⟩⟩
   have f0:=BA.lat 0 _ rfl;have f4:=BP.lat 4 _ rfl;refine z0h (S:=fun w'=>∃u:Lat X,w'=u.val) (by kernel_rfl) ?_;refine sgr [(0,3),(5,2)] 5 (by kernel_rfl) ⟨⟨_,hW⟩,rfl⟩ ?_;simp only[pkE];repeat go_big_quiet_step (fail)
   refine wpQuiet_nil ?_;clear f0 f4;generalize X.drew=wd at hW⊢;refine twa 3 8 4 (by kernel_rfl) ?_ ?_
   ·skip;refine z1u 3 _ rfl ?_;have B6:=Blk.new wd 27 #[.slice p0 pd.length p5,.slice fa fs.length fk];have d:Below wd.heap.size wd (wd.alloc (.cells #[.slice p0 pd.length p5,.slice fa fs.length fk] 27)):=by go_grown
    replace hW:=hW.trans (d.mono hW.size);clear d
    go_wp2
    refine ThenGo.to ⟨⟨⟨_,hW⟩,rfl⟩,?_⟩;generalize aB:wd.heap.size=g6 at*;clear aB;generalize wd.alloc (.cells #[.slice p0 pd.length p5,.slice fa fs.length fk] 27)=x1 at*;refine twa 4 8 3 (by kernel_rfl) ?_ ?_
    ·skip;refine opc 4 (some 24) 76 #[.slice (some ⟨g6,0,none⟩) 2 2] (by kernel_rfl) ?_;have J:=z1J g6 2 (.slice p0 pd.length p5) (.slice fa fs.length fk) pd fs x1 B6.lt (B6.cell 0 _ rfl) (B6.cell 1 _ rfl) (N _ (bX.trans (hW.mono bX.size))) (D _ (bX.trans (hW.mono bX.size))) L.out.1 L.out.2 (by omega);refine J.mono ?_;rintro e x2 ⟨vc,rfl,oc,hb⟩;clear J B6;replace hW:=hW.trans (hb.mono hW.size);clear hb;refine⟨_,rfl,⟨⟨_,hW⟩,rfl⟩,?_⟩;simp only[Act.put,pgE,pjE];refine twa 7 8 2 (by kernel_rfl) ?_ ?_
     ·skip;refine opc 7 (some 27) 75 #[vc,.slice ka kq.length kc] (by kernel_rfl) ?_;have y:=bX.trans (hW.mono bX.size);have z:=z4Y oc (At.rds (N _ y)) (At.rds (D _ y));refine(z09 vc (.slice ka kq.length kc) (pd++fs) kq x2 z (M.at.below hW) V.out Y.out (by simp;omega) (by omega)).mono ?_;rintro e x3 ⟨nN,iN,uU,iU,rfl,RP,hb⟩;obtain⟨⟨k1,k2,k3,rfl⟩,⟨k4,k5,k6,rfl⟩,⟨k7,k8,k9,rfl⟩,⟨m1,m2,m3,rfl⟩⟩:=RP.shapes;have C:=hb;have E:X.heap.size≤x2.heap.size:=hW.size;clear z y oc;replace hW:=hW.trans (hb.mono hW.size);clear hb;refine⟨_,rfl,⟨⟨_,hW⟩,rfl⟩,?_⟩;simp only[Act.put,pgE,pjE];refine ona 8 1 rfl (by kernel_rfl) ?_;have Bz:=Blk.new x3 116 #[.slice none 0 0,.slice none 0 0,.slice none 0 0,.slice none 0 0];have ag:X.heap.size≤x3.heap.size:=hW.size;have d:Below x3.heap.size x3 (x3.alloc (.cells #[.slice none 0 0,.slice none 0 0,.slice none 0 0,.slice none 0 0] 116)):=by go_grown
      replace hW:=hW.trans (d.mono hW.size)
      go_wp2
      refine ThenGo.to ⟨⟨⟨_,hW⟩,rfl⟩,?_⟩;refine ona 9 0 rfl (by kernel_rfl) ?_;have A:X.heap.size≤x3.heap.size:=ag;have Rz:=Bz.row #[.slice k1 k2 k3,.slice k4 k5 k6,.slice k7 k8 k9,.slice m1 m2 m3];have aE:Below x3.heap.size x3 ((x3.alloc (.cells #[.slice none 0 0,.slice none 0 0,.slice none 0 0,.slice none 0 0] 116)).setRow x3.heap.size #[.slice k1 k2 k3,.slice k4 k5 k6,.slice k7 k8 k9,.slice m1 m2 m3]):=z0o d (Nat.le_refl _) #[.slice k1 k2 k3,.slice k4 k5 k6,.slice k7 k8 k9,.slice m1 m2 m3];replace RP:=RP.below aE;have O:=C.trans (aE.mono C.size);replace hW:=z0o hW A #[.slice k1 k2 k3,.slice k4 k5 k6,.slice k7 k8 k9,.slice m1 m2 m3];refine z0C (by kernel_rfl) 116 _ _ rfl _ #[.slice k1 k2 k3,.slice k4 k5 k6,.slice k7 k8 k9,.slice m1 m2 m3] rfl rfl 116 _ Bz z4Z rfl (by simp[Value.oneCell']) ?_;refine ThenGo.to ⟨⟨⟨_,hW⟩,rfl⟩,?_⟩;refine z0k (by kernel_rfl) ?_;refine⟨rfl,_,⟨.slice (some ⟨g6,0,none⟩) 2 2,vc,k1,k2,k3,k4,k5,k6,k7,k8,k9,m1,m2,m3,x2,x3.heap.size,rfl,A,Rz,RP,O,E,hW⟩,?_⟩;simp only[z1q,Act.put,pgE,pjE];try rfl
     ·skip;refine z1u 8 _ rfl ?_;have Bz:=Blk.new x2 116 #[.slice none 0 0,.slice none 0 0,.slice none 0 0,.slice none 0 0];have ag:X.heap.size≤x2.heap.size:=hW.size;have d:Below x2.heap.size x2 (x2.alloc (.cells #[.slice none 0 0,.slice none 0 0,.slice none 0 0,.slice none 0 0] 116)):=by go_grown
      replace oc:=z0a oc d;replace hW:=hW.trans (d.mono hW.size);clear d
      go_wp2
      refine ThenGo.to ⟨⟨⟨_,hW⟩,rfl⟩,?_⟩;generalize aC:x2.heap.size=g at*;clear aC;generalize x2.alloc (.cells #[.slice none 0 0,.slice none 0 0,.slice none 0 0,.slice none 0 0] 116)=y5 at*;refine cla 7 (some 27) 75 #[vc,.slice ka kq.length kc] 1 (by kernel_rfl) ?_;have y:=bX.trans (hW.mono bX.size);have z:=z4Y oc (At.rds (N _ y)) (At.rds (D _ y));refine(z09 vc (.slice ka kq.length kc) (pd++fs) kq y5 z (M.at.below hW) V.out Y.out (by simp;omega) (by omega)).mono ?_;rintro e x6 ⟨nN,iN,uU,iU,rfl,RP,hb⟩;obtain⟨⟨k1,k2,k3,rfl⟩,⟨k4,k5,k6,rfl⟩,⟨k7,k8,k9,rfl⟩,⟨m1,m2,m3,rfl⟩⟩:=RP.shapes;have C:=hb;have E:X.heap.size≤y5.heap.size:=hW.size;clear z y oc;have U:=Bz;replace Bz:=Bz.below hb;replace hW:=hW.trans (hb.mono hW.size);clear hb;refine⟨_,rfl,⟨⟨_,hW⟩,rfl⟩,?_⟩;simp only[Act.put,pgE,pjE];refine ona 9 0 rfl (by kernel_rfl) ?_;have A:X.heap.size≤g:=by omega
      have Rz:=Bz.row #[.slice k1 k2 k3,.slice k4 k5 k6,.slice k7 k8 k9,.slice m1 m2 m3];have x:=RP.rebase C U #[.slice k1 k2 k3,.slice k4 k5 k6,.slice k7 k8 k9,.slice m1 m2 m3];replace RP:=x.1;have O:=x.2;have I:X.heap.size≤(y5.setRow g #[.slice k1 k2 k3,.slice k4 k5 k6,.slice k7 k8 k9,.slice m1 m2 m3]).heap.size:=by rw[size_setRow];exact E
      clear x;replace hW:=z0o hW A #[.slice k1 k2 k3,.slice k4 k5 k6,.slice k7 k8 k9,.slice m1 m2 m3];refine z0C (by kernel_rfl) 116 _ _ rfl _ #[.slice k1 k2 k3,.slice k4 k5 k6,.slice k7 k8 k9,.slice m1 m2 m3] rfl rfl 116 _ Bz z4Z rfl (by simp[Value.oneCell']) ?_;refine ThenGo.to ⟨⟨⟨_,hW⟩,rfl⟩,?_⟩;refine z0k (by kernel_rfl) ?_;refine⟨rfl,_,⟨.slice (some ⟨g6,0,none⟩) 2 2,vc,k1,k2,k3,k4,k5,k6,k7,k8,k9,m1,m2,m3,y5.setRow g #[.slice k1 k2 k3,.slice k4 k5 k6,.slice k7 k8 k9,.slice m1 m2 m3],g,rfl,A,Rz,RP,O,I,hW⟩,?_⟩;simp only[z1q,Act.put,pgE,pjE];try rfl
    ·skip;refine z1u 8 _ rfl ?_;have Bz:=Blk.new x1 116 #[.slice none 0 0,.slice none 0 0,.slice none 0 0,.slice none 0 0];have ag:X.heap.size≤x1.heap.size:=hW.size;have d:Below x1.heap.size x1 (x1.alloc (.cells #[.slice none 0 0,.slice none 0 0,.slice none 0 0,.slice none 0 0] 116)):=by go_grown
     replace B6:=B6.below d;replace hW:=hW.trans (d.mono hW.size);clear d
     go_wp2
     refine ThenGo.to ⟨⟨⟨_,hW⟩,rfl⟩,?_⟩;generalize aD:x1.heap.size=g at*;clear aD;generalize x1.alloc (.cells #[.slice none 0 0,.slice none 0 0,.slice none 0 0,.slice none 0 0] 116)=y7 at*;refine cla 4 (some 24) 76 #[.slice (some ⟨g6,0,none⟩) 2 2] 2 (by kernel_rfl) ?_;have J:=z1J g6 2 (.slice p0 pd.length p5) (.slice fa fs.length fk) pd fs y7 B6.lt (B6.cell 0 _ rfl) (B6.cell 1 _ rfl) (N _ (bX.trans (hW.mono bX.size))) (D _ (bX.trans (hW.mono bX.size))) L.out.1 L.out.2 (by omega);refine J.mono ?_;rintro e x8 ⟨vc,rfl,oc,hb⟩;clear J B6;replace Bz:=Bz.below hb;replace hW:=hW.trans (hb.mono hW.size);clear hb;refine⟨_,rfl,⟨⟨_,hW⟩,rfl⟩,?_⟩;simp only[Act.put,pgE,pjE];refine cla 7 (some 27) 75 #[vc,.slice ka kq.length kc] 1 (by kernel_rfl) ?_;have y:=bX.trans (hW.mono bX.size);have z:=z4Y oc (At.rds (N _ y)) (At.rds (D _ y));refine(z09 vc (.slice ka kq.length kc) (pd++fs) kq x8 z (M.at.below hW) V.out Y.out (by simp;omega) (by omega)).mono ?_;rintro e x9 ⟨nN,iN,uU,iU,rfl,RP,hb⟩;obtain⟨⟨k1,k2,k3,rfl⟩,⟨k4,k5,k6,rfl⟩,⟨k7,k8,k9,rfl⟩,⟨m1,m2,m3,rfl⟩⟩:=RP.shapes;have C:=hb;have E:X.heap.size≤x8.heap.size:=hW.size;clear z y oc;have U:=Bz;replace Bz:=Bz.below hb;replace hW:=hW.trans (hb.mono hW.size);clear hb;refine⟨_,rfl,⟨⟨_,hW⟩,rfl⟩,?_⟩;simp only[Act.put,pgE,pjE];refine ona 9 0 rfl (by kernel_rfl) ?_;have A:X.heap.size≤g:=by omega
     have Rz:=Bz.row #[.slice k1 k2 k3,.slice k4 k5 k6,.slice k7 k8 k9,.slice m1 m2 m3];have x:=RP.rebase C U #[.slice k1 k2 k3,.slice k4 k5 k6,.slice k7 k8 k9,.slice m1 m2 m3];replace RP:=x.1;have O:=x.2;have I:X.heap.size≤(x8.setRow g #[.slice k1 k2 k3,.slice k4 k5 k6,.slice k7 k8 k9,.slice m1 m2 m3]).heap.size:=by rw[size_setRow];exact E
     clear x;replace hW:=z0o hW A #[.slice k1 k2 k3,.slice k4 k5 k6,.slice k7 k8 k9,.slice m1 m2 m3];refine z0C (by kernel_rfl) 116 _ _ rfl _ #[.slice k1 k2 k3,.slice k4 k5 k6,.slice k7 k8 k9,.slice m1 m2 m3] rfl rfl 116 _ Bz z4Z rfl (by simp[Value.oneCell']) ?_;refine ThenGo.to ⟨⟨⟨_,hW⟩,rfl⟩,?_⟩;refine z0k (by kernel_rfl) ?_;refine⟨rfl,_,⟨.slice (some ⟨g6,0,none⟩) 2 2,vc,k1,k2,k3,k4,k5,k6,k7,k8,k9,m1,m2,m3,x8.setRow g #[.slice k1 k2 k3,.slice k4 k5 k6,.slice k7 k8 k9,.slice m1 m2 m3],g,rfl,A,Rz,RP,O,I,hW⟩,?_⟩;simp only[z1q,Act.put,pgE,pjE];try rfl
   ·skip;refine z1u 8 _ rfl ?_;have Bz:=Blk.new wd 116 #[.slice none 0 0,.slice none 0 0,.slice none 0 0,.slice none 0 0];have ag:X.heap.size≤wd.heap.size:=hW.size;have d:Below wd.heap.size wd (wd.alloc (.cells #[.slice none 0 0,.slice none 0 0,.slice none 0 0,.slice none 0 0] 116)):=by go_grown
    replace hW:=hW.trans (d.mono hW.size);clear d
    go_wp2
    refine ThenGo.to ⟨⟨⟨_,hW⟩,rfl⟩,?_⟩;generalize ar:wd.heap.size=g at*;clear ar;generalize wd.alloc (.cells #[.slice none 0 0,.slice none 0 0,.slice none 0 0,.slice none 0 0] 116)=T at*;refine ona 3 3 rfl (by kernel_rfl) ?_;have B6:=Blk.new T 27 #[.slice p0 pd.length p5,.slice fa fs.length fk];have d:Below T.heap.size T (T.alloc (.cells #[.slice p0 pd.length p5,.slice fa fs.length fk] 27)):=by go_grown
    replace Bz:=Bz.below d;replace hW:=hW.trans (d.mono hW.size);clear d
    go_wp2
    refine ThenGo.to ⟨⟨⟨_,hW⟩,rfl⟩,?_⟩;generalize aq:T.heap.size=g6 at*;clear aq;generalize T.alloc (.cells #[.slice p0 pd.length p5,.slice fa fs.length fk] 27)=a8 at*;refine cla 4 (some 24) 76 #[.slice (some ⟨g6,0,none⟩) 2 2] 2 (by kernel_rfl) ?_;have J:=z1J g6 2 (.slice p0 pd.length p5) (.slice fa fs.length fk) pd fs a8 B6.lt (B6.cell 0 _ rfl) (B6.cell 1 _ rfl) (N _ (bX.trans (hW.mono bX.size))) (D _ (bX.trans (hW.mono bX.size))) L.out.1 L.out.2 (by omega);refine J.mono ?_;rintro e ah ⟨vc,rfl,oc,hb⟩;clear J B6;replace Bz:=Bz.below hb;replace hW:=hW.trans (hb.mono hW.size);clear hb;refine⟨_,rfl,⟨⟨_,hW⟩,rfl⟩,?_⟩;simp only[Act.put,pgE,pjE];refine cla 7 (some 27) 75 #[vc,.slice ka kq.length kc] 1 (by kernel_rfl) ?_;have y:=bX.trans (hW.mono bX.size);have z:=z4Y oc (At.rds (N _ y)) (At.rds (D _ y));refine(z09 vc (.slice ka kq.length kc) (pd++fs) kq ah z (M.at.below hW) V.out Y.out (by simp;omega) (by omega)).mono ?_;rintro e bm ⟨nN,iN,uU,iU,rfl,RP,hb⟩;obtain⟨⟨k1,k2,k3,rfl⟩,⟨k4,k5,k6,rfl⟩,⟨k7,k8,k9,rfl⟩,⟨m1,m2,m3,rfl⟩⟩:=RP.shapes;have C:=hb;have E:X.heap.size≤ah.heap.size:=hW.size;clear z y oc;have U:=Bz;replace Bz:=Bz.below hb;replace hW:=hW.trans (hb.mono hW.size);clear hb;refine⟨_,rfl,⟨⟨_,hW⟩,rfl⟩,?_⟩;simp only[Act.put,pgE,pjE];refine ona 9 0 rfl (by kernel_rfl) ?_;have A:X.heap.size≤g:=by omega
    have Rz:=Bz.row #[.slice k1 k2 k3,.slice k4 k5 k6,.slice k7 k8 k9,.slice m1 m2 m3];have x:=RP.rebase C U #[.slice k1 k2 k3,.slice k4 k5 k6,.slice k7 k8 k9,.slice m1 m2 m3];replace RP:=x.1;have O:=x.2;have I:X.heap.size≤(ah.setRow g #[.slice k1 k2 k3,.slice k4 k5 k6,.slice k7 k8 k9,.slice m1 m2 m3]).heap.size:=by rw[size_setRow];exact E
    clear x;replace hW:=z0o hW A #[.slice k1 k2 k3,.slice k4 k5 k6,.slice k7 k8 k9,.slice m1 m2 m3];refine z0C (by kernel_rfl) 116 _ _ rfl _ #[.slice k1 k2 k3,.slice k4 k5 k6,.slice k7 k8 k9,.slice m1 m2 m3] rfl rfl 116 _ Bz z4Z rfl (by simp[Value.oneCell']) ?_;refine ThenGo.to ⟨⟨⟨_,hW⟩,rfl⟩,?_⟩;refine z0k (by kernel_rfl) ?_;refine⟨rfl,_,⟨.slice (some ⟨g6,0,none⟩) 2 2,vc,k1,k2,k3,k4,k5,k6,k7,k8,k9,m1,m2,m3,ah.setRow g #[.slice k1 k2 k3,.slice k4 k5 k6,.slice k7 k8 k9,.slice m1 m2 m3],g,rfl,A,Rz,RP,O,I,hW⟩,?_⟩;simp only[z1q,Act.put,pgE,pjE];try rfl
  rintro vs w5 ⟨v23,v24,k1,k2,k3,k4,k5,k6,k7,k8,k9,m1,m2,m3,w0,g,rfl,bh,RG,RP,C,E,ad⟩;simp only[z1q,Act.put,pjE];replace BA:=BA.below ad;replace BP:=BP.below ad;replace RB:=RB.below ad;replace b0:=z0l b0 ad;have bg:g≠w.heap.size+1:=by omega
  have Z:∀t∈(pd++fs).map TxnQ.e,t.F=0:=fun t ht=>by obtain⟨q,hq,rfl⟩:=List.mem_map.1 ht;exact V.out q hq
  have aa:∀t∈kq.map TxnQ.e,t.F=0:=fun t ht=>by obtain⟨q,hq,rfl⟩:=List.mem_map.1 ht;exact Y.out q hq
  have ga:=z0R (xs:=[]) (by simp) z17 Z;have gb:=z0R ga.1 ga.2 aa;have aj:((pd++fs).map TxnQ.e).length≤40:=by rw[List.length_map,List.length_append];omega
  have ak:(kq.map TxnQ.e).length≤40:=by rw[List.length_map];omega
  have hW:Below w5.heap.size w5 w5.drew:=(Below.refl _ _).drew;have aJ:=z3S w0 (.slice k1 k2 k3) (.slice k4 k5 k6) (.slice k7 k8 k9) (.slice m1 m2 m3) ((pd++fs).map TxnQ.e) (kq.map TxnQ.e) w5.drew (RP.below hW) (C.trans (hW.mono C.size)) Z aa aj ak ga.1 gb.1 ga.2;clear RP Z aa ga gb aj ak
  go_wp2_with fail
  have c2:=z0F (F:=[w.heap.size+1]) (BP.cell 2 _ rfl) (by simp;omega);have e0:=z0F (F:=[w.heap.size+1]) (RG.cell 0 _ rfl) (by simp;omega);have e1:=z0F (F:=[w.heap.size+1]) (RG.cell 1 _ rfl) (by simp;omega);have e2:=z0F (F:=[w.heap.size+1]) (RG.cell 2 _ rfl) (by simp;omega);have e3:=z0F (F:=[w.heap.size+1]) (RG.cell 3 _ rfl) (by simp;omega);have bj:Nonempty (KeepP (Out [w.heap.size+1] w5)):=⟨⟨w5,Out.refl _ _⟩⟩
  have hO:Out [w.heap.size+1] w5 w5.drew:=Out.of_below hW;refine z0h (S:=fun w'=>∃u:KeepP (Out [w.heap.size+1] w5),w'=u.val) (by kernel_rfl) ?_;refine sgr [(0,3)] 3 (by kernel_rfl) ⟨⟨_,hO⟩,rfl⟩ ?_;simp only[pkE];repeat go_big_quiet_step (fail)
  refine wpQuiet_nil ?_;clear c2 e0 e1 e2 e3;refine cla 3 (some 31) 77 #[.agg #[.slice k1 k2 k3,.slice k4 k5 k6,.slice k7 k8 k9,.slice m1 m2 m3]] 2 (by kernel_rfl) ?_;refine aJ.mono ?_;rintro e w7 ⟨q,rfl,eq,oq,nq,gq,hb⟩;have aw:Below w5.heap.size w5 w7:=hW.trans (hb.mono hW.size);have bc:=RB.lt;have bf:w5.heap.size≤w5.drew.heap.size:=hW.size;replace RB:=RB.below aw;have bl:=b0.size;replace hO:Out [w.heap.size+1] w5 w7:=Out.of_below aw;replace b0:=b0.trans (aw.mono b0.size);have aM:∀k∈repK.foot q,k≠w.heap.size+1:=fun k hk=>by have:=gq k hk;omega
  have gw:∀k∈repK.foot q,w.heap.size≤k:=fun k hk=>by have:=gq k hk;omega
  clear hb gq aJ;refine⟨_,rfl,⟨⟨_,hO⟩,rfl⟩,?_⟩;simp only[Act.put,pgE,pjE];obtain⟨aZ,qd,aY,qb,a6,qt,a7,qu,a1,qn⟩:=q;obtain⟨s0,t0,rfl⟩:∃a c,aZ=.slice a qd.length c:=oq.1.shape;obtain⟨s1,t1,rfl⟩:∃a c,aY=.slice a qb.length c:=oq.2.1.shape;obtain⟨s2,t2,rfl⟩:∃a c,a6=.slice a qt.length c:=oq.2.2.1.shape;obtain⟨s3,t3,rfl⟩:∃a c,a7=.slice a qu.length c:=oq.2.2.2.1.shape;obtain⟨s4,t4,rfl⟩:∃a c,a1=.slice a qn.length c:=oq.2.2.2.2.shape;have aK:Hid _:=eq;clear eq;refine sgr [(4,1)] 1 (by kernel_rfl) ⟨⟨_,hO⟩,rfl⟩ ?_;simp only[pkE];repeat go_big_quiet_step (fail)
  refine wpQuiet_nil ?_;refine ona 5 0 rfl (by kernel_rfl) ?_;have Rz:=RB.row #[.int .i64 0,.int .i64 PB,.int .i64 0,.slice s0 qd.length t0,.slice s1 qb.length t1,.slice s2 qt.length t2,.slice s3 qu.length t3,.slice s4 qn.length t4];have oz:=repK.own_out oq (z0r _ (w.heap.size+1) #[.int .i64 0,.int .i64 PB,.int .i64 0,.slice s0 qd.length t0,.slice s1 qb.length t1,.slice s2 qt.length t2,.slice s3 qu.length t3,.slice s4 qn.length t4]) (fun k hk=>by simp only[List.mem_singleton];exact aM k hk);replace hO:Out [w.heap.size+1] w5 _:=hO.trans (z0r w7 (w.heap.size+1) #[.int .i64 0,.int .i64 PB,.int .i64 0,.slice s0 qd.length t0,.slice s1 qb.length t1,.slice s2 qt.length t2,.slice s3 qu.length t3,.slice s4 qn.length t4]);replace b0:=z0o (g:=w.heap.size+1) b0 (by omega) #[.int .i64 0,.int .i64 PB,.int .i64 0,.slice s0 qd.length t0,.slice s1 qb.length t1,.slice s2 qt.length t2,.slice s3 qu.length t3,.slice s4 qn.length t4];refine z0C (by kernel_rfl) 61 _ _ rfl _ #[.int .i64 0,.int .i64 PB,.int .i64 0,.slice s0 qd.length t0,.slice s1 qb.length t1,.slice s2 qt.length t2,.slice s3 qu.length t3,.slice s4 qn.length t4] rfl rfl 61 _ RB z4X rfl (by simp[Value.oneCell']) ?_;refine ThenGo.to ⟨⟨⟨_,hO⟩,rfl⟩,?_⟩;refine z0k (by kernel_rfl) ?_;obtain⟨z0,z1,z2,z3,z4,z5,z6,z7⟩:=Rz.cel8
  go_wp2
  exact bodyPost_ret (v:=.agg #[.int .i64 0,.int .i64 PB,.int .i64 0,.slice s0 qd.length t0,.slice s1 qb.length t1,.slice s2 qt.length t2,.slice s3 qu.length t3,.slice s4 qn.length t4]) (by simp[results,Tryz.results28,go_sem,z0,z1,z2,z3,z4,z5,z6,z7]) rfl ⟨(⟨.slice s0 qd.length t0,qd,.slice s1 qb.length t1,qb,.slice s2 qt.length t2,qt,.slice s3 qu.length t3,qu,.slice s4 qn.length t4,qn⟩:RepQ),by rw[ai.out.1],aK.out.trans ai.out.2.symm,oz,nq,gw,b0⟩
 ·obtain⟨hA,hR⟩:=HE.out.2 hc;have bd:(c !=0)=true:=by simpa using hc
  clear HE;have Rr:=RB.row #[.int .i64 c,.int .i64 0,.int .i64 0,.slice none 0 0,.slice none 0 0,.slice none 0 0,.slice none 0 0,.slice none 0 0];have aN:=z0o (g:=w.heap.size+1) b0 (by omega) #[.int .i64 c,.int .i64 0,.int .i64 0,.slice none 0 0,.slice none 0 0,.slice none 0 0,.slice none 0 0,.slice none 0 0]
  go_wp2_with (first|(refine z0C (by kernel_rfl) 61 _ _ rfl _ #[.int .i64 c,.int .i64 0,.int .i64 0,.slice none 0 0,.slice none 0 0,.slice none 0 0,.slice none 0 0,.slice none 0 0] rfl rfl 61 _ RB z4X rfl (by simp[Value.oneCell']) ?_))
  obtain⟨z0,z1,z2,z3,z4,z5,z6,z7⟩:=Rr.cel8;first|done|skip
  exact bodyPost_ret (v:=.agg #[.int .i64 c,.int .i64 0,.int .i64 0,.slice none 0 0,.slice none 0 0,.slice none 0 0,.slice none 0 0,.slice none 0 0]) (by simp[results,Tryz.results28,go_sem,z0,z1,z2,z3,z4,z5,z6,z7]) rfl ⟨z8F,by rw[hA];rfl,hR.symm,(z0L _).1,by rw[(z0L w).2];simp,by rw[(z0L w).2];simp,aN⟩
theorem z45(b1:Nat)(p:RepQ)(vf:Value)(fs:List TxnQ)(w:World)(hB:Blk w b1 57 #[p.vd,p.vb,p.vt,p.vu,p.vn])(h:repK.own w p)(hT:txnK.At w vf fs)(aT:∀q∈fs,z2h q)(aS:z2k vf)(hl:p.n≤1048576)(aG:fs.length+nmL TxnQ.n fs≤1048576)(h0:repF p.e=0)(h1:lstF (fs.map TxnQ.e)=0):
  Calls Tryz.prog 81 #[.pointer (some ⟨b1,0,none⟩),vf] w fun e w'=>∃q:RepQ,e=.returned (.agg #[.int .i64 (dlC p.e (fs.map TxnQ.e)),.int .i64 (dlA p.e (fs.map TxnQ.e)),.int .i64 0,q.vd,q.vb,q.vt,q.vu,q.vn])∧q.e=dlE p.e (fs.map TxnQ.e)∧repK.own w' q∧(repK.foot q).Nodup∧(∀k∈repK.foot q,w.heap.size≤k)∧Below w.heap.size w w':=by
 have d:=z40 p.e (fs.map TxnQ.e);rw[h0,h1]at d;have az:∀c,dlC p.e (fs.map TxnQ.e)=c→c≠0→dlC p.e (fs.map TxnQ.e)=c∧dlA p.e (fs.map TxnQ.e)=0∧dlE p.e (fs.map TxnQ.e)=⟨[],[],[],[],[]⟩:=fun c e h=>⟨e,by rw[dlA,if_neg (by rw[e];exact h)],by rw[dlE,if_neg (by rw[e];exact h)]⟩
 have A:Hid _:=az;clear az;have HE:Hid (dlC p.e (fs.map TxnQ.e)=0→dlA p.e (fs.map TxnQ.e)=plB (p.tent.map TxnQ.e) (fs.map TxnQ.e)∧dlE p.e (fs.map TxnQ.e)=mkR ((p.done++fs).map TxnQ.e) (plK (p.tent.map TxnQ.e) (fs.map TxnQ.e))∧bthF (p.tent.map TxnQ.e) (fs.map TxnQ.e)=0∧(∀t∈plK (p.tent.map TxnQ.e) (fs.map TxnQ.e),t.F=0)∧(plK (p.tent.map TxnQ.e) (fs.map TxnQ.e)).length≤8):=fun e=>by
  obtain⟨z0,z1,z2,z3,z4,z5,z6,z7⟩:=z2G e;exact⟨if_pos e,by rw[dlE,if_pos e,List.map_append];rfl,z4,z6,z7⟩
 have hz:=z2C h0;have ha:=((z04 _).1 hz.2.1).2.1;have ak:=((z04 _).1 h1)
 have ap:Hid (∀q∈p.done,(TxnQ.e q).F=0):=fun q hq=>ha _ (List.mem_append_left _ (List.mem_map.2 ⟨q,hq,rfl⟩))
 have aO:Hid (∀q∈fs,(TxnQ.e q).F=0):=fun q hq=>ak.2.1 _ (List.mem_map.2 ⟨q,hq,rfl⟩)
 have aH:p.done.length≤16:=by have:=hz.1.1;simpa[RepQ.e]using this
 have bm:fs.length≤40:=by have:=ak.1;simpa using this
 have aF:∀w' va,txnK.At w' p.vd p.done→∀b o (x:TxnD),Box4 w' b o (.int .i64 x.id) (.int .i64 x.session) (.int .i64 x.seq) va→Calls Tryz.prog 103 #[p.vd,.pointer (some ⟨b,o,none⟩)] w' fun e bk=>e=.returned (.bool (knw (p.done.map TxnQ.e) x))∧Below w'.heap.size w' bk:=fun w' va hA b o x hB=>z1j p.vd p.done b o x va w' hA hB (by omega)
 have aB:frK p.e.done (fs.map TxnQ.e)=frK (p.done.map TxnQ.e) (fs.map TxnQ.e):=rfl;have aA:p.e.done.length=p.done.length:=by simp[RepQ.e]
 rw[aB,aA,List.length_map]at d;have hr:=fun(w':World) (hb:Below w.heap.size w w')=>repK.own_out (F:=[]) (w':=w') h (Out.of_below hb) (fun _ _=>by simp)
 have ao:=fun(w':World) (hb:Below w.heap.size w w')=>hT.below hb
 have ab:Hid ((∀q∈fs,z2h q)∧∀q∈p.done,z2h q):=⟨aT,fun q hq=>z2D (h.1.2 q hq)⟩
 have Z:Hid (z2k p.vt∧z2k vf):=⟨h.2.2.1.capOk,aS⟩
 have aJ:p.tent.length+nmL TxnQ.n p.tent≤1048576:=by dsimp only[RepQ.n]at hl;omega
 have aI:p.done.length+nmL TxnQ.n p.done≤1048576:=by dsimp only[RepQ.n]at hl;omega
 have am:=fun w' hA hB hC=>z6v p.vt vf p.tent fs w' hA hB Z.out.1 Z.out.2 aJ aG hC
 have aa:Hid ((∀j,j<fs.length→knw (p.done.map TxnQ.e) ((fs.map TxnQ.e).getD j z0I)=false)→frK (p.done.map TxnQ.e) (fs.map TxnQ.e)=false):=fun hh=>z8j (fun j hj=>hh j (by simpa using hj))
 have N:Hid (∀k (hk:k<fs.length),knw (p.done.map TxnQ.e) (TxnQ.e fs[k])=true→frK (p.done.map TxnQ.e) (fs.map TxnQ.e)=true):=fun k hk hx=>z7A (t:=TxnQ.e fs[k]) (List.mem_map.2 ⟨fs[k],List.getElem_mem hk,rfl⟩) hx
 obtain⟨fa,fk,rfl⟩:=hT.shape;generalize dlA p.e (fs.map TxnQ.e)=AA at*;generalize dlE p.e (fs.map TxnQ.e)=RE at*;generalize dlC p.e (fs.map TxnQ.e)=C at*;generalize frK (p.done.map TxnQ.e) (fs.map TxnQ.e)=FK at*;clear hz ha ak aB aA Z;obtain⟨bb,pd,ba,pb,bd,pt,be,pu,bc,pn⟩:=p;obtain⟨p0,p5,rfl⟩:∃a c,bb=.slice a pd.length c:=h.1.shape;obtain⟨p1,p6,rfl⟩:∃a c,ba=.slice a pb.length c:=h.2.1.shape;obtain⟨p2,p7,rfl⟩:∃a c,bd=.slice a pt.length c:=h.2.2.1.shape;obtain⟨p3,p8,rfl⟩:∃a c,be=.slice a pu.length c:=h.2.2.2.1.shape;obtain⟨p4,p9,rfl⟩:∃a c,bc=.slice a pn.length c:=h.2.2.2.2.shape;dsimp only at d HE ap aH aF hr ab aJ aI am aa N;have b0:Below w.heap.size w (w.alloc (.cells #[.int .i64 0,.int .i64 0,.int .i64 0,.slice none 0 0,.slice none 0 0,.slice none 0 0,.slice none 0 0,.slice none 0 0] 61)):=by go_grown
 have RB:=Blk.new w 61 #[.int .i64 0,.int .i64 0,.int .i64 0,.slice none 0 0,.slice none 0 0,.slice none 0 0,.slice none 0 0,.slice none 0 0];have bl:=hB.lt;go_enter Tryz.func81,Tryz.ntmps81
 go_wp2_with fail
 generalize w.alloc (.cells #[.int .i64 0,.int .i64 0,.int .i64 0,.slice none 0 0,.slice none 0 0,.slice none 0 0,.slice none 0 0,.slice none 0 0] 61)=W at*;go_loopw[5] (fun j wr=>∃k:Nat,k≤fs.length∧j=.int .i64 k∧Below w.heap.size w wr∧Blk wr w.heap.size 61 #[.int .i64 0,.int .i64 0,.int .i64 0,.slice none 0 0,.slice none 0 0,.slice none 0 0,.slice none 0 0,.slice none 0 0]∧Hid (∀j,j<k→knw (pd.map TxnQ.e) ((fs.map TxnQ.e).getD j z0I)=false)) (fun j _=>fs.length-(intOf j).toNat)
 case atStart=>exact⟨0,Nat.zero_le _,rfl,b0,RB,fun j hj=>absurd hj (Nat.not_lt_zero _)⟩
 case round=>
  clear b0 RB;obtain⟨k,hk,rfl,b0,RB,HA⟩:=hrel;have BA:=hB.below b0;by_cases J:k<fs.length
  ·obtain⟨b',U,aU,bt,hc,aY⟩:=(ao wr b0).cell (by decide) k J;subst aU;have E:∀j x,(txnK.cells fs[k])[j]?=some x→wr.cell? ⟨b',U+k*4+j,none⟩=some x:=hc;have aw:Box4 wr b' (U+k*4) (.int .i64 fs[k].i) (.int .i64 fs[k].s) (.int .i64 fs[k].q) fs[k].va:=⟨by simpa using E 0 _ rfl,E 1 _ rfl,E 2 _ rfl,E 3 _ rfl⟩
   have HY:Hid (knw (pd.map TxnQ.e) (TxnQ.e fs[k])=true→FK=true):=fun hx=>N.out k J hx
   have HN:Hid (knw (pd.map TxnQ.e) (TxnQ.e fs[k])=false→∀j,j<k+1→knw (pd.map TxnQ.e) ((fs.map TxnQ.e).getD j z0I)=false):=fun hx j hj=>by
    by_cases aV:j=k
    ·subst aV;rw[z03 fs j J];exact hx
    ·exact HA.out j (by omega)
   clear HA hc E N;generalize fs[k]=p at*;have hW:Below wr.heap.size wr wr.drew:=(Below.refl _ _).drew;have aX:Nonempty (Lat wr):=⟨⟨wr,Below.refl _ _⟩⟩
   have f0:=BA.lat 0 _ rfl;have V:(k:Int)<(fs.length:Int):=by omega
   have hq:=aF wr.drew p.va ((hr wr b0).1.at.below hW) b' (U+k*4) (TxnQ.e p) (aw.below hW);generalize knw (pd.map TxnQ.e) (TxnQ.e p)=S at*
   go_wp2_with fail
   refine z0h (S:=fun w'=>∃u:Lat wr,w'=u.val) (by kernel_rfl) ?_;refine sgr [(0,7)] 1 (by kernel_rfl) ⟨⟨_,hW⟩,rfl⟩ ?_;simp only[pkE];repeat go_big_quiet_step (fail)
   refine wpQuiet_nil ?_;clear f0;refine cla 7 (some 20) 103 #[.slice p0 pd.length p5,.pointer (some ⟨b',U+k*4,none⟩)] 0 (by kernel_rfl) ?_;refine hq.mono ?_;rintro e w2 ⟨rfl,hb⟩;replace hW:=hW.trans (hb.mono hW.size);clear hb hq;refine⟨_,rfl,⟨⟨_,hW⟩,rfl⟩,?_⟩;simp only[Act.put,pgE,pjE];refine z0k (by kernel_rfl) ?_;replace RB:=RB.below hW;replace b0:=z0l b0 hW;clear hW aX aw BA aY
   cases S with
   |true=>
    have y:FK=true:=HY.out rfl;subst y;have HZ:Hid (C=6∧AA=0∧RE=⟨[],[],[],[],[]⟩):=by
     rcases d with⟨a,_⟩|⟨_,a,_⟩|⟨_,_,_,b⟩|⟨_,_,a,_⟩|⟨_,_,a,_⟩
     ·exact absurd rfl a
     ·exact absurd rfl a
     ·exact A.out 6 b (by decide)
     ·cases a
     ·cases a
    clear HY HN d HE A;have I:=fun w=>z2E 6 w
    go_wp2_with fail
    refine(I _).mono ?_;rintro e wb ⟨rfl,hb⟩;replace b0:=z0l b0 hb;replace RB:=RB.below hb;clear hb I;have Rr:=RB.row #[.int .i64 6,.int .i64 0,.int .i64 0,.slice none 0 0,.slice none 0 0,.slice none 0 0,.slice none 0 0,.slice none 0 0];have ai:=z0o (g:=w.heap.size) b0 (by omega) #[.int .i64 6,.int .i64 0,.int .i64 0,.slice none 0 0,.slice none 0 0,.slice none 0 0,.slice none 0 0,.slice none 0 0]
    go_wp2_with (first|(refine z0C (by kernel_rfl) 61 _ _ rfl _ #[.int .i64 6,.int .i64 0,.int .i64 0,.slice none 0 0,.slice none 0 0,.slice none 0 0,.slice none 0 0,.slice none 0 0] rfl rfl 61 _ RB z4X rfl (by simp[Value.oneCell']) ?_))
    obtain⟨z0,z1,z2,z3,z4,z5,z6,z7⟩:=Rr.cel8;first|done|skip
    exact bodyPost_ret (v:=.agg #[.int .i64 6,.int .i64 0,.int .i64 0,.slice none 0 0,.slice none 0 0,.slice none 0 0,.slice none 0 0,.slice none 0 0]) (by simp[results,Tryz.results81,go_sem,z0,z1,z2,z3,z4,z5,z6,z7]) rfl ⟨z8F,by rw[HZ.out.1,HZ.out.2.1];rfl,HZ.out.2.2.symm,(z0L _).1,by rw[(z0L w).2];simp,by rw[(z0L w).2];simp,ai⟩
   |false=>
    have aP:Hid _:=HN.out rfl;clear HY HN
    go_wp2
    go_roundw
    case rel=>exact⟨k+1,by omega,by go_num,b0,RB,aP⟩
    case measure=>simp[intOf];omega
  ·have aW:k=fs.length:=by omega
   subst aW;have y:FK=false:=aa.out HA.out;subst y;have V:¬((fs.length:Int)<(fs.length:Int)):=by omega
   clear HA aa N;have d0:=BA.cell 0 _ rfl;by_cases av:16<pd.length+fs.length
   ·have HZ:Hid (C=7∧AA=0∧RE=⟨[],[],[],[],[]⟩):=by
     rcases d with⟨a,_⟩|⟨_,a,_⟩|⟨_,_,a,_⟩|⟨_,_,_,_,b⟩|⟨_,_,_,a,_⟩
     ·exact absurd rfl a
     ·exact absurd rfl a
     ·cases a
     ·exact A.out 7 b (by decide)
     ·exact absurd av a
    have au:(16:Int)<(pd.length:Int)+(fs.length:Int):=by omega
    clear d HE A;have I:=fun w=>z2E 7 w
    go_wp2_with fail
    refine(I _).mono ?_;rintro e wb ⟨rfl,hb⟩;replace b0:=z0l b0 hb;replace RB:=RB.below hb;clear hb I;have Rr:=RB.row #[.int .i64 7,.int .i64 0,.int .i64 0,.slice none 0 0,.slice none 0 0,.slice none 0 0,.slice none 0 0,.slice none 0 0];have ai:=z0o (g:=w.heap.size) b0 (by omega) #[.int .i64 7,.int .i64 0,.int .i64 0,.slice none 0 0,.slice none 0 0,.slice none 0 0,.slice none 0 0,.slice none 0 0]
    go_wp2_with (first|(refine z0C (by kernel_rfl) 61 _ _ rfl _ #[.int .i64 7,.int .i64 0,.int .i64 0,.slice none 0 0,.slice none 0 0,.slice none 0 0,.slice none 0 0,.slice none 0 0] rfl rfl 61 _ RB z4X rfl (by simp[Value.oneCell']) ?_))
    obtain⟨z0,z1,z2,z3,z4,z5,z6,z7⟩:=Rr.cel8;first|done|skip
    exact bodyPost_ret (v:=.agg #[.int .i64 7,.int .i64 0,.int .i64 0,.slice none 0 0,.slice none 0 0,.slice none 0 0,.slice none 0 0,.slice none 0 0]) (by simp[results,Tryz.results81,go_sem,z0,z1,z2,z3,z4,z5,z6,z7]) rfl ⟨z8F,by rw[HZ.out.1,HZ.out.2.1];rfl,HZ.out.2.2.symm,(z0L _).1,by rw[(z0L w).2];simp,by rw[(z0L w).2];simp,ai⟩
   ·have X:C=0:=by
     rcases d with⟨a,_⟩|⟨_,a,_⟩|⟨_,_,a,_⟩|⟨_,_,_,a,_⟩|⟨_,_,_,_,b⟩
     ·exact absurd rfl a
     ·exact absurd rfl a
     ·cases a
     ·exact absurd a av
     ·exact b
    have au:¬(16:Int)<(pd.length:Int)+(fs.length:Int):=by omega
    obtain⟨eA,eE,ax,y,aj⟩:=HE.out X;clear d HE A;have d2:=BA.cell 2 _ rfl
    go_wp2_with fail
    clear d0 d2 au V;refine(am wr (hr wr b0).2.2.1.at (ao wr b0) ax).mono ?_;rintro e w4 ⟨v1,v2,q1,kq,rfl,e1,e2,o1,O,a8,aQ,hb⟩;obtain⟨ae,af,aC⟩:=o1.shape;generalize aD:q1.length=ag at aC;subst aC;obtain⟨ka,kc,rfl⟩:=O.shape;replace BA:=BA.below hb;replace RB:=RB.below hb;replace b0:=z0l b0 hb;clear hb am a8 aQ o1 e1 aD;have aN:Hid (∀q∈kq,(TxnQ.e q).F=0):=fun q hq=>y _ (by rw[←e2];exact List.mem_map.2 ⟨q,hq,rfl⟩)
    have bu:kq.length≤8:=by rw[←e2,List.length_map]at aj;exact aj
    have z:Hid (C=0∧AA=_∧RE=mkR ((pd++fs).map TxnQ.e) (kq.map TxnQ.e)):=⟨X,eA,by rw[e2];exact eE⟩
    clear y aj eA eE e2 ax X;generalize plN (pt.map TxnQ.e) (fs.map TxnQ.e)=PN at*;generalize plB (pt.map TxnQ.e) (fs.map TxnQ.e)=PB at*;have D:Below w4.heap.size w4 (w4.alloc (.cells #[.int .i64 0,.int .i64 PN,.int .i64 PB,.slice ae ag af,.slice ka kq.length kc] 67)):=by go_grown
    have BP:=Blk.new w4 67 #[.int .i64 0,.int .i64 PN,.int .i64 PB,.slice ae ag af,.slice ka kq.length kc];have bn:w4.heap.size≠w.heap.size:=by have:=RB.lt;omega
    replace BA:=BA.below D;replace RB:=RB.below D;replace b0:=z0l b0 D;replace O:=O.below D;clear D
    go_wp2_with fail
    generalize w4.alloc (.cells #[.int .i64 0,.int .i64 PN,.int .i64 PB,.slice ae ag af,.slice ka kq.length kc] 67)=Y at*;generalize w4.heap.size=gp at*;have hW:Below Y.heap.size Y Y.drew:=(Below.refl _ _).drew;have c2:=z0F (F:=[w.heap.size]) (BP.cell 2 _ rfl) (by simp;omega);have c4:=z0F (F:=[w.heap.size]) (BP.cell 4 _ rfl) (by simp;omega);have e0:=z0F (F:=[w.heap.size]) (BA.cell 0 _ rfl) (by simp;omega);have bv:Nonempty (KeepP (Out [w.heap.size] Y)):=⟨⟨Y,Out.refl _ _⟩⟩
    have hO:Out [w.heap.size] Y Y.drew:=Out.of_below hW;obtain⟨i0,hi,aZ,a6,a7⟩:=info_parts z0O;refine z0h (S:=fun w'=>∃u:KeepP (Out [w.heap.size] Y),w'=u.val) (by kernel_rfl) ?_;refine sgr [(0,6),(7,1),(10,2)] 6 (by kernel_rfl) ⟨⟨_,hO⟩,rfl⟩ ?_;simp only[pkE];repeat go_big_quiet_step (fail)
    refine wpQuiet_nil ?_;clear c2 c4 e0;have L:=b0.trans (hW.mono b0.size);refine cla 6 (some 44) 45 #[.slice p0 pd.length p5] 5 (by kernel_rfl) ?_;refine(z0X (.slice p0 pd.length p5) pd _ (hr _ L).1.at ab.out.2 aI).mono ?_;rintro e x1 ⟨v1,q1,rfl,e1,o1,n1,g1,hb⟩;have ND:Hid (∀k,∀q∈q1,k∈txnK.foot q→k∉blk v1):=fun k q hq hk hb=>(List.nodup_append.1 n1).2.2 k hb k (List.mem_flatMap.2 ⟨q,hq,hk⟩) rfl
    have bs:Y.heap.size≤Y.drew.heap.size:=hW.size;replace hW:=hW.trans (hb.mono hW.size);clear hb n1 L;replace hO:Out [w.heap.size] Y x1:=Out.of_below hW;obtain⟨a1,k1,rfl⟩:=o1.shape;refine⟨_,rfl,⟨⟨_,hO⟩,rfl⟩,?_⟩;simp only[Act.put,pgE,pjE];have L:=b0.trans (hW.mono b0.size);have i1:=o1.lt;refine cla 8 (some 46) 45 #[.slice fa fs.length fk] 4 (by kernel_rfl) ?_;refine(z0X (.slice fa fs.length fk) fs _ (ao _ L) ab.out.1 aG).mono ?_;rintro e x2 ⟨v2,q2,rfl,e2,o2,_,g2,hb⟩;obtain⟨a2,k2,rfl⟩:=o2.shape;replace o1:=o1.below hb;have bo:=hb.size;have bp:=hW.size;replace hW:=hW.trans (hb.mono hW.size);clear hb L;replace hO:Out [w.heap.size] Y x2:=Out.of_below hW;refine⟨_,rfl,⟨⟨_,hO⟩,rfl⟩,?_⟩;simp only[Act.put,pgE,pjE];have l1:q1.length=pd.length:=by simpa using congrArg List.length e1
    have l2:q2.length=fs.length:=by simpa using congrArg List.length e2
    obtain⟨_,_,ee,M,aL⟩:=o2.at;simp only[Value.slice.injEq,true_and]at ee;obtain⟨rfl,rfl⟩:=ee;have w1:q1.length+q2.length≤maxLen:=by unfold maxLen;omega
    have w2:(q1.length+q2.length)*48≤140737488355328:=by omega
    have aq:Hid ((q1++q2).length≤40):=show _≤_ by rw[List.length_append];omega
    clear l1 l2;refine ona 9 3 rfl (by kernel_rfl) ?_;refine z0Q (K:=txnK) _ rfl _ _ 27 rfl i0 (.agg #[.int .i64 0,.int .i64 0,.int .i64 0,.slice none 0 0]) 48 Tryz.underlying27 hi aZ a6 a7 rfl (by decide) 0 _ q1 rfl o1.1 _ q2 _ rfl M (z3q aL) (o2.niceV _ _ _ rfl) w1 w2 (by omega) ?_;intro v3 x3 aK aE;have T:Out (blk (.slice a1 q1.length k1)) x2 x3:=Out.of_grown aE;have ad:∀x∈blk (.slice a1 q1.length k1),Y.heap.size≤x∧x<x1.heap.size:=fun x hx=>⟨by have:=g1 x (by simp only[Kind.fp,List.mem_append];exact Or.inl hx);omega,i1 x (by simp only[Kind.fp,List.mem_append];exact Or.inl hx)⟩
    have ah:txnK.At x3 v3 (q1 ++ q2):=Kind.at_of_row aK (fun q hq=>by
     rcases List.mem_append.1 hq with hq|hq
     ·exact txnK.own_rd (txnK.own_out (o1.2 q hq) T (fun k hk e=>ND.out k q hq hk e))
     ·exact txnK.own_rd (txnK.own_out (o2.2 q hq) T (fun k hk e=>by
       have:=g2 k (by simp only[Kind.fp,List.mem_append,List.mem_flatMap];exact Or.inr ⟨q,hq,hk⟩);have:=(ad k e).2;omega)))
    replace hW:Below Y.heap.size Y x3:=Out.keep hW T hW.size (fun x hx=>(ad x hx).1);replace hO:Out [w.heap.size] Y x3:=Out.of_below hW;obtain⟨a3,k3,rfl⟩:=ah.shape
    go_wp2
    refine ThenGo.to ⟨⟨⟨_,hO⟩,rfl⟩,?_⟩;simp only[Act.put,pgE,pjE];have ay:∀q∈q1++q2,(TxnQ.e q).F=0:=fun q hq=>by
     rcases List.mem_append.1 hq with hq|hq
     ·have:TxnQ.e q∈pd.map TxnQ.e:=by rw[←e1];exact List.mem_map.2 ⟨q,hq,rfl⟩
      obtain⟨q',an,e'⟩:=List.mem_map.1 this;rw[←e'];exact ap.out q' an
     ·have:TxnQ.e q∈fs.map TxnQ.e:=by rw[←e2];exact List.mem_map.2 ⟨q,hq,rfl⟩
      obtain⟨q',an,e'⟩:=List.mem_map.1 this;rw[←e'];exact aO.out q' an
    have ar:Hid ((q1++q2).map TxnQ.e=(pd++fs).map TxnQ.e):=show _=_ by rw[List.map_append,List.map_append,e1,e2]
    have al:=z2S (.slice a3 (q1++q2).length k3) (.slice ka kq.length kc) (q1++q2) kq x3 ah (O.at.below hW) ay aN.out aq.out (by omega);rw[ar.out]at al;clear aE T ad aK M aL o1 o2 g1 g2 i1 ND ah;refine cla 12 (some 50) 140 #[.slice a3 (q1++q2).length k3,.slice ka kq.length kc] 2 (by kernel_rfl) ?_;refine al.mono ?_;rintro e w7 ⟨q,rfl,eq,oq,nq,gq,hb⟩;have br:=hW.size;replace hW:=hW.trans (hb.mono hW.size);have bq:=RB.lt;replace RB:=RB.below hW;have bw:=b0.size;replace hO:Out [w.heap.size] Y w7:=Out.of_below hW;replace b0:=b0.trans (hW.mono b0.size);have aR:∀k∈repK.foot q,k≠w.heap.size:=fun k hk=>by have:=gq k hk;omega
    have gw:∀k∈repK.foot q,w.heap.size≤k:=fun k hk=>by have:=gq k hk;omega
    clear hb gq al ay;refine⟨_,rfl,⟨⟨_,hO⟩,rfl⟩,?_⟩;simp only[Act.put,pgE,pjE];obtain⟨bg,qd,bf,qb,bi,qt,bj,qu,bh,qn⟩:=q;obtain⟨s0,t0,rfl⟩:∃a c,bg=.slice a qd.length c:=oq.1.shape;obtain⟨s1,t1,rfl⟩:∃a c,bf=.slice a qb.length c:=oq.2.1.shape;obtain⟨s2,t2,rfl⟩:∃a c,bi=.slice a qt.length c:=oq.2.2.1.shape;obtain⟨s3,t3,rfl⟩:∃a c,bj=.slice a qu.length c:=oq.2.2.2.1.shape;obtain⟨s4,t4,rfl⟩:∃a c,bh=.slice a qn.length c:=oq.2.2.2.2.shape;have aM:Hid _:=eq;clear eq;refine sgr [(13,1)] 1 (by kernel_rfl) ⟨⟨_,hO⟩,rfl⟩ ?_;simp only[pkE];repeat go_big_quiet_step (fail)
    refine wpQuiet_nil ?_;refine ona 14 0 rfl (by kernel_rfl) ?_;have Rz:=RB.row #[.int .i64 0,.int .i64 PB,.int .i64 0,.slice s0 qd.length t0,.slice s1 qb.length t1,.slice s2 qt.length t2,.slice s3 qu.length t3,.slice s4 qn.length t4];have oz:=repK.own_out oq (z0r _ (w.heap.size) #[.int .i64 0,.int .i64 PB,.int .i64 0,.slice s0 qd.length t0,.slice s1 qb.length t1,.slice s2 qt.length t2,.slice s3 qu.length t3,.slice s4 qn.length t4]) (fun k hk=>by simp only[List.mem_singleton];exact aR k hk);replace hO:Out [w.heap.size] Y _:=hO.trans (z0r w7 (w.heap.size) #[.int .i64 0,.int .i64 PB,.int .i64 0,.slice s0 qd.length t0,.slice s1 qb.length t1,.slice s2 qt.length t2,.slice s3 qu.length t3,.slice s4 qn.length t4]);replace b0:=z0o (g:=w.heap.size) b0 (by omega) #[.int .i64 0,.int .i64 PB,.int .i64 0,.slice s0 qd.length t0,.slice s1 qb.length t1,.slice s2 qt.length t2,.slice s3 qu.length t3,.slice s4 qn.length t4];refine z0C (by kernel_rfl) 61 _ _ rfl _ #[.int .i64 0,.int .i64 PB,.int .i64 0,.slice s0 qd.length t0,.slice s1 qb.length t1,.slice s2 qt.length t2,.slice s3 qu.length t3,.slice s4 qn.length t4] rfl rfl 61 _ RB z4X rfl (by simp[Value.oneCell']) ?_;refine ThenGo.to ⟨⟨⟨_,hO⟩,rfl⟩,?_⟩;refine z0k (by kernel_rfl) ?_;obtain⟨z0,z1,z2,z3,z4,z5,z6,z7⟩:=Rz.cel8
    go_wp2
    exact bodyPost_ret (v:=.agg #[.int .i64 0,.int .i64 PB,.int .i64 0,.slice s0 qd.length t0,.slice s1 qb.length t1,.slice s2 qt.length t2,.slice s3 qu.length t3,.slice s4 qn.length t4]) (by simp[results,Tryz.results81,go_sem,z0,z1,z2,z3,z4,z5,z6,z7]) rfl ⟨(⟨.slice s0 qd.length t0,qd,.slice s1 qb.length t1,qb,.slice s2 qt.length t2,qt,.slice s3 qu.length t3,qu,.slice s4 qn.length t4,qn⟩:RepQ),by rw[z.out.1,z.out.2.1],aM.out.trans z.out.2.2.symm,oz,nq,gw,b0⟩
theorem z30(p:RepQ)(vf:Value)(fs:List TxnQ)(w:World)(h:repK.own w p)(hT:txnK.Own w vf fs)(hl:p.n≤1048576)(J:fs.length+nmL TxnQ.n fs≤1048576):
  Calls Tryz.prog 29 #[.agg #[p.vd,p.vb,p.vt,p.vu,p.vn],vf] w fun e w'=>∃q:RepQ,e=.returned (.agg #[.int .i64 (dlC p.e (fs.map TxnQ.e)),.int .i64 (dlA p.e (fs.map TxnQ.e)),.int .i64 0,q.vd,q.vb,q.vt,q.vu,q.vn])∧q.e=dlE p.e (fs.map TxnQ.e)∧repK.own w' q∧(repK.foot q).Nodup∧(∀k∈repK.foot q,w.heap.size≤k)∧Below w.heap.size w w':=by
 have hf:=fun b w hB h=>z5W b p w hB h hl
 have L:=fun w h=>z3z vf fs w h hT.capOk J
 have E:Hid ((∀q∈fs,z2h q)∧z2k vf):=⟨fun q hq=>z2D (hT.2 q hq),hT.capOk⟩
 have ho:=fun b1 w hB h hT h0 h1=>z45 b1 p vf fs w hB h hT E.out.1 E.out.2 hl J h0 h1
 have hr:=fun(w':World) (hb:Below w.heap.size w w')=>repK.own_out (F:=[]) (w':=w') h (Out.of_below hb) (fun _ _=>by simp)
 have M:=fun(w':World) (hb:Below w.heap.size w w')=>hT.below hb
 have I:∀c,dlC p.e (fs.map TxnQ.e)=c→c≠0→dlC p.e (fs.map TxnQ.e)=c∧dlA p.e (fs.map TxnQ.e)=0∧dlE p.e (fs.map TxnQ.e)=⟨[],[],[],[],[]⟩:=fun c e h=>⟨e,by rw[dlA,if_neg (by rw[e];exact h)],by rw[dlE,if_neg (by rw[e];exact h)]⟩
 have z:Hid _:=I;have A:Hid (repF p.e≠0→dlC p.e (fs.map TxnQ.e)=repF p.e):=fun h1=>if_neg h1
 have D:Hid (repF p.e=0→lstF (fs.map TxnQ.e)≠0→dlC p.e (fs.map TxnQ.e)=lstF (fs.map TxnQ.e)):=fun h1 h2=>by rw[dlC,if_pos h1,if_neg h2]
 clear I;obtain⟨fa,fk,rfl⟩:=hT.shape;generalize dlA p.e (fs.map TxnQ.e)=AA at*;generalize dlE p.e (fs.map TxnQ.e)=RE at*;generalize dlC p.e (fs.map TxnQ.e)=C at*;generalize repF p.e=RF at*;generalize lstF (fs.map TxnQ.e)=LF at*;obtain⟨U,pd,T,pb,X,pt,Y,pu,V,pn⟩:=p;obtain⟨p0,p5,rfl⟩:∃a c,U=.slice a pd.length c:=h.1.shape;obtain⟨p1,p6,rfl⟩:∃a c,T=.slice a pb.length c:=h.2.1.shape;obtain⟨p2,p7,rfl⟩:∃a c,X=.slice a pt.length c:=h.2.2.1.shape;obtain⟨p3,p8,rfl⟩:∃a c,Y=.slice a pu.length c:=h.2.2.2.1.shape;obtain⟨p4,p9,rfl⟩:∃a c,V=.slice a pn.length c:=h.2.2.2.2.shape;dsimp only at hf ho hr;have b0:Below w.heap.size w ((w.alloc (.cells #[.slice p0 pd.length p5,.slice p1 pb.length p6,.slice p2 pt.length p7,.slice p3 pu.length p8,.slice p4 pn.length p9] 57)).alloc (.cells #[.int .i64 0,.int .i64 0,.int .i64 0,.slice none 0 0,.slice none 0 0,.slice none 0 0,.slice none 0 0,.slice none 0 0] 61)):=by go_grown
 have BA:=(Blk.new w 57 #[.slice p0 pd.length p5,.slice p1 pb.length p6,.slice p2 pt.length p7,.slice p3 pu.length p8,.slice p4 pn.length p9]).below (w':=((w.alloc (.cells #[.slice p0 pd.length p5,.slice p1 pb.length p6,.slice p2 pt.length p7,.slice p3 pu.length p8,.slice p4 pn.length p9] 57)).alloc (.cells #[.int .i64 0,.int .i64 0,.int .i64 0,.slice none 0 0,.slice none 0 0,.slice none 0 0,.slice none 0 0,.slice none 0 0] 61))) (by go_grown);have RB:=Blk.new (w.alloc (.cells #[.slice p0 pd.length p5,.slice p1 pb.length p6,.slice p2 pt.length p7,.slice p3 pu.length p8,.slice p4 pn.length p9] 57)) 61 #[.int .i64 0,.int .i64 0,.int .i64 0,.slice none 0 0,.slice none 0 0,.slice none 0 0,.slice none 0 0,.slice none 0 0];simp only[World.size_alloc]at RB;go_enter Tryz.func29,Tryz.ntmps29
 go_wp2_with fail
 generalize ((w.alloc (.cells #[.slice p0 pd.length p5,.slice p1 pb.length p6,.slice p2 pt.length p7,.slice p3 pu.length p8,.slice p4 pn.length p9] 57)).alloc (.cells #[.int .i64 0,.int .i64 0,.int .i64 0,.slice none 0 0,.slice none 0 0,.slice none 0 0,.slice none 0 0,.slice none 0 0] 61))=W at*;refine(hf _ W BA (hr W b0)).mono ?_;rintro e w1 ⟨rfl,hb⟩;replace BA:=BA.below hb;replace RB:=RB.below hb;replace b0:=z0l b0 hb;clear hb hf;by_cases h1:RF=0
 ·have d:Hid (LF≠0→C=LF):=D.out h1;subst h1;clear A D
  go_wp2_with fail
  refine(L w1 (M w1 b0).at).mono ?_;rintro e w2 ⟨rfl,hb⟩;replace BA:=BA.below hb;replace RB:=RB.below hb;replace b0:=z0l b0 hb;clear hb L;by_cases h2:LF=0
  ·subst h2;clear d
   go_wp2_with fail
   refine(ho _ w2 BA (hr w2 b0) (M w2 b0).at (by first|exact trivial|rfl) (by first|exact trivial|rfl)).mono ?_;rintro e w7 ⟨q,rfl,eq,oq,nq,gq,hb⟩;have af:=RB.lt;replace RB:=RB.below hb;have ai:=b0.size;replace b0:=z0l b0 hb;have O:∀k∈repK.foot q,k≠w.heap.size+1:=fun k hk=>by have:=gq k hk;omega
   have gw:∀k∈repK.foot q,w.heap.size≤k:=fun k hk=>by have:=gq k hk;omega
   clear hb gq ho;obtain⟨aa,qd,Z,qb,ad,qt,ae,qu,ab,qn⟩:=q;obtain⟨s0,t0,rfl⟩:∃a c,aa=.slice a qd.length c:=oq.1.shape;obtain⟨s1,t1,rfl⟩:∃a c,Z=.slice a qb.length c:=oq.2.1.shape;obtain⟨s2,t2,rfl⟩:∃a c,ad=.slice a qt.length c:=oq.2.2.1.shape;obtain⟨s3,t3,rfl⟩:∃a c,ae=.slice a qu.length c:=oq.2.2.2.1.shape;obtain⟨s4,t4,rfl⟩:∃a c,ab=.slice a qn.length c:=oq.2.2.2.2.shape;have N:Hid _:=eq;clear eq;have Rz:=RB.row #[.int .i64 C,.int .i64 AA,.int .i64 0,.slice s0 qd.length t0,.slice s1 qb.length t1,.slice s2 qt.length t2,.slice s3 qu.length t3,.slice s4 qn.length t4];have oz:=repK.own_out oq (z0r _ (w.heap.size+1) #[.int .i64 C,.int .i64 AA,.int .i64 0,.slice s0 qd.length t0,.slice s1 qb.length t1,.slice s2 qt.length t2,.slice s3 qu.length t3,.slice s4 qn.length t4]) (fun k hk=>by simp only[List.mem_singleton];exact O k hk);have x:=z0o (g:=w.heap.size+1) b0 (by omega) #[.int .i64 C,.int .i64 AA,.int .i64 0,.slice s0 qd.length t0,.slice s1 qb.length t1,.slice s2 qt.length t2,.slice s3 qu.length t3,.slice s4 qn.length t4]
   go_wp2_with (first|(refine z0C (by kernel_rfl) 61 _ _ rfl _ #[.int .i64 C,.int .i64 AA,.int .i64 0,.slice s0 qd.length t0,.slice s1 qb.length t1,.slice s2 qt.length t2,.slice s3 qu.length t3,.slice s4 qn.length t4] rfl rfl 61 _ RB z4X rfl (by simp[Value.oneCell']) ?_))
   obtain⟨z0,z1,z2,z3,z4,z5,z6,z7⟩:=Rz.cel8;first|done|skip
   exact bodyPost_ret (v:=.agg #[.int .i64 C,.int .i64 AA,.int .i64 0,.slice s0 qd.length t0,.slice s1 qb.length t1,.slice s2 qt.length t2,.slice s3 qu.length t3,.slice s4 qn.length t4]) (by simp[results,Tryz.results29,go_sem,z0,z1,z2,z3,z4,z5,z6,z7]) rfl ⟨(⟨.slice s0 qd.length t0,qd,.slice s1 qb.length t1,qb,.slice s2 qt.length t2,qt,.slice s3 qu.length t3,qu,.slice s4 qn.length t4,qn⟩:RepQ),rfl,N.out,oz,nq,gw,x⟩
  ·have HZ:Hid (C=LF∧AA=0∧RE=⟨[],[],[],[],[]⟩):=z.out LF (d.out h2) h2;have ah:(LF !=0)=true:=by simpa using h2
   clear z ho d;have y:=fun w=>z2E LF w
   go_wp2_with fail
   refine(y _).mono ?_;rintro e wb ⟨rfl,hb⟩;replace b0:=z0l b0 hb;replace RB:=RB.below hb;clear hb y;have Rr:=RB.row #[.int .i64 LF,.int .i64 0,.int .i64 0,.slice none 0 0,.slice none 0 0,.slice none 0 0,.slice none 0 0,.slice none 0 0];have x:=z0o (g:=w.heap.size+1) b0 (by omega) #[.int .i64 LF,.int .i64 0,.int .i64 0,.slice none 0 0,.slice none 0 0,.slice none 0 0,.slice none 0 0,.slice none 0 0]
   go_wp2_with (first|(refine z0C (by kernel_rfl) 61 _ _ rfl _ #[.int .i64 LF,.int .i64 0,.int .i64 0,.slice none 0 0,.slice none 0 0,.slice none 0 0,.slice none 0 0,.slice none 0 0] rfl rfl 61 _ RB z4X rfl (by simp[Value.oneCell']) ?_))
   obtain⟨z0,z1,z2,z3,z4,z5,z6,z7⟩:=Rr.cel8;first|done|skip
   exact bodyPost_ret (v:=.agg #[.int .i64 LF,.int .i64 0,.int .i64 0,.slice none 0 0,.slice none 0 0,.slice none 0 0,.slice none 0 0,.slice none 0 0]) (by simp[results,Tryz.results29,go_sem,z0,z1,z2,z3,z4,z5,z6,z7]) rfl ⟨z8F,by rw[HZ.out.1,HZ.out.2.1];rfl,HZ.out.2.2.symm,(z0L _).1,by rw[(z0L w).2];simp,by rw[(z0L w).2];simp,x⟩
 ·have HZ:Hid (C=RF∧AA=0∧RE=⟨[],[],[],[],[]⟩):=z.out RF (A.out h1) h1;have ag:(RF !=0)=true:=by simpa using h1
  clear z ho A D;have y:=fun w=>z2E RF w
  go_wp2_with fail
  refine(y _).mono ?_;rintro e wb ⟨rfl,hb⟩;replace b0:=z0l b0 hb;replace RB:=RB.below hb;clear hb y;have Rr:=RB.row #[.int .i64 RF,.int .i64 0,.int .i64 0,.slice none 0 0,.slice none 0 0,.slice none 0 0,.slice none 0 0,.slice none 0 0];have x:=z0o (g:=w.heap.size+1) b0 (by omega) #[.int .i64 RF,.int .i64 0,.int .i64 0,.slice none 0 0,.slice none 0 0,.slice none 0 0,.slice none 0 0,.slice none 0 0]
  go_wp2_with (first|(refine z0C (by kernel_rfl) 61 _ _ rfl _ #[.int .i64 RF,.int .i64 0,.int .i64 0,.slice none 0 0,.slice none 0 0,.slice none 0 0,.slice none 0 0,.slice none 0 0] rfl rfl 61 _ RB z4X rfl (by simp[Value.oneCell']) ?_))
  obtain⟨z0,z1,z2,z3,z4,z5,z6,z7⟩:=Rr.cel8;first|done|skip
  exact bodyPost_ret (v:=.agg #[.int .i64 RF,.int .i64 0,.int .i64 0,.slice none 0 0,.slice none 0 0,.slice none 0 0,.slice none 0 0,.slice none 0 0]) (by simp[results,Tryz.results29,go_sem,z0,z1,z2,z3,z4,z5,z6,z7]) rfl ⟨z8F,by rw[HZ.out.1,HZ.out.2.1];rfl,HZ.out.2.2.symm,(z0L _).1,by rw[(z0L w).2];simp,by rw[(z0L w).2];simp,x⟩
theorem z2i{w w':World}{p:RepQ}(h:repK.own w p)(hb:Below w.heap.size w w'):repK.own w' p:=repK.own_out (F:=[]) h (Out.of_below hb) (fun _ _=>by simp)
theorem iRF(p:RepQ)(w:World)(hg:ErrT w)(h:repK.own w p)(hl:p.n≤1048576):Calls Tryz.prog 32 #[.agg #[p.vd,p.vb,p.vt,p.vu,p.vn]] w fun e w'=>e=.returned (.int .i64 (repF p.e))∧Below w.heap.size w w':=
 z2a p w hg (repK.own_rd h) h.1.niceV h.2.2.1.niceV hl
theorem iSI(v v':Value)(xs ys:List ItemD)(w:World)(h:itemK.Own w v xs)(h':itemK.Own w v' ys)(hl:xs.length≤1048576)(hl':ys.length≤1048576):Calls Tryz.prog 33 #[v,v'] w fun e w'=>e=.returned (.bool (sameIs xs ys))∧Below w.heap.size w w':=by
 obtain⟨a,c,rfl⟩:=h.shape;obtain⟨a',c',rfl⟩:=h'.shape;exact z06 a a' c c' xs ys w (z3X h.at) (z3X h'.at) hl hl'
theorem iSR(p q:RepQ)(w:World)(h:repK.own w p)(h':repK.own w q)(he:p.e=q.e)(hl:p.n≤1048576)(hl':q.n≤1048576):Calls Tryz.prog 34 #[.agg #[p.vd,p.vb,p.vt,p.vu,p.vn],.agg #[q.vd,q.vb,q.vt,q.vu,q.vn]] w fun e w'=>e=.returned (.bool true)∧Below w.heap.size w w':=by
 have:=z1d p q w (repK.own_rd h) (repK.own_rd h') hl hl';rw[he,z2I]at this;exact this
theorem z7D{p:RepQ}(h:repF p.e=0):p.n≤1000:=by
 have e:=z7z h;obtain⟨_,_,_,hD,hE,_,_,_,_,l1,l2⟩:=z3Y h;exact z3s e hD hE (by omega) (by omega)
section
open Go.Maps
theorem z31(n:Nat)(aj:1≤n)(hn:n≤10)(B b T:Nat)(w:World)(hS:Src B w b T)(hT:T≤800000):
  Calls Tryz.prog 71 #[.pointer (some ⟨b,0,none⟩),.int .i64 n] w fun e w'=>∃ (v:Value) (ps:List TxnP),e=.returned v∧ps.length+1≤n∧(∀p∈ps,p.d.acts.length≤5∧p.d.F=0)∧TxnRow w.heap.size w' v ps∧Src B w' b (T+200)∧w.grownBy w' (some b):=by
 obtain⟨i0,hi,ae,af,ag⟩:=info_parts z0O;have L:=hS.lt;have M:(w.alloc (.cells #[] 44)).ownsRow w.heap.size 44 4 (.slice (some ⟨w.heap.size,0,none⟩) 0 0) 0 []:=World.ownsRow_lit w #[] 0 (Nat.le_refl _) (by decide) rfl;have hg:w.grownBy (w.alloc (.cells #[] 44)) (some b):=World.grownBy_alloc w _ _;replace hS:Src B (w.alloc (.cells #[] 44)) b T:=hS.below (by go_grown);go_enter Tryz.func71,Tryz.ntmps71
 go_wp2_with fail
 generalize w.alloc (.cells #[] 44)=W1 at M hg hS;refine(z0t B b T (n:Int) W1 hS (by omega) (by omega)).mono ?_;rintro e w3 ⟨r,rfl,hr,A,h⟩;obtain⟨j0,rfl⟩:=Int.eq_ofNat_of_zero_le hr.1;have aa:j0+1≤n:=by have:=hr.2.1 (by omega);omega
 have C:TxnRow w.heap.size W1 (.slice (some ⟨w.heap.size,0,none⟩) 0 0) []:=⟨M,by simp,by simp⟩
 replace C:=C.src L.2 h;replace hg:=hg.trans h;replace hS:=A;clear h A hr M
 go_wp2
 go_loopw[5,6] (fun v c wr=>∃ (j:Nat) (ps:List TxnP),c=.int .i64 j∧j+1≤n∧j+ps.length+1≤n∧Hid (∀p∈ps,p.d.acts.length≤5∧p.d.F=0)∧TxnRow w.heap.size wr v ps∧Src B wr b (T+1+13*(9-j))∧w.grownBy wr (some b)) (fun _ c _=>(intOf c).toNat)
 case atStart=>exact⟨j0,[],rfl,aa,by simp;omega,by intro p hp;simp at hp,C,hS.mono (by omega),hg⟩
 case round=>
  clear C hS hg;obtain⟨j,ps,rfl,ai,hj,HP,hR,hS,hg⟩:=hrel;have ab:=hg.size;obtain⟨a1,c1,rfl⟩:=z0b hR.1;by_cases ah:0<j
  ·skip
   go_wp2_with fail
   refine(z5T B b (T+1+13*(9-j)) wr hS (by omega)).mono ?_;rintro e w4 ⟨i,s,q,a,c,xs,rfl,ad,ak,ho,A,h⟩;have O:Value.ownBlock (.slice a xs.length c)=none∨Value.ownBlock (.slice a xs.length c)≠Value.ownBlock (.slice a1 ps.length c1):=z1E hR.1 ho (Nat.le_refl _);replace hR:=hR.src L.2 h;replace hg:=hg.trans h;replace hS:=A;replace ho:=z0m ho ab;clear h A;have z:Below w4.heap.size w4 (w4.alloc (.cells #[.int .i64 i,.int .i64 s,.int .i64 q,.slice a xs.length c] 44)):=by go_grown
   have hX:=Blk.new w4 44 #[.int .i64 i,.int .i64 s,.int .i64 q,.slice a xs.length c];have W:=z1j (.slice a1 ps.length c1) (ps.map TxnP.qk) w4.heap.size 0 ⟨i,s,q,xs⟩ (.slice a xs.length c) _ (hR.below z).atK (z5Z w4 _ _ _ _ 44) (by rw[List.length_map];omega);replace hg:=z0e hg (z.mono hg.size);replace hS:=hS.below z;replace hR:=hR.below z;replace ho:=z0a ho z;generalize knw ((ps.map TxnP.qk).map TxnQ.e) ⟨i,s,q,xs⟩=K at*
   go_wp2_with fail
   generalize w4.heap.size=H4 at*;generalize w4.alloc (.cells #[.int .i64 i,.int .i64 s,.int .i64 q,.slice a xs.length c] 44)=W4 at*;refine W.mono ?_;rintro e w6 ⟨rfl,y⟩;replace hg:=z0e hg (y.mono hg.size);replace hS:=hS.below y;replace hR:=hR.below y;replace ho:=z0a ho y;replace hX:=hX.below y;clear W y z
   cases K with
   |true=>
    clear ho O hX
    go_wp2
    go_roundw
    case rel=>exact⟨j-1,ps,by go_num,by omega,by omega,HP,hR,hS.mono (by omega),hg⟩
    case measure=>simp[intOf];omega
   |false=>
    obtain⟨x0,x1,x2,x3⟩:=hX.cel4;have D:Below w6.heap.size w6 (w6.alloc (.cells #[.int .i64 i,.int .i64 s,.int .i64 q,.slice a xs.length c] 44)):=by go_grown
    have X:=hg.size;have N:=z0a hR.1 D
    go_wp2_with (at_builtin;refine wpList_append_own_at _ rfl _ _ 27 rfl w.heap.size 44 i0 (.agg #[.int .i64 0,.int .i64 0,.int .i64 0,.slice none 0 0]) 4 48 Tryz.underlying27 hi ae af ag rfl (by decide) _ ps.length (z0v ps) rfl N ⟨w6.heap.size,0,none⟩ 1 1 [.int .i64 i,.int .i64 s,.int .i64 q,.slice a xs.length c] rfl rfl ?c1 ?c2 ?c3 ?c4 ?c5 ?_)
    all_goals try(case c1=>intro j u hj;match j,hj with|0,hj=>simp at hj;subst hj;simp[Addr.add]|1,hj=>simp at hj;subst hj;simp[Addr.add]|2,hj=>simp at hj;subst hj;simp[Addr.add]|3,hj=>simp at hj;subst hj;simp[Addr.add])
    all_goals try(case c2=>intro u hu;simp at hu;rcases hu with rfl|rfl|rfl|rfl<;>rfl)
    all_goals try(case c3=>unfold maxLen;omega)
    all_goals try(case c4=>omega)
    all_goals try(case c5=>first|omega|(simp;omega))
    intro v' w5 I x E U;have V:∀j,(Value.slice a1 ps.length c1).ownBlock=some j→w.heap.size≤j:=fun j hj=>(N.lt j hj).1
    have J:Below w.heap.size w6 w5:=((Below.refl w.heap.size w6).alloc X (.cells #[.int .i64 i,.int .i64 s,.int .i64 q,.slice a xs.length c] 44)).grown x (by simp;omega) V;have Z:Hid (TxnRow w.heap.size w5 v' (ps++[(⟨⟨i,s,q,xs⟩,a,c⟩:TxnP)])):=(hR.below D).append (⟨⟨i,s,q,xs⟩,a,c⟩:TxnP) (z0a ho D) O (by simpa[TxnP.cells,TxnP.sl]using I) x (by rw[World.size_alloc];exact U) E;replace hg:=z0e hg J;replace hS:=hS.low J L.2;have Y:Hid (∀p∈ps++[(⟨⟨i,s,q,xs⟩,a,c⟩:TxnP)],p.d.acts.length≤5∧p.d.F=0):=by
     intro p hp;simp only[List.mem_append,List.mem_singleton]at hp;rcases hp with hp|rfl
     ·exact HP.out p hp
     ·exact⟨by show xs.length≤5;omega,ad⟩
    clear hR ho N I x U E V J D O;clear x0 x1 x2 x3 hX
    go_wp2
    go_roundw
    case rel=>exact⟨j-1,ps++[(⟨⟨i,s,q,xs⟩,a,c⟩:TxnP)],by go_num,by omega,by simp;omega,Y,Z.out,hS.mono (by omega),hg⟩
    case measure=>simp[intOf];omega
  ·go_wp2
   go_ret;exact⟨_,ps,rfl,by omega,HP.out,hR,hS.mono (by omega),hg⟩
theorem z7E(x y:Int)(w:World):Calls Tryz.prog 175 #[.int .i64 x,.int .i64 y] w fun e w'=>e=.returned (.int .i64 (min x y))∧w'=w:=by
 by_cases h:x<y
 ·have hm:min x y=x:=by omega
  go_enter Tryz.func175,Tryz.ntmps175
  go_wp2
  go_ret;exact⟨by first|rfl|(rw[hm];rfl),rfl⟩
 ·have hm:min x y=y:=by omega
  go_enter Tryz.func175,Tryz.ntmps175
  go_wp2
  go_ret;exact⟨by first|rfl|(rw[hm];rfl),rfl⟩
theorem hsz4(w:World):(sizeOf (Tryz.prog.elem 27)).run Tryz.prog w=.ok 4 w:=by
 rw[show Tryz.prog.elem 27=44 by kernel_rfl]
 kernel_rfl
theorem z1l:(Tryz.prog.info? 57).map (·.size)=some 5:=by kernel_rfl
theorem z6I(B b T:Nat)(w:World)(hS:Src B w b T)(hT:T≤700000):
  Calls Tryz.prog 125 #[.pointer (some ⟨b,0,none⟩)] w fun e w'=>∃q:RepQ,e=.returned (.agg #[q.vd,q.vb,q.vt,q.vu,q.vn])∧q.n≤1000∧repK.own w' q∧(repK.foot q).Nodup∧(∀k∈repK.foot q,w.heap.size≤k)∧Src B w' b (T+300)∧w.grownBy w' (some b):=by
 have aq:=hS.lt;have RB:=Blk.new w 57 #[.slice none 0 0,.slice none 0 0,.slice none 0 0,.slice none 0 0,.slice none 0 0];have z:w.grownBy (w.alloc (.cells #[.slice none 0 0,.slice none 0 0,.slice none 0 0,.slice none 0 0,.slice none 0 0] 57)) (some b):=World.grownBy_alloc w _ _;have av:w.heap.size<(w.alloc (.cells #[.slice none 0 0,.slice none 0 0,.slice none 0 0,.slice none 0 0,.slice none 0 0] 57)).heap.size:=by simp
 replace hS:Src B (w.alloc (.cells #[.slice none 0 0,.slice none 0 0,.slice none 0 0,.slice none 0 0,.slice none 0 0] 57)) b T:=hS.below (by go_grown);go_enter Tryz.func125,Tryz.ntmps125
 go_wp2_with fail
 generalize w.alloc (.cells #[.slice none 0 0,.slice none 0 0,.slice none 0 0,.slice none 0 0,.slice none 0 0] 57)=W at*;refine(z31 10 (by omega) (by omega) B b T W hS (by omega)).mono ?_;rintro e w1 ⟨v,ps,rfl,au,V,hR,y,h⟩;replace hS:=y;replace RB:=RB.grown h (by simp only[ne_eq,Option.some.injEq];omega);replace z:=z.trans h;have N:b<W.heap.size:=by omega
 have aw:=h.size;clear y h;obtain⟨a1,c1,rfl⟩:=z0b hR.1;have HP:Hid (∀p∈ps,p.d.acts.length≤5∧p.d.F=0):=V;have ap:(ps.length:Int)≤9:=by omega
 clear V
 go_wp2_with fail
 refine(z0t B b (T+200) ((ps.length:Int)+1) w1 hS (by omega) (by omega)).mono ?_;rintro e w2 ⟨r,rfl,hr,y,h⟩;replace hS:=y;replace hR:=hR.src N h;replace RB:=RB.grown h (by simp only[ne_eq,Option.some.injEq];omega);replace z:=z.trans h;have ax:=h.size;clear y h;obtain⟨m,rfl⟩:=Int.eq_ofNat_of_zero_le hr.1;have hm:m≤ps.length:=by have:=hr.2.1 (by omega);omega
 obtain⟨ak,al⟩:ps.length≤c1∧c1≤maxLen:=hR.cap;have I:(0:Int)≤(m:Int):=by omega
 have O:(m:Int)≤(c1:Int):=by omega
 obtain⟨k,hk⟩:∃k:Nat,k=Nat.min ps.length (m+8):=⟨_,rfl⟩
 have M:min (ps.length:Int) ((m:Int)+8)=(k:Int):=by rw[hk];simp only[Nat.min_def];split<;>omega
 have ao:m≤k∧k≤ps.length:=by rw[hk];simp only[Nat.min_def];split<;>omega
 have U:(m:Int)≤(k:Int):=by omega
 have L:(k:Int)≤(c1:Int):=by omega
 have D:∀u:World,(Instr.sliceAt 27 (.slice a1 ps.length c1) none (some (.int .i64 (m:Int))) none).run Tryz.prog u=.ok (.slice a1 m c1) u:=fun u=>by
  rw[run_sliceAt_slice u 27 _ _ _ _ (by kernel_rfl),run_slice_h u 27 a1 ps.length c1 (by kernel_rfl) .i64 (m:Int) I O,hsz4 u];simp only[Result.andThen,sliced,Int.toNat_natCast,Nat.sub_zero,Nat.zero_mul]
  cases a1 with
  |none=>simp
  |some x=>simp[Addr.add]
 obtain⟨ra,rc,qs,E,aa,A⟩:∃ra rc qs,(∀u:World,(Instr.sliceAt 27 (.slice a1 ps.length c1) (some (.int .i64 (m:Int))) (some (.int .i64 (k:Int))) none).run Tryz.prog u=.ok (.slice ra (k-m) rc) u)∧txnK.At w2 (.slice ra (k-m) rc) qs∧(∀q∈qs,q∈ps.map TxnP.qk)∧qs.length≤40:=by
  refine⟨_,_,((ps.map TxnP.qk).drop m).take (k-m),fun u=>?_,(hR.atK.dropS m (by rw[List.length_map];omega) (by rw[List.length_map];omega) (c1-m)).takeK (k-m) (by rw[List.length_drop,List.length_map];omega),fun q hq=>List.mem_of_mem_drop (List.mem_of_mem_take hq),by rw[List.length_take,List.length_drop,List.length_map];omega⟩;rw[run_sliceAt_slice u 27 _ _ _ _ (by kernel_rfl),run_slice_lh u 27 a1 ps.length c1 (by kernel_rfl) .i64 .i64 (m:Int) (k:Int) I U L,hsz4 u];simp only[Result.andThen,sliced,Int.toNat_natCast];rfl
 have Z:=hR.atK.takeK m (by rw[List.length_map];exact hm);have hF:∀q∈ps.map TxnP.qk,(TxnQ.e q).F=0:=fun q hq=>by
  obtain⟨p,hp,rfl⟩:=List.mem_map.1 hq;exact(HP.out p hp).2
 have C:=fun w' h1 h2=>z2S (.slice a1 m c1) (.slice ra (k-m) rc) ((ps.map TxnP.qk).take m) qs w' h1 h2 (fun q hq=>hF q (List.mem_of_mem_take hq)) (fun q hq=>hF q (A.1 q hq)) (by rw[List.length_take,List.length_map];omega) A.2
 have HF:Hid ((∀q∈(ps.map TxnP.qk).take m,(TxnQ.e q).F=0)∧(∀q∈qs,(TxnQ.e q).F=0)∧((ps.map TxnP.qk).take m).length≤40∧qs.length≤40):=⟨fun q hq=>hF q (List.mem_of_mem_take hq),fun q hq=>hF q (A.1 q hq),by rw[List.length_take,List.length_map];omega,A.2⟩
 have J:=z7E (ps.length:Int) ((m:Int)+8);rw[M]at J;clear hF A hk M I O U L hr HP;generalize (ps.map TxnP.qk).take m=ay at*;have am:W.heap.size≤w2.heap.size:=by omega
 go_wp2_with fail
 have hW:Below w2.heap.size w2 w2.drew:=(Below.refl _ _).drew;have ar:Nonempty (KeepP (Out [w.heap.size] w2)):=⟨⟨w2,Out.refl _ _⟩⟩
 refine z0h (S:=fun w'=>∃u:KeepP (Out [w.heap.size] w2),w'=u.val) (by kernel_rfl) ?_;refine sgr [(0,2),(3,3),(7,2)] 6 (by kernel_rfl) ⟨⟨_,Out.of_below hW⟩,rfl⟩ ?_;simp only[pkE];repeat go_big_quiet_step (fail)
 refine wpQuiet_nil ?_;refine qta 2 (some 14) (.slice a1 m c1) 5 (by kernel_rfl) (fun u hu=>?_) ⟨⟨_,Out.of_below hW⟩,rfl⟩ ?_
 ·refine Eq.trans (b:=some (((Instr.sliceAt 27 (.slice a1 ps.length c1) none (some (.int .i64 (m:Int))) none)>>=fun x=>pure (Next.value x):Sem Next).run Tryz.prog u)) (by kernel_rfl) ?_;rw[Sem.run_bind,D u];rfl
 simp only[Act.put,pjE];refine qta 6 (some 18) (.int .i64 ps.length) 4 (by kernel_rfl) (fun u _=>by kernel_rfl) ⟨⟨_,Out.of_below hW⟩,rfl⟩ ?_;simp only[Act.put,pjE];generalize w2.drew=wd at*;refine cla 9 (some 21) 175 #[.int .i64 ps.length,.int .i64 ((m:Int)+8)] 3 (by kernel_rfl) ?_;refine(J wd).mono ?_;rintro e w3 ⟨rfl,rfl⟩;refine⟨_,rfl,⟨⟨_,Out.of_below hW⟩,rfl⟩,?_⟩;simp only[Act.put,pjE];refine qta 10 (some 22) (.slice ra (k-m) rc) 2 (by kernel_rfl) (fun u hu=>?_) ⟨⟨_,Out.of_below hW⟩,rfl⟩ ?_
 ·refine Eq.trans (b:=some (((Instr.sliceAt 27 (.slice a1 ps.length c1) (some (.int .i64 (m:Int))) (some (.int .i64 (k:Int))) none)>>=fun x=>pure (Next.value x):Sem Next).run Tryz.prog u)) (by kernel_rfl) ?_;rw[Sem.run_bind,E u];rfl
 simp only[Act.put,pjE];refine cla 11 (some 23) 140 #[.slice a1 m c1,.slice ra (k-m) rc] 1 (by kernel_rfl) ?_;refine(C _ (Z.below hW) (aa.below hW)).mono ?_;rintro e w4 ⟨q,rfl,eq,oq,nq,gq,hb⟩;have an:=hW.size;replace hW:=hW.trans (hb.mono hW.size);have X:q.n≤1000:=z3s eq (fun t ht=>by obtain⟨p,hp,rfl⟩:=List.mem_map.1 ht;exact HF.out.1 p hp) (fun t ht=>by obtain⟨p,hp,rfl⟩:=List.mem_map.1 ht;exact HF.out.2.1 p hp) (by rw[List.length_map];exact HF.out.2.2.1) (by rw[List.length_map];exact HF.out.2.2.2);replace gq:∀k∈repK.foot q,w2.heap.size≤k:=fun k hk=>by have:=gq k hk;omega
 have HQ:Hid (q.n≤1000):=X;clear hb eq X C J D E HF;refine⟨_,rfl,⟨⟨_,Out.of_below hW⟩,rfl⟩,?_⟩;simp only[Act.put,pjE];obtain⟨ag,qd,af,qb,ai,qt,aj,qu,ah,qn⟩:=q;obtain⟨s0,t0,rfl⟩:∃a c,ag=.slice a qd.length c:=oq.1.shape;obtain⟨s1,t1,rfl⟩:∃a c,af=.slice a qb.length c:=oq.2.1.shape;obtain⟨s2,t2,rfl⟩:∃a c,ai=.slice a qt.length c:=oq.2.2.1.shape;obtain⟨s3,t3,rfl⟩:∃a c,aj=.slice a qu.length c:=oq.2.2.2.1.shape;obtain⟨s4,t4,rfl⟩:∃a c,ah=.slice a qn.length c:=oq.2.2.2.2.shape;refine ona 12 0 rfl (by kernel_rfl) ?_;replace RB:=RB.below hW;have Rz:=RB.row #[.slice s0 qd.length t0,.slice s1 qb.length t1,.slice s2 qt.length t2,.slice s3 qu.length t3,.slice s4 qn.length t4];have Y:∀k∈repK.foot (⟨.slice s0 qd.length t0,qd,.slice s1 qb.length t1,qb,.slice s2 qt.length t2,qt,.slice s3 qu.length t3,qu,.slice s4 qn.length t4,qn⟩:RepQ),k≠w.heap.size:=fun k hk=>by have:=gq k hk;omega
 have gw:∀k∈repK.foot (⟨.slice s0 qd.length t0,qd,.slice s1 qb.length t1,qb,.slice s2 qt.length t2,qt,.slice s3 qu.length t3,qu,.slice s4 qn.length t4,qn⟩:RepQ),w.heap.size≤k:=fun k hk=>by have:=gq k hk;omega
 have oz:=repK.own_out oq (z0r _ w.heap.size #[.slice s0 qd.length t0,.slice s1 qb.length t1,.slice s2 qt.length t2,.slice s3 qu.length t3,.slice s4 qn.length t4]) (fun k hk=>by simp only[List.mem_singleton];exact Y k hk);have ae:w.grownBy (w4.setRow w.heap.size #[.slice s0 qd.length t0,.slice s1 qb.length t1,.slice s2 qt.length t2,.slice s3 qu.length t3,.slice s4 qn.length t4]) (some b):=z0e z (z0o (g:=w.heap.size) (hW.mono (by omega)) (Nat.le_refl _) #[.slice s0 qd.length t0,.slice s1 qb.length t1,.slice s2 qt.length t2,.slice s3 qu.length t3,.slice s4 qn.length t4]);have ad:Src B (w4.setRow w.heap.size #[.slice s0 qd.length t0,.slice s1 qb.length t1,.slice s2 qt.length t2,.slice s3 qu.length t3,.slice s4 qn.length t4]) b (T+300):=(hS.low (z0o (g:=w.heap.size) (hW.mono (B':=w.heap.size) (by omega)) (Nat.le_refl _) #[.slice s0 qd.length t0,.slice s1 qb.length t1,.slice s2 qt.length t2,.slice s3 qu.length t3,.slice s4 qn.length t4]) (by omega)).mono (by omega);have ab:Out [w.heap.size] w2 (w4.setRow w.heap.size #[.slice s0 qd.length t0,.slice s1 qb.length t1,.slice s2 qt.length t2,.slice s3 qu.length t3,.slice s4 qn.length t4]):=(Out.of_below hW).trans (z0r _ w.heap.size #[.slice s0 qd.length t0,.slice s1 qb.length t1,.slice s2 qt.length t2,.slice s3 qu.length t3,.slice s4 qn.length t4]);refine z0C (by kernel_rfl) 57 _ _ rfl _ #[.slice s0 qd.length t0,.slice s1 qb.length t1,.slice s2 qt.length t2,.slice s3 qu.length t3,.slice s4 qn.length t4] rfl rfl 57 _ RB z1l rfl (by simp[Value.oneCell']) ?_;refine ThenGo.to ⟨⟨⟨_,ab⟩,rfl⟩,?_⟩;refine z0k (by kernel_rfl) ?_;obtain⟨z0,z1,z2,z3,z4⟩:=Rz.cel5
 go_wp2
 exact bodyPost_ret (v:=.agg #[.slice s0 qd.length t0,.slice s1 qb.length t1,.slice s2 qt.length t2,.slice s3 qu.length t3,.slice s4 qn.length t4]) (by simp[results,Tryz.results125,go_sem,z0,z1,z2,z3,z4]) rfl ⟨(⟨.slice s0 qd.length t0,qd,.slice s1 qb.length t1,qb,.slice s2 qt.length t2,qt,.slice s3 qu.length t3,qu,.slice s4 qn.length t4,qn⟩:RepQ),rfl,HQ.out,oz,nq,gw,ad,ae⟩
theorem z6d(x:ItemD):∀ (l:List ItemD) (d:Bool),(setR x d l).length≤l.length+1
 |[],d=>by unfold setR;cases d<;>simp
 |y::r,d=>by
  rw[z5v];have ih:=z6d x r
  cases d
  ·by_cases h:x.key≤y.key
   ·have e:setR x true r=delI r x.key:=z1U x r;have hd:=z1G r x.key;simp only[Bool.not_false,Bool.true_and,Bool.false_or,h,decide_true,if_true,List.length_append,List.length_cons,List.length_nil,e];split<;>simp<;>omega
   ·have ih:=ih false;simp only[Bool.not_false,Bool.true_and,Bool.false_or,h,decide_false,if_false,Bool.false_eq_true,List.length_append,List.length_cons,List.length_nil];split<;>simp<;>omega
  ·have e:setR x true r=delI r x.key:=z1U x r;have hd:=z1G r x.key;simp only[Bool.not_true,Bool.false_and,Bool.true_or,if_false,Bool.false_eq_true,List.length_append,List.length_cons,List.length_nil,e];split<;>simp<;>omega
theorem z0M{w wr w':World}{b:Nat}(hg:w.grownBy wr (some b))(hb:Below w.heap.size wr w'):w.grownBy w' (some b):=
 ⟨hb.os.trans hg.os,hb.tape.trans hg.tape,hb.output.trans hg.output,by have:=hg.size;have:=hb.size;omega,fun k hk hne=>(hb.block k hk).trans (hg.block k hk hne)⟩
theorem z6J(B b T:Nat)(w:World)(hS:Src B w b T)(hT:T≤1000000):
  Calls Tryz.prog 176 #[.pointer (some ⟨b,0,none⟩)] w fun e w'=>∃ (a:Option Addr) (k:Nat) (xs:List ItemD),e=.returned (.slice a xs.length k)∧xs.length≤4∧
   w'.ownsRow w.heap.size 135 2 (.slice a xs.length k) xs.length (z0d xs)∧Src B w' b (T+9)∧w.grownBy w' (some b):=by
 have V:=hS.lt;have N:(w.alloc (.cells #[] 135)).ownsRow w.heap.size 135 2 (.slice (some ⟨w.heap.size,0,none⟩) 0 0) 0 []:=World.ownsRow_lit w #[] 0 (Nat.le_refl _) (by decide) rfl;have D:Src B (w.alloc (.cells #[] 135)) b T:=hS.below (by go_grown);have I:w.grownBy (w.alloc (.cells #[] 135)) (some b):=World.grownBy_alloc w _ _;go_enter Tryz.func176,Tryz.ntmps176
 go_wp2_with fail
 refine(z0t B b T 5 _ D (by omega) (by omega)).mono ?_;rintro e w1 ⟨r,rfl,hr,h,d⟩;obtain⟨j0,rfl⟩:=Int.eq_ofNat_of_zero_le hr.1;have aa:j0≤4:=by have:=hr.2.1 (by omega);omega
 have O:=N.kept d (Or.inr (by simp[Value.ownBlock];omega));have J:=I.trans d;clear hr d I D N
 go_wp2
 go_loopw[3,4] (fun v c wr=>∃ (j q:Nat) (xs:List ItemD),c=.int .i64 j∧j+q≤4∧xs.length≤q∧wr.ownsRow w.heap.size 135 2 v xs.length (z0d xs)∧Src B wr b (T+1+2*q)∧w.grownBy wr (some b)) (fun _ c _=>(intOf c).toNat)
 case atStart=>exact⟨j0,0,[],rfl,by omega,by simp,O,h,J⟩
 case round=>
  clear O h J;obtain⟨j,q,xs,rfl,ab,ag,ho,z,hg⟩:=hrel;have af:=hg.size;obtain⟨a1,c1,rfl⟩:=z0b ho;by_cases Y:0<j
  ·have M:some b≠Value.ownBlock _:=z0N ho (Or.inl V.2)
   go_wp2_with fail
   refine(z0t B b (T+1+2*q) 5 wr z (by omega) (by omega)).mono ?_;rintro e w1 ⟨r,rfl,hr,h,d⟩;have ad:=hr.1;have ae:=hr.2.1 (by omega);replace ho:=ho.kept d (Or.inr (fun e=>M e.symm));replace hg:=hg.trans d;have Z:=hg.size;have X:=h.lt;clear hr d z;replace ho:=ho.alloc (.cells #[.int .i64 0,.int .i64 1,.int .i64 5,.int .i64 19999,.int .i64 (-3)] 2);replace hg:=hg.trans (World.grownBy_alloc w1 (.cells #[.int .i64 0,.int .i64 1,.int .i64 5,.int .i64 19999,.int .i64 (-3)] 2) (some b))
   go_wp2_with fail
   refine(z0U B b (T+1+2*q+1) w1.heap.size _ [0,1,5,19999,-3] _ (h.below (by go_grown)) (by omega) (World.ownsRow_lit w1 _ 5 (Nat.le_refl _) (by decide) rfl) (by simp) (by simp) (by simp[Value.ownBlock];omega)).mono ?_;rintro e w2 ⟨r2,rfl,L,E,C⟩;replace ho:=ho.kept C (Or.inr (fun e=>M e.symm));replace hg:=hg.trans C;have y:=hg.size;clear L C
   go_wp2_with fail
   refine(z5w a1 c1 xs _ _ w2 (Lies.own ho) (by omega)).mono ?_;rintro e w3 ⟨a3,c3,rfl,x,A⟩;have W:=z6d ⟨1+r,r2⟩ xs false;replace hg:=z0M hg (A.mono y);have U:=E.below A;replace x:=z0m x y;generalize setR _ false xs=ys at x W;clear ho A E h
   go_wp2
   go_roundw
   case rel=>exact⟨j-1,q+1,ys,by go_num,by omega,by omega,x,U.mono (by omega),hg⟩
   case measure=>simp[intOf];omega
  ·go_wp2
   go_ret;exact⟨a1,c1,xs,rfl,by omega,ho,z.mono (by omega),hg⟩
theorem z9m:(madeCells #[Value.int .i64 0,.int .i64 0] (9*2)).toList=z0d (List.replicate 9 z0c):=by
 first|kernel_rfl|(simp[madeCells,z0d,ItemD.cells,z0c,List.replicate,List.range,List.range.loop])
theorem z4z(B b T:Nat)(w:World)(hS:Src B w b T)(hT:T≤1000000):
  Calls Tryz.prog 126 #[.pointer (some ⟨b,0,none⟩)] w fun e w'=>∃ (a:Option Addr) (k:Nat) (xs:List ItemD),e=.returned (.slice a xs.length k)∧xs.length≤9∧
   w'.ownsRow w.heap.size 135 2 (.slice a xs.length k) xs.length (z0d xs)∧Src B w' b (T+12)∧w.grownBy w' (some b):=by
 obtain⟨i0,hi,X,Y,Z⟩:=info_parts z1n;have ad:=hS.lt;go_enter Tryz.func126,Tryz.ntmps126
 go_wp2_with fail
 refine(z6J B b T w hS hT).mono ?_;rintro e w1 ⟨a,k,xs,rfl,ao,ho,aa,hg⟩;have y:some b≠Value.ownBlock _:=z0N ho (Or.inl ad.2)
 go_wp2_with fail
 refine(z0t B b (T+9) 12 w1 aa (by omega) (by omega)).mono ?_;rintro e w2 ⟨r,rfl,hr,x,O⟩;replace ho:=ho.kept O (Or.inr (fun e=>y e.symm));replace hg:=hg.trans O;have E:=hg.size;have J:=x.lt;clear hr O aa;by_cases D:r=0
 ·subst D;replace ho:=ho.alloc (.cells #[.int .i64 1,.int .i64 20,.int .i64 21] 2);replace hg:=hg.trans (World.grownBy_alloc w2 (.cells #[.int .i64 1,.int .i64 20,.int .i64 21] 2) (some b))
  go_wp2_with fail
  refine(z0U B b (T+9+1) w2.heap.size _ [1,20,21] _ (x.below (by go_grown)) (by omega) (World.ownsRow_lit w2 _ 3 (Nat.le_refl _) (by decide) rfl) (by simp) (by simp) (by simp[Value.ownBlock];omega)).mono ?_;rintro e w3 ⟨r3,rfl,A,z,U⟩;replace ho:=ho.kept U (Or.inr (fun e=>y e.symm));replace hg:=hg.trans U;have ae:=z.lt;clear A U x J;replace ho:=ho.alloc (.cells #[.int .i64 5,.int .i64 20001] 2);replace hg:=hg.trans (World.grownBy_alloc w3 (.cells #[.int .i64 5,.int .i64 20001] 2) (some b))
  go_wp2_with fail
  refine(z0U B b (T+9+1+1) w3.heap.size _ [5,20001] _ (z.below (by go_grown)) (by omega) (World.ownsRow_lit w3 _ 2 (Nat.le_refl _) (by decide) rfl) (by simp) (by simp) (by simp[Value.ownBlock];omega)).mono ?_;rintro e w4 ⟨r4,rfl,A,ah,V⟩;replace ho:=ho.kept V (Or.inr (fun e=>y e.symm));replace hg:=hg.trans V;have ag:=hg.size;clear A V z ae;have C:=ho.alloc (.cells #[.int .i64 r3,.int .i64 r4] 135)
  go_wp2_with (at_builtin;refine wpList_append_own _ rfl _ _ 54 rfl w.heap.size 135 i0 (.agg #[.int .i64 0,.int .i64 0]) 2 16 Tryz.underlying54 hi X Y Z rfl (by decide) _ xs.length (z0d xs) rfl C ⟨w4.heap.size,0,none⟩ 1 1 [.int .i64 r3,.int .i64 r4] rfl rfl ?c1 ?c2 ?c3 ?c4 ?c5 ?_)
  all_goals try(case c1=>intro j u hj;match j,hj with|0,hj=>simp at hj;subst hj;simp[Addr.add]|1,hj=>simp at hj;subst hj;simp[Addr.add])
  all_goals try(case c2=>first|rfl|(intro u hu;simp at hu;rcases hu with rfl|rfl<;>rfl))
  all_goals try(case c3=>unfold maxLen;omega)
  all_goals try(case c4=>omega)
  all_goals try(case c5=>first|omega|(simp;omega))
  intro v' w5 h d _;obtain⟨a2,c2,rfl⟩:=z0b h;have hW:Below w.heap.size w4 w5:=((Below.refl w.heap.size w4).alloc ag (.cells #[.int .i64 r3,.int .i64 r4] 135)).grown d (by simp;omega) (fun j hj=>(ho.lt j hj).1);have M:Src B w5 b (T+12):=((ah.below (w':=w4.alloc (.cells #[.int .i64 r3,.int .i64 r4] 135)) (by go_grown)).grown d y (fun k hk=>by have:=(ho.lt k hk).1;omega)).mono (by omega);have R:Hid (w5.ownsRow w.heap.size 135 2 (.slice a2 (xs.length+1) c2) (xs.length+1) (z0d (xs++[⟨r3,r4⟩]))∧w.grownBy w5 (some b)):=⟨by rw[z0w];simpa using h,z0M hg hW⟩
  clear d C ho h hW
  go_wp2
  go_ret;exact⟨a2,c2,xs++[⟨r3,r4⟩],by simp,by simp;omega,by simpa using R.out.1,M,R.out.2⟩
 ·have L:(r==0)=false:=by simpa using D
  by_cases I:r=1
  ·subst I;have ai:i0.bytes*9≤281474976710656:=by rw[Z];omega
   have aj:9≤maxLen:=by unfold maxLen;omega
   clear D L
   go_wp2_with (at_make;refine wpList_make_full _ rfl _ _ 54 rfl w2.heap.size 135 i0 (.agg #[.int .i64 0,.int .i64 0]) 2 Tryz.underlying54 hi X Y _ _ _ _ 9 rfl rfl rfl rfl ai aj (Nat.le_refl _) ?_)
   intro w3 h d;have N:Below w2.heap.size w2 w3:=(Below.refl _ _).grown d (Nat.le_refl _) (by simp);have R:Hid (w3.ownsRow w.heap.size 135 2 (.slice (some ⟨w2.heap.size,0,none⟩) 9 9) 9 (z0d (List.replicate 9 z0c))∧w.grownBy w3 (some b)):=⟨by rw[←z9m];exact z0m h E,z0M hg (N.mono E)⟩
   have z:=x.below N;clear h d N
   go_wp2
   go_ret;exact⟨_,_,List.replicate 9 z0c,rfl,by simp,R.out.1,z.mono (by omega),R.out.2⟩
  ·have af:(r==1)=false:=by simpa using I
   by_cases W:r=2
   ·subst W;clear ho D I L af
    go_wp2
    go_loopw[3,4] (fun v c wr=>∃ (j:Nat) (ys:List ItemD),c=.int .i64 j∧11≤j∧j≤19∧ys.length+11≤j∧wr.ownsRow w.heap.size 135 2 v ys.length (z0d ys)∧Src B wr b (T+9+1)∧w.grownBy wr (some b)) (fun _ c _=>19-(intOf c).toNat)
    case atStart=>exact⟨11,[],rfl,by omega,by omega,by simp,World.ownsRow_nil _ _ _ _,x,hg⟩
    case round=>
     clear x hg E J y;obtain⟨j,ys,rfl,am,an,ap,ho,ab,hg⟩:=hrel;have E:=hg.size;obtain⟨a1,c1,rfl⟩:=z0b ho;by_cases ak:j<19
     ·have y:some b≠Value.ownBlock _:=z0N ho (Or.inl ad.2);have C:=ho.alloc (.cells #[.int .i64 j,.int .i64 0] 135)
      go_wp2_with (at_builtin;refine wpList_append_own _ rfl _ _ 54 rfl w.heap.size 135 i0 (.agg #[.int .i64 0,.int .i64 0]) 2 16 Tryz.underlying54 hi X Y Z rfl (by decide) _ ys.length (z0d ys) rfl C ⟨wr.heap.size,0,none⟩ 1 1 [.int .i64 j,.int .i64 0] rfl rfl ?c1 ?c2 ?c3 ?c4 ?c5 ?_)
      all_goals try(case c1=>intro j u hj;match j,hj with|0,hj=>simp at hj;subst hj;simp[Addr.add]|1,hj=>simp at hj;subst hj;simp[Addr.add])
      all_goals try(case c2=>first|rfl|(intro u hu;simp at hu;rcases hu with rfl|rfl<;>rfl))
      all_goals try(case c3=>unfold maxLen;omega)
      all_goals try(case c4=>omega)
      all_goals try(case c5=>first|omega|(simp;omega))
      intro v' w5 h d _;obtain⟨a2,c2,rfl⟩:=z0b h;have hW:Below w.heap.size wr w5:=((Below.refl w.heap.size wr).alloc E (.cells #[.int .i64 j,.int .i64 0] 135)).grown d (by simp;omega) (fun j hj=>(ho.lt j hj).1);have M:Src B w5 b (T+9+1):=((ab.below (w':=wr.alloc (.cells #[.int .i64 j,.int .i64 0] 135)) (by go_grown)).grown d y (fun k hk=>by have:=(ho.lt k hk).1;omega))
      have R:Hid (w5.ownsRow w.heap.size 135 2 (.slice a2 (ys.length+1) c2) (ys.length+1) (z0d (ys++[⟨j,0⟩]))∧w.grownBy w5 (some b)):=⟨by rw[z0w];simpa using h,z0M hg hW⟩
      clear d C ho h hW
      go_wp2
      go_roundw
      case rel=>exact⟨j+1,ys++[⟨j,0⟩],by go_num,by omega,by omega,by simp;omega,by simpa using R.out.1,M,R.out.2⟩
      case measure=>simp[intOf];omega
     ·go_wp2
      go_ret;exact⟨a1,c1,ys,rfl,by omega,ho,ab.mono (by omega),hg⟩
   ·have al:(r==2)=false:=by simpa using W
    clear D I W
    go_wp2
    go_ret;exact⟨a,k,xs,rfl,by omega,ho,x.mono (by omega),hg⟩
end
end Go.Proofs.YtciofogeiohleaaGreatDoor
