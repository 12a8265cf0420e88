/- Texts joined,with what the laws reach alone. -/
import Derived.Test.YtgdedpgldhbfhaaGreatDoorQAAX
import Derived.Test.YtgdedpgldhbfhaaGreatDoorQAAQ
import Derived.Test.YtgdedpgldhbfhaaGreatDoorQAAS
set_option linter.unusedVariables false
set_option linter.unusedSimpArgs false
set_option maxRecDepth 100000
set_option maxHeartbeats 16000000
namespace Go.Proofs.YtgdedpgldhbfhaaGreatDoor
open Go.RowKit Go.BigFrame
theorem q1f{t:TxnD}(h:t.F=0):0<t.acts.length:=(z0Y (show txnF t.id t.session t.seq t.acts=0 from h)).1.1
theorem q4A{ds:List TxnQ}{l:List TxnD}(e:ds.map TxnQ.e=l)(h:∀t∈l,t.F=0):∀p∈ds,0<p.acts.length:=fun p hp=>by
 have:=q1f (h (TxnQ.e p) (by rw[←e];exact List.mem_map_of_mem hp));exact this
theorem z6q(p:CluQ)(nd:Int)(w:World)(hG:Rul w)(hT:ErrT w)(h:cluK.own w p)(hl:p.n≤1048576):
  Calls Tryz.prog 16 #[.agg #[p.vo,p.vm],.int .i64 nd] w fun e w'=>∃q:TsQ,e=.returned (.agg #[.int .i64 (daC p.e nd),q.v])∧q.e=(daR p.e nd).done∧tsK.own w' q∧(tsK.foot q).Nodup∧(∀k∈tsK.foot q,w.heap.size≤k)∧Below w.heap.size w w'∧q.n≤1048576:=by
 have hr:=fun w hG hT h=>z3W p nd w hG hT h hl
 have J:=fun(w':World) (hb:Below w.heap.size w w')=>cluK.own_out (F:=[]) (w':=w') h (Out.of_below hb) (fun _ _=>by simp)
 have HP:Hid (daC p.e nd=0→∀t∈(daR p.e nd).done,t.F=0):=fun h0=>z9E h0
 have HN:Hid (daC p.e nd≠0→daR p.e nd=⟨[],[],[],[],[]⟩):=fun h0=>q2Z h0
 obtain⟨vo,A,vm,z⟩:=p;obtain⟨a0,k0,rfl⟩:∃a c,vo=.slice a A.length c:=h.1.shape;obtain⟨a1,k1,rfl⟩:∃a c,vm=.slice a z.length c:=h.2.shape;dsimp only at hr J HP HN;generalize daC _ nd=D at*;generalize daR _ nd=DR at*;clear h hl;have b0:Below w.heap.size w ((w.alloc (.cells #[.slice a0 A.length k0,.slice a1 z.length k1] 33)).alloc (.cells #[.int .i64 0,.slice none 0 0] 41)):=by go_grown
 have A0:=(Blk.new w 33 #[.slice a0 A.length k0,.slice a1 z.length k1]).below (w':=(w.alloc (.cells #[.slice a0 A.length k0,.slice a1 z.length k1] 33)).alloc (.cells #[.int .i64 0,.slice none 0 0] 41)) (by go_grown);have Rb:=Blk.new (w.alloc (.cells #[.slice a0 A.length k0,.slice a1 z.length k1] 33)) 41 #[.int .i64 0,.slice none 0 0];simp only[World.size_alloc]at Rb;have V:w.heap.size+2≤((w.alloc (.cells #[.slice a0 A.length k0,.slice a1 z.length k1] 33)).alloc (.cells #[.int .i64 0,.slice none 0 0] 41)).heap.size:=by simp only[World.size_alloc];omega
 obtain⟨c0,c1⟩:=A0.cel2;go_enter Tryz.func16,Tryz.ntmps16
 go_wp2_with fail
 clear c0 c1;generalize (w.alloc (.cells #[.slice a0 A.length k0,.slice a1 z.length k1] 33)).alloc (.cells #[.int .i64 0,.slice none 0 0] 41)=W at*;refine(hr W (hG.below b0) (hT.below b0) (J W b0)).mono ?_;rintro e w1 ⟨r,rfl,er,oR,nR,hb⟩;replace Rb:=Rb.below hb;have T:=hb.size;replace b0:=b0.trans (hb.mono b0.size);clear hb hr J A0;have E:Hid (r.done.map TxnQ.e=DR.done):=by rw[←er];exact(rfl:_=_)
 have L:r.done.length+nmL TxnQ.n r.done≤1048576:=by dsimp only[RepQ.n]at nR;omega
 clear er nR;obtain⟨vd,done,vb,base,vt,y,vu,d,vn,I⟩:=r;obtain⟨x0,y0,rfl⟩:∃a c,vd=.slice a done.length c:=oR.1.shape;obtain⟨x1,y1,rfl⟩:∃a c,vb=.slice a base.length c:=oR.2.1.shape;obtain⟨x2,y2,rfl⟩:∃a c,vt=.slice a y.length c:=oR.2.2.1.shape;obtain⟨x3,y3,rfl⟩:∃a c,vu=.slice a d.length c:=oR.2.2.2.1.shape;obtain⟨x4,y4,rfl⟩:∃a c,vn=.slice a I.length c:=oR.2.2.2.2.shape;dsimp only at E L;have X0:=Blk.new w1 62 #[.slice x0 done.length y0,.slice x1 base.length y1,.slice x2 y.length y2,.slice x3 d.length y3,.slice x4 I.length y4];have hX:Below w1.heap.size w1 (w1.alloc (.cells #[.slice x0 done.length y0,.slice x1 base.length y1,.slice x2 y.length y2,.slice x3 d.length y3,.slice x4 I.length y4] 62)):=by go_grown
 replace Rb:=Rb.below hX;have X:=hX.size;have dO:=oR.1.at.below hX;replace b0:=b0.trans (hX.mono b0.size);have e0:=X0.cell 0 _ rfl;clear hX oR;by_cases hD:D=0
 case neg=>
  have N:(D !=0)=true:=by simpa using hD
  have C:Hid (D=D∧DR=⟨[],[],[],[],[]⟩):=⟨rfl,HN.out hD⟩
  clear HP HN E hD e0;have Rr:=Rb.row #[.int .i64 D,.slice none 0 0];have U:=z0y (w1.alloc (.cells #[.slice x0 done.length y0,.slice x1 base.length y1,.slice x2 y.length y2,.slice x3 d.length y3,.slice x4 I.length y4] 62)) (w.heap.size+1) #[.int .i64 D,.slice none 0 0];have b3:=Out.keep b0 U b0.size (fun k hk=>by simp only[List.mem_singleton]at hk;omega);have M:(Tryz.prog.info? 41).map (·.size)=some (#[.int .i64 D,.slice none 0 0]:Array Value).size:=by kernel_rfl
  go_wp2_with (refine z0C (by kernel_rfl) 41 _ _ rfl _ #[.int .i64 D,.slice none 0 0] rfl rfl 41 _ Rb M rfl (by simp[Value.oneCell']) ?_)
  obtain⟨r0,r1⟩:=Rr.cel2;exact bodyPost_ret (v:=.agg #[.int .i64 D,.slice none 0 0]) (by simp[results,Tryz.results16,go_sem,r0,r1]) rfl ⟨⟨.slice none 0 0,[]⟩,by first|rfl|(rw[C.out.1];done)|(rw[C.out.1];rfl),by rw[C.out.2];rfl,(Kind.own_nil (K:=txnK) _).1,by show(txnK.fp _ _).Nodup;rw[(Kind.own_nil (K:=txnK) w).2];exact List.nodup_nil,by show∀k∈txnK.fp _ _,_;rw[(Kind.own_nil (K:=txnK) w).2];simp,b3,by show([]:List TxnQ).length+nmL TxnQ.n []≤1048576;decide⟩
 have HF:Hid _:=HP.out hD;have N:(D !=0)=false:=by simp[hD]
 subst hD;clear HP HN
 go_wp2_with fail
 clear e0;generalize w1.alloc (.cells #[.slice x0 done.length y0,.slice x1 base.length y1,.slice x2 y.length y2,.slice x3 d.length y3,.slice x4 I.length y4] 62)=W1 at*;refine(z3H (.slice x0 done.length y0) done W1 dO (q4A E.out HF.out) L).mono ?_;rintro e w2 ⟨v',qs,rfl,eq,on,nn,gn,hb⟩;obtain⟨za,zc,rfl⟩:=on.shape;replace Rb:=Rb.below hb;replace b0:=b0.trans (hb.mono b0.size);have C:Hid ((0:Int)=0∧qs.map TxnQ.e=DR.done):=⟨rfl,eq.trans E.out⟩
 clear hb E HF dO X0;have Rr:=Rb.row #[.int .i64 0,.slice za qs.length zc];have U:=z0y w2 (w.heap.size+1) #[.int .i64 0,.slice za qs.length zc];have b3:=Out.keep b0 U b0.size (fun k hk=>by simp only[List.mem_singleton]at hk;omega);have M:(Tryz.prog.info? 41).map (·.size)=some (#[.int .i64 0,.slice za qs.length zc]:Array Value).size:=by kernel_rfl
 go_wp2_with (refine z0C (by kernel_rfl) 41 _ _ rfl _ #[.int .i64 0,.slice za qs.length zc] rfl rfl 41 _ Rb M rfl (by simp[Value.oneCell']) ?_)
 obtain⟨r0,r1⟩:=Rr.cel2;have oz:=on.out U (fun x hx O=>by have:=gn x hx;simp only[List.mem_singleton]at O;omega);exact bodyPost_ret (v:=.agg #[.int .i64 0,.slice za qs.length zc]) (by simp[results,Tryz.results16,go_sem,r0,r1]) rfl ⟨⟨.slice za qs.length zc,qs⟩,rfl,C.out.2,oz,nn,fun k hk=>by have:=gn k hk;omega,b3,by show qs.length+nmL TxnQ.n qs≤1048576;rw[q4z eq];exact L⟩
theorem z6r(p:CluQ)(nd:Int)(w:World)(h:cluK.own w p)(hl:p.n≤1048576):
  Calls Tryz.prog 15 #[.agg #[p.vo,p.vm],.int .i64 nd] w fun e w'=>∃q:TsQ,e=.returned (.agg #[.int .i64 (daC p.e nd),q.v])∧q.e=(daR p.e nd).done∧tsK.own w' q∧(tsK.foot q).Nodup∧(∀k∈tsK.foot q,w.heap.size≤k)∧Below w.heap.size w w'∧q.n≤1048576:=by
 have hf:=fun b w hB h=>z1W b p w hB h hl
 have J:=fun(w':World) (hb:Below w.heap.size w w')=>cluK.own_out (F:=[]) (w':=w') h (Out.of_below hb) (fun _ _=>by simp)
 have HM:Hid (cluF p.e=0→p.mem.length=3):=fun h0=>by have:=(z0R h0).2.1;simpa[CluQ.e]using this
 have H1:Hid (cluF p.e≠0→daC p.e nd=cluF p.e∧daR p.e nd=⟨[],[],[],[],[]⟩):=fun h1=>by
  have e:daC p.e nd=cluF p.e:=if_neg h1;exact⟨e,if_neg (by rw[e];exact h1)⟩
 have H2:Hid (cluF p.e=0→¬(0≤nd∧nd≤2)→daC p.e nd=3∧daR p.e nd=⟨[],[],[],[],[]⟩):=fun h1 h2=>by
  have e:daC p.e nd=3:=by
   unfold daC;rw[if_pos h1,if_neg h2]
  exact⟨e,if_neg (by rw[e];decide)⟩
 have H3:Hid (cluF p.e=0→(0≤nd∧nd≤2)→daC p.e nd=0∧daR p.e nd=((p.mem.map NodeQ.e).getD nd.toNat q36).rep∧∀t∈(daR p.e nd).done,t.F=0):=fun h1 h2=>by
  have e:daC p.e nd=0:=by
   unfold daC;rw[if_pos h1,if_pos h2]
  exact⟨e,if_pos e,z9E e⟩
 obtain⟨vo,z,vm,d⟩:=p;obtain⟨a0,k0,rfl⟩:∃a c,vo=.slice a z.length c:=h.1.shape;obtain⟨a1,k1,rfl⟩:∃a c,vm=.slice a d.length c:=h.2.shape;have Y:d.length+nmL NodeQ.n d≤1048576:=by dsimp only[CluQ.n]at hl;omega
 clear hl;obtain⟨ho,hm⟩:instK.Own w (.slice a0 z.length k0) z∧nodeK.Own w (.slice a1 d.length k1) d:=h;dsimp only at hf J HM H1 H2 H3;generalize daC _ nd=DC at*;generalize daR _ nd=DR at*;generalize cluF _=D at*;have b0:Below w.heap.size w ((w.alloc (.cells #[.slice a0 z.length k0,.slice a1 d.length k1] 33)).alloc (.cells #[.int .i64 0,.slice none 0 0] 41)):=by go_grown
 have A0:=(Blk.new w 33 #[.slice a0 z.length k0,.slice a1 d.length k1]).below (w':=(w.alloc (.cells #[.slice a0 z.length k0,.slice a1 d.length k1] 33)).alloc (.cells #[.int .i64 0,.slice none 0 0] 41)) (by go_grown);have Rb:=Blk.new (w.alloc (.cells #[.slice a0 z.length k0,.slice a1 d.length k1] 33)) 41 #[.int .i64 0,.slice none 0 0];simp only[World.size_alloc]at Rb;have ae:w.heap.size+2≤((w.alloc (.cells #[.slice a0 z.length k0,.slice a1 d.length k1] 33)).alloc (.cells #[.int .i64 0,.slice none 0 0] 41)).heap.size:=by simp only[World.size_alloc];omega
 go_enter Tryz.func15,Tryz.ntmps15
 go_wp2_with fail
 generalize (w.alloc (.cells #[.slice a0 z.length k0,.slice a1 d.length k1] 33)).alloc (.cells #[.int .i64 0,.slice none 0 0] 41)=W at*;refine(hf _ W A0 (J W b0)).mono ?_;rintro e w1 ⟨rfl,hb⟩;replace A0:=A0.below hb;replace Rb:=Rb.below hb;have ad:=hb.size;replace b0:=b0.trans (hb.mono b0.size);clear hb hf J;by_cases hD:D=0
 case neg=>
  have ab:(D !=0)=true:=by simpa using hD
  have y:Hid (DC=D∧DR=⟨[],[],[],[],[]⟩):=H1.out hD;clear H1 H2 H3 HM hD;have Rr:=Rb.row #[.int .i64 D,.slice none 0 0];have U:=z0y w1 (w.heap.size+1) #[.int .i64 D,.slice none 0 0];have b3:=Out.keep b0 U b0.size (fun k hk=>by simp only[List.mem_singleton]at hk;omega);have C:(Tryz.prog.info? 41).map (·.size)=some (#[.int .i64 D,.slice none 0 0]:Array Value).size:=by kernel_rfl
  go_wp2_with (refine z0C (by kernel_rfl) 41 _ _ rfl _ #[.int .i64 D,.slice none 0 0] rfl rfl 41 _ Rb C rfl (by simp[Value.oneCell']) ?_)
  obtain⟨r0,r1⟩:=Rr.cel2;exact bodyPost_ret (v:=.agg #[.int .i64 D,.slice none 0 0]) (by simp[results,Tryz.results15,go_sem,r0,r1]) rfl ⟨⟨.slice none 0 0,[]⟩,by first|rfl|(rw[y.out.1];done)|(rw[y.out.1];rfl),by rw[y.out.2];rfl,(Kind.own_nil (K:=txnK) _).1,by show(txnK.fp _ _).Nodup;rw[(Kind.own_nil (K:=txnK) w).2];exact List.nodup_nil,by show∀k∈txnK.fp _ _,_;rw[(Kind.own_nil (K:=txnK) w).2];simp,b3,by show([]:List TxnQ).length+nmL TxnQ.n []≤1048576;decide⟩
 have I:Hid _:=HM.out hD;have HB:Hid _:=H2.out hD;have HC:Hid _:=H3.out hD;subst hD;clear H1 H2 H3 HM ho
 go_wp2_with fail
 refine(z6M nd w1).mono ?_;rintro e w2 ⟨rfl,hw⟩;replace hw:=hw.symm;subst hw;unfold inB;by_cases hi:0≤nd∧nd≤2
 case neg=>
  rw[decide_eq_false hi];have y:Hid (DC=3∧DR=⟨[],[],[],[],[]⟩):=HB.out hi;clear HB HC I;have Rr:=Rb.row #[.int .i64 3,.slice none 0 0];have U:=z0y w1 (w.heap.size+1) #[.int .i64 3,.slice none 0 0];have b3:=Out.keep b0 U b0.size (fun k hk=>by simp only[List.mem_singleton]at hk;omega);have C:(Tryz.prog.info? 41).map (·.size)=some (#[.int .i64 3,.slice none 0 0]:Array Value).size:=by kernel_rfl
  go_wp2_with (refine z0C (by kernel_rfl) 41 _ _ rfl _ #[.int .i64 3,.slice none 0 0] rfl rfl 41 _ Rb C rfl (by simp[Value.oneCell']) ?_)
  obtain⟨r0,r1⟩:=Rr.cel2;exact bodyPost_ret (v:=.agg #[.int .i64 3,.slice none 0 0]) (by simp[results,Tryz.results15,go_sem,r0,r1]) rfl ⟨⟨.slice none 0 0,[]⟩,by first|rfl|(rw[y.out.1];done)|(rw[y.out.1];rfl),by rw[y.out.2];rfl,(Kind.own_nil (K:=txnK) _).1,by show(txnK.fp _ _).Nodup;rw[(Kind.own_nil (K:=txnK) w).2];exact List.nodup_nil,by show∀k∈txnK.fp _ _,_;rw[(Kind.own_nil (K:=txnK) w).2];simp,b3,by show([]:List TxnQ).length+nmL TxnQ.n []≤1048576;decide⟩
 case pos=>
  rw[decide_eq_true hi];have hE:=HC.out hi;obtain⟨hg,hh⟩:=hi;obtain⟨k,rfl⟩:∃k:Nat,nd=(k:Int):=⟨nd.toNat,by omega⟩
  have X:k<3:=by omega
  have A:k<d.length:=by rw[I.out];exact X
  rw[Int.toNat_natCast]at hE;have O:(d.map NodeQ.e).getD k q36=NodeQ.e d[k]:=by simp[List.getD,A]
  rw[O]at hE;obtain⟨L,M,N⟩:=hE;obtain⟨g,ag,rfl,_,_,_⟩:=hm.at.cell (by decide) k A;have T:=z01 (hm.at.below b0) k A;have oq:repK.own w d[k].r:=z2m hm k A;have aa:(k:Int)<(d.length:Int):=by omega
  have af:wrap64 (k:Int)=(k:Int):=by unfold wrap64;omega
  have c1:=A0.cell 1 _ rfl;have V:=z8E Y k A;have E:Hid (d[k].done.map TxnQ.e=DR.done):=by rw[M];exact(rfl:_=_)
  have HF:Hid (∀t∈DR.done,t.F=0):=N;have q2:=T 2 d[k].vd rfl;have dO:txnK.At w1 d[k].vd d[k].done:=oq.1.at.below b0;clear T HB HC I M N O hg hh oq;generalize d[k].vd=vd at*;generalize d[k].done=done at*;obtain⟨x0,y0,rfl⟩:∃a c,vd=.slice a done.length c:=dO.shape
  go_wp2_with fail
  clear c1 q2;refine(z2g (.slice x0 done.length y0) done w1 dO (q4A E.out HF.out) V).mono ?_;rintro e w3 ⟨v',qs,rfl,eq,on,nn,gn,hb⟩;obtain⟨za,zc,rfl⟩:=on.shape;replace Rb:=Rb.below hb;replace b0:=b0.trans (hb.mono b0.size);have y:Hid (DC=0∧qs.map TxnQ.e=DR.done):=⟨L,eq.trans E.out⟩
  clear hb E HF dO L;have Rr:=Rb.row #[.int .i64 0,.slice za qs.length zc];have U:=z0y w3 (w.heap.size+1) #[.int .i64 0,.slice za qs.length zc];have b3:=Out.keep b0 U b0.size (fun k hk=>by simp only[List.mem_singleton]at hk;omega);have C:(Tryz.prog.info? 41).map (·.size)=some (#[.int .i64 0,.slice za qs.length zc]:Array Value).size:=by kernel_rfl
  go_wp2_with (refine z0C (by kernel_rfl) 41 _ _ rfl _ #[.int .i64 0,.slice za qs.length zc] rfl rfl 41 _ Rb C rfl (by simp[Value.oneCell']) ?_)
  obtain⟨r0,r1⟩:=Rr.cel2;have oz:=on.out U (fun x hx Z=>by have:=gn x hx;simp only[List.mem_singleton]at Z;omega);exact bodyPost_ret (v:=.agg #[.int .i64 0,.slice za qs.length zc]) (by simp[results,Tryz.results15,go_sem,r0,r1]) rfl ⟨⟨.slice za qs.length zc,qs⟩,by rw[y.out.1],y.out.2,oz,nn,fun k hk=>by have:=gn k hk;omega,b3,by show qs.length+nmL TxnQ.n qs≤1048576;rw[q4z eq];exact V⟩
theorem z8P(p:CluQ)(nd:Int)(x:CluE)(hx:p.e=x)(w:World)(h:cluK.own w p)(hl:p.n≤1048576):
  Calls Tryz.prog 15 #[.agg #[p.vo,p.vm],.int .i64 nd] w fun e w'=>∃q:TsQ,e=.returned (.agg #[.int .i64 (daC x nd),q.v])∧q.e=(daR x nd).done∧tsK.own w' q∧(tsK.foot q).Nodup∧(∀k∈tsK.foot q,w.heap.size≤k)∧Below w.heap.size w w'∧q.n≤1048576:=by
 subst hx;exact z6r p nd w h hl
theorem z8Q(p:CluQ)(nd:Int)(x:CluE)(hx:p.e=x)(w:World)(hG:Rul w)(hT:ErrT w)(h:cluK.own w p)(hl:p.n≤1048576):
  Calls Tryz.prog 16 #[.agg #[p.vo,p.vm],.int .i64 nd] w fun e w'=>∃q:TsQ,e=.returned (.agg #[.int .i64 (daC x nd),q.v])∧q.e=(daR x nd).done∧tsK.own w' q∧(tsK.foot q).Nodup∧(∀k∈tsK.foot q,w.heap.size≤k)∧Below w.heap.size w w'∧q.n≤1048576:=by
 subst hx;exact z6q p nd w hG hT h hl
theorem q6n(p:CluQ)(nd:Int)(w:World)(hG:Rul w)(hT:ErrT w)(hp:cluK.rd w p)(hw:p.wf):
  Calls Tryz.prog 5 #[.agg #[p.vo,p.vm],.int .i64 nd] w fun e w'=>e=.returned (.bool true)∧Below w.heap.size w w':=by
 have au:=fun w h=>z2d p 1048576 w h hw (by omega) (by omega)
 have av:=fun w h hl=>z2f p w h hl
 have aD:=fun a (ha:CluQ.e a=p.e) w h hl=>z8P a nd _ ha w h hl
 have aA:=fun a (ha:CluQ.e a=p.e) w hG hT h hl=>z8Q a nd _ ha w hG hT h hl
 have aC:∀a:CluQ,a.e=p.e→a.n=p.n:=fun q hq=>q30 hq
 have az:=fun(a b:CluQ) (ha:a.e=p.e) (hb:b.e=p.e) w h h' hl=>z2e a b w h h' (ha.trans hb.symm) hl
 have ak:=fun(w':World) hb=>cluK.rd_below (w':=w') hp hb
 generalize (daR p.e nd).done=E at*;generalize daC p.e nd=D at*;generalize aO:p.e=pe at*;generalize aP:p.n=pn at*;obtain⟨vo,af,vm,ae⟩:=p;obtain⟨a0,k0,rfl⟩:∃a c,vo=.slice a af.length c:=hp.1.shape;obtain⟨a1,k1,rfl⟩:∃a c,vm=.slice a ae.length c:=hp.2.shape;dsimp only at au av ak;have b0:Below w.heap.size w (w.alloc (.cells #[.slice a0 af.length k0,.slice a1 ae.length k1] 25)):=by go_grown
 have A0:=Blk.new w 25 #[.slice a0 af.length k0,.slice a1 ae.length k1];have aZ:=A0.lt;obtain⟨p0,p1⟩:=A0.cel2;go_enter Tryz.func5,Tryz.ntmps5
 go_wp2_with fail
 clear p0 p1;generalize w.alloc (.cells #[.slice a0 af.length k0,.slice a1 ae.length k1] 25)=W at*;refine(au W (ak W b0)).mono ?_;rintro e w1 ⟨r,rfl,hr,hb⟩;have bc:=hb.size;replace A0:=A0.below hb;replace b0:=b0.trans (hb.mono b0.size);clear hb;clear au;by_cases aB:r<0
 ·go_wp2
  go_ret;exact⟨rfl,b0⟩
 have hl:((pn:Nat):Int)+r=1048576:=hr (by omega);clear hr;replace hl:pn≤1048576:=by omega
 have U:Hid _:=av;clear av;have am:Hid _:=aD;clear aD;have al:Hid _:=aA;clear aA;have aa:Hid _:=aC;clear aC;have ay:Hid _:=az;clear az;have T:Hid _:=ak;clear ak;clear aO aP;obtain⟨p0,p1⟩:=A0.cel2
 go_wp2_with fail
 clear p0 p1;clear aB;refine(U.out _ (T.out _ b0) hl).mono ?_;rintro e w2 ⟨q1,rfl,e1,o1,_,_,hb⟩;have bd:=hb.size;replace A0:=A0.below hb;replace b0:=b0.trans (hb.mono b0.size);clear hb
 go_wp2_with fail
 refine(am.out q1 e1 _ o1 (by rw[aa.out q1 e1];exact hl)).mono ?_;rintro e w3 ⟨qs,rfl,es,os,ns,gs,hb,a8⟩;have be:=hb.size;have us:∀k∈tsK.foot qs,w2.heap.size≤k∧k<w3.heap.size:=fun k hk=>⟨gs k hk,tsK.own_lt os k hk⟩
 replace A0:=A0.below hb;replace b0:=b0.trans (hb.mono b0.size);clear hb;clear o1 e1 am gs ns;obtain⟨vs,J⟩:=qs;obtain⟨V,X,rfl⟩:∃a c,vs=.slice a J.length c:=(tsK.own_rd os).shape;have S0:=Blk.new w3 41 #[.int .i64 D,.slice V J.length X];have hb:Below w3.heap.size w3 (w3.alloc (.cells #[.int .i64 D,.slice V J.length X] 41)):=by go_grown
 replace A0:=A0.below hb;replace os:=tsK.own_out (F:=[]) os (Out.of_below hb) (fun _ _=>by simp);replace b0:=b0.trans (hb.mono b0.size);clear hb;obtain⟨p0,p1⟩:=A0.cel2
 go_wp2_with fail
 clear p0 p1;generalize w3.alloc (.cells #[.int .i64 D,.slice V J.length X] 41)=W3 at*;have a2:=S0.lt;refine(U.out _ (T.out _ b0) hl).mono ?_;rintro e w4 ⟨q3,rfl,e3,o3,n3,g3,hb⟩;have bf:=hb.size;have u3:∀k∈cluK.foot q3,W3.heap.size≤k∧k<w4.heap.size:=fun k hk=>⟨g3 k hk,cluK.own_lt o3 k hk⟩
 replace A0:=A0.below hb;replace S0:=S0.below hb;replace os:=tsK.own_out (F:=[]) os (Out.of_below hb) (fun _ _=>by simp);replace b0:=b0.trans (hb.mono b0.size);clear hb;clear g3;have aq:CluQ.n q3≤1048576:=by rw[aa.out q3 e3];exact hl
 have ap:=fun w hG hT h=>al.out q3 e3 w hG hT h aq
 have an:=fun q' aQ w h h'=>ay.out q3 q' e3 aQ w h h' aq
 obtain⟨aS,x,aR,d⟩:=q3;obtain⟨L,N,rfl⟩:∃a c,aS=.slice a x.length c:=o3.1.shape;obtain⟨M,O,rfl⟩:∃a c,aR=.slice a d.length c:=o3.2.shape;dsimp only at ap an;have ax:Hid _:=ap;have aw:Hid _:=an;clear ap an;have X0:=Blk.new w4 33 #[.slice L x.length N,.slice M d.length O];have hb:Below w4.heap.size w4 (w4.alloc (.cells #[.slice L x.length N,.slice M d.length O] 33)):=by go_grown
 replace A0:=A0.below hb;replace S0:=S0.below hb;replace os:=tsK.own_out (F:=[]) os (Out.of_below hb) (fun _ _=>by simp);replace o3:=cluK.own_out (F:=[]) o3 (Out.of_below hb) (fun _ _=>by simp);replace b0:=b0.trans (hb.mono b0.size);clear hb;obtain⟨p0,p1⟩:=X0.cel2
 go_wp2_with fail
 clear p0 p1;generalize w4.alloc (.cells #[.slice L x.length N,.slice M d.length O] 33)=W4 at*;have a6:=X0.lt;refine(ax.out W4 (hG.below b0) (hT.below b0) o3).mono ?_;rintro e w5 ⟨qi,rfl,ei,oi,ni,gi,hb,aj⟩;have bg:=hb.size;have ui:∀k∈tsK.foot qi,W4.heap.size≤k∧k<w5.heap.size:=fun k hk=>⟨gi k hk,tsK.own_lt oi k hk⟩
 replace A0:=A0.below hb;replace S0:=S0.below hb;replace X0:=X0.below hb;replace os:=tsK.own_out (F:=[]) os (Out.of_below hb) (fun _ _=>by simp);replace o3:=cluK.own_out (F:=[]) o3 (Out.of_below hb) (fun _ _=>by simp);replace b0:=b0.trans (hb.mono b0.size);clear hb;clear ax gi;obtain⟨vi,y⟩:=qi;obtain⟨C,I,rfl⟩:∃a c,vi=.slice a y.length c:=(tsK.own_rd oi).shape;have Y0:=Blk.new w5 41 #[.int .i64 D,.slice C y.length I];have hb:Below w5.heap.size w5 (w5.alloc (.cells #[.int .i64 D,.slice C y.length I] 41)):=by go_grown
 replace A0:=A0.below hb;replace S0:=S0.below hb;replace X0:=X0.below hb;replace os:=tsK.own_out (F:=[]) os (Out.of_below hb) (fun _ _=>by simp);replace o3:=cluK.own_out (F:=[]) o3 (Out.of_below hb) (fun _ _=>by simp);replace oi:=tsK.own_out (F:=[]) oi (Out.of_below hb) (fun _ _=>by simp);replace b0:=b0.trans (hb.mono b0.size);clear hb;obtain⟨r0,r1⟩:=S0.cel2
 go_wp2_with fail
 clear r0 r1;generalize w5.alloc (.cells #[.int .i64 D,.slice C y.length I] 41)=W5 at*;have a7:=Y0.lt;refine(q26 D (⟨.slice C y.length I,y⟩:TsQ) (⟨.slice V J.length X,J⟩:TsQ) _ (tsK.own_rd oi) (tsK.own_rd os) (ei.trans es.symm) aj).mono ?_;rintro e w6 ⟨rfl,hb⟩;replace A0:=A0.below hb;replace S0:=S0.below hb;replace X0:=X0.below hb;replace Y0:=Y0.below hb;replace os:=tsK.own_out (F:=[]) os (Out.of_below hb) (fun _ _=>by simp);replace o3:=cluK.own_out (F:=[]) o3 (Out.of_below hb) (fun _ _=>by simp);replace oi:=tsK.own_out (F:=[]) oi (Out.of_below hb) (fun _ _=>by simp);replace b0:=b0.trans (hb.mono b0.size);clear hb
 go_wp2_with fail
 have hW:Below w6.heap.size w6 w6.drew:=(Below.refl _ _).drew;have aN:Nonempty (Lat w6):=⟨⟨w6,Below.refl _ _⟩⟩
 obtain⟨aE,aF⟩:=A0.lts2;obtain⟨aG,aH⟩:=X0.lts2;refine z0d (S:=fun w'=>∃u:Lat w6,w'=u.val) (by kernel_rfl) ?_;refine sgr [(0,2)] 3 (by kernel_rfl) ⟨⟨_,hW⟩,rfl⟩ ?_;simp only[pkE];repeat go_big_quiet_step (fail)
 refine wpQuiet_nil ?_;refine cla 2 (some 33) 9 #[.agg #[.slice a0 af.length k0,.slice a1 ae.length k1]] 2 (by kernel_rfl) ?_;refine(U.out _ (T.out _ (b0.trans (hW.mono b0.size))) hl).mono ?_;rintro e w9 ⟨q9,rfl,e9,o9,_,_,ab⟩;replace hW:=hW.trans (ab.mono hW.size);clear ab;refine⟨_,rfl,⟨⟨_,hW⟩,rfl⟩,?_⟩;simp only[Act.put,pjE];refine cla 3 (some 34) 12 #[.agg #[.slice L x.length N,.slice M d.length O],.agg #[q9.vo,q9.vm]] 1 (by kernel_rfl) ?_;refine(aw.out q9 e9 _ (cluK.rd_below (cluK.own_rd o3) hW) (cluK.own_rd o9)).mono ?_;rintro e w7 ⟨rfl,ab⟩;replace hW:=hW.trans (ab.mono hW.size);clear ab;refine⟨_,rfl,⟨⟨_,hW⟩,rfl⟩,?_⟩;simp only[Act.put,pjE];refine sgr [(4,1)] 0 (by kernel_rfl) ⟨⟨_,hW⟩,rfl⟩ ?_;simp only[pkE];repeat go_big_quiet_step (fail)
 refine wpQuiet_nil ?_;refine z0h (by kernel_rfl) ?_;clear aN aE aF aG aH e9 o9 aw;have aX:=hW.size;replace A0:=A0.below hW;replace S0:=S0.below hW;replace X0:=X0.below hW;replace Y0:=Y0.below hW;replace os:=tsK.own_out (F:=[]) os (Out.of_below hW) (fun _ _=>by simp);replace o3:=cluK.own_out (F:=[]) o3 (Out.of_below hW) (fun _ _=>by simp);replace oi:=tsK.own_out (F:=[]) oi (Out.of_below hW) (fun _ _=>by simp);replace b0:=b0.trans (hW.mono b0.size);clear hW;obtain⟨p0,p1⟩:=X0.cel2
 go_wp2_with fail
 clear p0 p1;have aL:=q0e (⟨.slice L x.length N,x,.slice M d.length O,d⟩:CluQ);refine(z3V (⟨.slice L x.length N,x,.slice M d.length O,d⟩:CluQ) 1 w7 o3 n3 aq (by omega) (by omega)).mono ?_;rintro e w8 ⟨rfl,_,hU⟩;have bh:=hU.size;have A:∀k,k∈cluK.foot (⟨.slice L x.length N,x,.slice M d.length O,d⟩:CluQ)→W3.heap.size≤k∧k<w4.heap.size:=u3;replace A0:=A0.outs12 hU (fun hk=>by have:=A _ hk;omega);replace S0:=S0.outs12 hU (fun hk=>by have:=A _ hk;omega);replace X0:=X0.outs12 hU (fun hk=>by have:=A _ hk;omega);replace Y0:=Y0.outs12 hU (fun hk=>by have:=A _ hk;omega);replace os:=tsK.own_out os hU (fun k hk ad=>by have:=A _ ad;have:=us k hk;omega);replace oi:=tsK.own_out oi hU (fun k hk ad=>by have:=A _ ad;have:=ui k hk;omega);replace b0:=Out.keep b0 hU b0.size (fun k hk=>by have:=A _ hk;omega);clear A hU;clear o3;generalize aI:(nmClu (⟨.slice L x.length N,x,.slice M d.length O,d⟩:CluQ):Int)=M3 at*;have aU:0≤M3∧M3≤4194304:=by omega
 have aW:¬(1+M3<0):=by omega
 clear aL aI;obtain⟨p0,p1⟩:=Y0.cel2;obtain⟨r0,r1⟩:=S0.cel2
 go_wp2_with fail
 clear p0 p1;clear r0 r1;refine(q26 D (⟨.slice C y.length I,y⟩:TsQ) (⟨.slice V J.length X,J⟩:TsQ) _ (tsK.own_rd oi) (tsK.own_rd os) (ei.trans es.symm) aj).mono ?_;rintro e w9 ⟨rfl,hb⟩;replace A0:=A0.below hb;replace S0:=S0.below hb;replace X0:=X0.below hb;replace Y0:=Y0.below hb;replace os:=tsK.own_out (F:=[]) os (Out.of_below hb) (fun _ _=>by simp);replace oi:=tsK.own_out (F:=[]) oi (Out.of_below hb) (fun _ _=>by simp);replace b0:=b0.trans (hb.mono b0.size);clear hb;obtain⟨p0,p1⟩:=Y0.cel2
 go_wp2_with fail
 clear p0 p1;have aM:=z9G (⟨.slice C y.length I,y⟩:TsQ);refine(q4b D (⟨.slice C y.length I,y⟩:TsQ) 1 w9 oi ni aj (by omega) (by omega)).mono ?_;rintro e Z ⟨rfl,om,hU⟩;have A:∀k,k∈tsK.foot (⟨.slice C y.length I,y⟩:TsQ)→W4.heap.size≤k∧k<w5.heap.size:=ui;replace A0:=A0.outs12 hU (fun hk=>by have:=A _ hk;omega);replace S0:=S0.outs12 hU (fun hk=>by have:=A _ hk;omega);replace X0:=X0.outs12 hU (fun hk=>by have:=A _ hk;omega);replace Y0:=Y0.outs12 hU (fun hk=>by have:=A _ hk;omega);replace os:=tsK.own_out os hU (fun k hk ad=>by have:=A _ ad;have:=us k hk;omega);replace b0:=Out.keep b0 hU b0.size (fun k hk=>by have:=A _ hk;omega);clear A hU;clear oi;have rm:=tsK.own_rd om;clear om;have ar:Hid (∀w',Below Z.heap.size Z w'→tsK.rd w' (q6K 1 (⟨.slice C y.length I,y⟩:TsQ))):=fun w' hb=>tsK.rd_below rm hb
 have z:Below Z.heap.size Z Z:=Below.refl _ _;have ao:=fun w h=>q4c D (⟨.slice C y.length I,y⟩:TsQ) 1 w h aj (by omega) (by omega)
 generalize aJ:(nmTs (⟨.slice C y.length I,y⟩:TsQ):Int)=Mi at*;have aV:0≤Mi∧Mi≤3145728:=by omega
 have bb:¬(1+Mi<0):=by omega
 have ba:((1+Mi) !=(1+Mi))=false:=by simp
 clear aM aJ rm;obtain⟨p0,p1⟩:=Y0.cel2
 go_wp2_with fail
 clear p0 p1;refine(ao Z (ar.out _ z)).mono ?_;rintro e bi ⟨rfl,hb⟩;replace z:=z.trans (hb.mono z.size);replace A0:=A0.below hb;replace S0:=S0.below hb;replace X0:=X0.below hb;replace Y0:=Y0.below hb;replace os:=tsK.own_out (F:=[]) os (Out.of_below hb) (fun _ _=>by simp);replace b0:=b0.trans (hb.mono b0.size);clear hb;obtain⟨p0,p1⟩:=A0.cel2
 go_wp2_with fail
 clear p0 p1;refine(U.out _ (T.out _ b0) hl).mono ?_;rintro e bj ⟨q5,rfl,e5,o5,_,_,hb⟩;replace z:=z.trans (hb.mono z.size);replace A0:=A0.below hb;replace S0:=S0.below hb;replace X0:=X0.below hb;replace Y0:=Y0.below hb;replace os:=tsK.own_out (F:=[]) os (Out.of_below hb) (fun _ _=>by simp);replace b0:=b0.trans (hb.mono b0.size);clear hb
 go_wp2_with fail
 refine(al.out q5 e5 _ (hG.below b0) (hT.below b0) o5 (by rw[aa.out q5 e5];exact hl)).mono ?_;rintro e ag ⟨qh,rfl,eh,oh,_,_,hb,aK⟩;replace z:=z.trans (hb.mono z.size);replace A0:=A0.below hb;replace S0:=S0.below hb;replace X0:=X0.below hb;replace Y0:=Y0.below hb;replace os:=tsK.own_out (F:=[]) os (Out.of_below hb) (fun _ _=>by simp);replace b0:=b0.trans (hb.mono b0.size);clear hb;clear o5 e5;obtain⟨vh,Y⟩:=qh;obtain⟨ah,ai,rfl⟩:∃a c,vh=.slice a Y.length c:=(tsK.own_rd oh).shape;have H0:=Blk.new ag 41 #[.int .i64 D,.slice ah Y.length ai];have hb:Below ag.heap.size ag (ag.alloc (.cells #[.int .i64 D,.slice ah Y.length ai] 41)):=by go_grown
 replace z:=z.trans (hb.mono z.size);replace A0:=A0.below hb;replace S0:=S0.below hb;replace X0:=X0.below hb;replace Y0:=Y0.below hb;replace os:=tsK.own_out (F:=[]) os (Out.of_below hb) (fun _ _=>by simp);replace oh:=tsK.own_out (F:=[]) oh (Out.of_below hb) (fun _ _=>by simp);replace b0:=b0.trans (hb.mono b0.size);clear hb;obtain⟨r0,r1⟩:=S0.cel2
 go_wp2_with fail
 clear r0 r1;generalize ag.alloc (.cells #[.int .i64 D,.slice ah Y.length ai] 41)=aY at*;refine(q26 D (⟨.slice ah Y.length ai,Y⟩:TsQ) (⟨.slice V J.length X,J⟩:TsQ) _ (tsK.own_rd oh) (tsK.own_rd os) (eh.trans es.symm) aK).mono ?_;rintro e aT ⟨rfl,hb⟩;replace z:=z.trans (hb.mono z.size);replace A0:=A0.below hb;replace S0:=S0.below hb;replace X0:=X0.below hb;replace Y0:=Y0.below hb;replace os:=tsK.own_out (F:=[]) os (Out.of_below hb) (fun _ _=>by simp);replace oh:=tsK.own_out (F:=[]) oh (Out.of_below hb) (fun _ _=>by simp);replace b0:=b0.trans (hb.mono b0.size);clear hb;clear H0;obtain⟨p0,p1⟩:=Y0.cel2
 go_wp2_with fail
 clear p0 p1;refine(ao aT (ar.out _ z)).mono ?_;rintro e bk ⟨rfl,hb⟩;replace b0:=b0.trans (hb.mono b0.size);clear hb ao ar z S0 Y0 X0 A0 os oh
 go_wp2
 go_ret;exact⟨rfl,b0⟩
end Go.Proofs.YtgdedpgldhbfhaaGreatDoor
