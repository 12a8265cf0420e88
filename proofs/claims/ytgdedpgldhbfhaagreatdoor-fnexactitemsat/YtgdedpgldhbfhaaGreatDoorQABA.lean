/- Texts joined,with what the laws reach alone. -/
import Derived.Test.YtgdedpgldhbfhaaGreatDoorQAAZ
import Derived.Test.YtgdedpgldhbfhaaGreatDoorQAAS
set_option linter.unusedVariables false
set_option linter.unusedSimpArgs false
set_option maxRecDepth 100000
set_option maxHeartbeats 16000000
namespace Go.Proofs.YtgdedpgldhbfhaaGreatDoor
open Go.RowKit Go.BigFrame
theorem q6o{mem:List NodeQ}(h:mem.length+nmL NodeQ.n mem≤1048576)(k:Nat)(hk:k<mem.length):mem[k].base.length≤1048576:=by
 have h2:=z1d NodeQ.n mem k hk;have h3:mem[k].base.length≤NodeQ.n mem[k]:=by
  show _≤RepQ.n mem[k].r;have e1:mem[k].r.base=mem[k].base:=rfl;simp only[RepQ.n,e1];omega
 omega
section
open Go.Maps
section
variable {ops:Array Oper} {rest:List Oper} {o:Oper} {a:Act} {Q:Exit→Act→World→Prop}
theorem q28(w:World)(ty g n:Nat)(cur:Array Value)(ad:Addr)(sc:Nat)(zs:List ItemD)(hz:zs.length=n)(hg:w.heap[g]?=some (.cells cur 126 (0,0)))(hc:cur.size=n*2)(hr:ItemRow w (some ad) zs):
  (Builtin.copy_ #[47,47] ty #[.slice (some ⟨g,0,none⟩) n n,.slice (some ad) n sc]).run Tryz.prog w=.ok (goInt n) (w.setRow g (z0f zs).toArray):=by
 obtain⟨i0,hi,hz0,hz1,hz2⟩:=info_parts z1m;have hlen:=z0H zs;have hl:=run_loadCells_list (P:=Tryz.prog) w ad (z0f zs) (z5K hr);have hst:=run_storeCells_at Tryz.prog g 0 126 (z0f zs) 0 cur w hg (by omega) (z1p zs);have e:cur.toList.drop (z0f zs).length=[]:=List.drop_of_length_le (by simp;omega);simp only[Nat.zero_add,Nat.add_zero,List.take_zero,List.nil_append,e,List.append_nil]at hst;rw[hlen,hz]at hl;simp[Builtin.copy_,run_underlying Tryz.underlying47,Builtin.lenOf,Builtin.firstCells,sizeOf,typeInfo,hi,hz1,hl,hst]
theorem q4g(w:World)(base g n:Nat)(ys:List Value)(hown:w.ownsRow base 126 2 (.slice (some ⟨g,0,none⟩) n n) n ys)(sa:Option Addr)(zs:List ItemD)(sc:Nat)(hz:zs.length=n)(hr:ItemRow w sa zs)(hN:z6j sa n sc):
  ∃w',(∀ty,(Builtin.copy_ #[47,47] ty #[.slice (some ⟨g,0,none⟩) n n,.slice sa n sc]).run Tryz.prog w=.ok (goInt n) w')∧w'.ownsRow base 126 2 (.slice (some ⟨g,0,none⟩) n n) n (z0f zs)∧Below base w w':=by
 have hlen:=z0H zs;rcases hN with⟨ad,rfl⟩|⟨rfl,hn,rfl⟩
 ·rcases hown.2 with⟨hv,_⟩|⟨g',cap',cur,hv,hb,hh,h1,h2,h3,h4⟩
  ·simp at hv
  ·simp only[Value.slice.injEq,Option.some.injEq,Addr.mk.injEq,and_true,true_and]at hv;obtain⟨rfl,rfl⟩:=hv;refine⟨_,fun ty=>q28 w ty g n cur ad sc zs hz hh h3 hr,⟨by omega,Or.inr ⟨g,n,(z0f zs).toArray,rfl,hb,setRow_heap w g _ _ _ _ hh,h1,h2,by simp;omega,?_⟩⟩,?_⟩
   ·simp only[List.toList_toArray];rw[List.take_of_length_le (by omega)]
   ·exact(Below.refl _ _).trans ⟨rfl,rfl,rfl,by simp[World.setRow],fun k hk=>setRow_other w g k _ (by omega)⟩
 ·subst hn;have hz':zs=[]:=List.eq_nil_of_length_eq_zero hz;subst hz';obtain⟨i0,hi,hz0,hz1,hz2⟩:=info_parts z1m;have hys:ys=[]:=List.eq_nil_of_length_eq_zero (by have:=hown.1;omega);subst hys;refine⟨w,fun ty=>?_,hown,Below.refl _ _⟩;simp[Builtin.copy_,run_underlying Tryz.underlying47,Builtin.lenOf,Builtin.firstCells,sizeOf,typeInfo,hi,storeCells]
end
theorem z7E(a:Option Addr)(cap:Nat)(zs:List ItemD)(w:World)(h:ItemRow w a zs)(hN:z6j a zs.length cap)(hl:zs.length≤1048576):
  Calls Tryz.prog 50 #[.slice a zs.length cap] w fun e w'=>∃a' c',e=.returned (.slice a' zs.length c')∧w'.ownsRow w.heap.size 126 2 (.slice a' zs.length c') zs.length (z0f zs)∧Below w.heap.size w w':=by
 obtain⟨i0,hi,D,E,I⟩:=info_parts z1m;have d:i0.bytes*zs.length≤281474976710656:=by rw[I];omega
 have A:zs.length≤maxLen:=by unfold maxLen;omega
 go_enter Tryz.func50,Tryz.ntmps50
 go_wp2_with (at_make;refine wpList_make_full _ rfl _ _ 47 rfl w.heap.size 126 i0 (.agg #[.int .i64 0,.int .i64 0]) 2 Tryz.underlying47 hi D E _ _ _ _ zs.length rfl rfl rfl rfl d A (Nat.le_refl _) ?_)
 intro w1 x c;have z:Below w.heap.size w w1:=(Below.refl _ _).grown c (Nat.le_refl _) (by simp);generalize (madeCells #[Value.int .i64 0,.int .i64 0] (zs.length*2)).toList=ys at x;clear c;obtain⟨w2,J,y,C⟩:=q4g w1 w.heap.size w.heap.size zs.length ys x a zs cap rfl (h.below z) hN
 go_wp2
 go_ret;exact⟨_,_,rfl,y,z.trans C⟩
end
theorem z5Z(v:Value):(blk v).Nodup:=by
 unfold blk
 cases v.ownBlock<;>simp
theorem z50(p:CluQ)(nd:Int)(w:World)(hG:Rul w)(hT:ErrT w)(h:cluK.own w p)(hl:p.n≤1048576):
  Calls Tryz.prog 22 #[.agg #[p.vo,p.vm],.int .i64 nd] w fun e w'=>∃q:IxQ,e=.returned (.agg #[.int .i64 (daC p.e nd),.int .i64 ((daR p.e nd).base.length:Int),q.v])∧q.e=(daR p.e nd).base∧ixK.own w' q∧(ixK.foot q).Nodup∧(∀k∈ixK.foot q,w.heap.size≤k)∧Below w.heap.size w w'∧q.n≤1048576:=by
 have hr:=fun w hG hT h=>z3W p nd w hG hT h hl
 have M:=fun(w':World) (hb:Below w.heap.size w w')=>cluK.own_out (F:=[]) (w':=w') h (Out.of_below hb) (fun _ _=>by simp)
 have HN:Hid (daC p.e nd≠0→daR p.e nd=⟨[],[],[],[],[]⟩):=fun h0=>q2Z h0
 obtain⟨vo,C,vm,A⟩:=p;obtain⟨a0,k0,rfl⟩:∃a c,vo=.slice a C.length c:=h.1.shape;obtain⟨a1,k1,rfl⟩:∃a c,vm=.slice a A.length c:=h.2.shape;dsimp only at hr M HN;generalize daC _ nd=D at*;generalize daR _ nd=DR at*;clear h hl;have b0:Below w.heap.size w ((w.alloc (.cells #[.slice a0 C.length k0,.slice a1 A.length k1] 33)).alloc (.cells #[.int .i64 0,.int .i64 0,.slice none 0 0] 49)):=by go_grown
 have A0:=(Blk.new w 33 #[.slice a0 C.length k0,.slice a1 A.length k1]).below (w':=(w.alloc (.cells #[.slice a0 C.length k0,.slice a1 A.length k1] 33)).alloc (.cells #[.int .i64 0,.int .i64 0,.slice none 0 0] 49)) (by go_grown);have Rb:=Blk.new (w.alloc (.cells #[.slice a0 C.length k0,.slice a1 A.length k1] 33)) 49 #[.int .i64 0,.int .i64 0,.slice none 0 0];simp only[World.size_alloc]at Rb;have ad:w.heap.size+2≤((w.alloc (.cells #[.slice a0 C.length k0,.slice a1 A.length k1] 33)).alloc (.cells #[.int .i64 0,.int .i64 0,.slice none 0 0] 49)).heap.size:=by simp only[World.size_alloc];omega
 obtain⟨c0,c1⟩:=A0.cel2;go_enter Tryz.func22,Tryz.ntmps22
 go_wp2_with fail
 clear c0 c1;generalize (w.alloc (.cells #[.slice a0 C.length k0,.slice a1 A.length k1] 33)).alloc (.cells #[.int .i64 0,.int .i64 0,.slice none 0 0] 49)=W at*;refine(hr W (hG.below b0) (hT.below b0) (M W b0)).mono ?_;rintro e w1 ⟨r,rfl,er,oR,nR,hb⟩;replace Rb:=Rb.below hb;have ab:=hb.size;replace b0:=b0.trans (hb.mono b0.size);clear hb hr M A0;have J:Hid (r.base=DR.base):=by rw[←er];exact(rfl:_=_)
 have L:r.base.length≤1048576:=by dsimp only[RepQ.n]at nR;omega
 clear er nR;obtain⟨vd,done,vb,base,vt,y,vu,d,vn,I⟩:=r;obtain⟨x0,y0,rfl⟩:∃a c,vd=.slice a done.length c:=oR.1.shape;obtain⟨x1,y1,rfl⟩:∃a c,vb=.slice a base.length c:=oR.2.1.shape;obtain⟨x2,y2,rfl⟩:∃a c,vt=.slice a y.length c:=oR.2.2.1.shape;obtain⟨x3,y3,rfl⟩:∃a c,vu=.slice a d.length c:=oR.2.2.2.1.shape;obtain⟨x4,y4,rfl⟩:∃a c,vn=.slice a I.length c:=oR.2.2.2.2.shape;dsimp only at J L;have nB:z6j x1 base.length y1:=oR.2.1.niceV _ _ _ rfl;have X0:=Blk.new w1 62 #[.slice x0 done.length y0,.slice x1 base.length y1,.slice x2 y.length y2,.slice x3 d.length y3,.slice x4 I.length y4];have hX:Below w1.heap.size w1 (w1.alloc (.cells #[.slice x0 done.length y0,.slice x1 base.length y1,.slice x2 y.length y2,.slice x3 d.length y3,.slice x4 I.length y4] 62)):=by go_grown
 replace Rb:=Rb.below hX;have ae:=hX.size;have dO:=oR.2.1.at.below hX;replace b0:=b0.trans (hX.mono b0.size);clear hX oR;by_cases hD:D=0
 case neg=>
  have X:(D !=0)=true:=by simpa using hD
  have z:Hid (D=D∧DR=⟨[],[],[],[],[]⟩):=⟨rfl,HN.out hD⟩
  clear HN J hD;have Rr:=Rb.row #[.int .i64 D,.int .i64 0,.slice none 0 0];have U:=z0y (w1.alloc (.cells #[.slice x0 done.length y0,.slice x1 base.length y1,.slice x2 y.length y2,.slice x3 d.length y3,.slice x4 I.length y4] 62)) (w.heap.size+1) #[.int .i64 D,.int .i64 0,.slice none 0 0];have b3:=Out.keep b0 U b0.size (fun k hk=>by simp only[List.mem_singleton]at hk;omega);have N:(Tryz.prog.info? 49).map (·.size)=some (#[.int .i64 D,.int .i64 0,.slice none 0 0]:Array Value).size:=by kernel_rfl
  go_wp2_with (refine z0C (by kernel_rfl) 49 _ _ rfl _ #[.int .i64 D,.int .i64 0,.slice none 0 0] rfl rfl 49 _ Rb N rfl (by simp[Value.oneCell']) ?_)
  obtain⟨r0,r1,r2⟩:=Rr.cel3;exact bodyPost_ret (v:=.agg #[.int .i64 D,.int .i64 0,.slice none 0 0]) (by simp[results,Tryz.results22,go_sem,r0,r1,r2]) rfl ⟨⟨.slice none 0 0,[]⟩,by first|(rw[z.out.2];rfl)|(rw[z.out.1,z.out.2];rfl),by rw[z.out.2];rfl,(Kind.own_nil (K:=itemK) _).1,by show(itemK.fp _ _).Nodup;rw[(Kind.own_nil (K:=itemK) w).2];exact List.nodup_nil,by show∀k∈itemK.fp _ _,_;rw[(Kind.own_nil (K:=itemK) w).2];simp,b3,by show([]:List ItemD).length≤1048576;decide⟩
 have X:(D !=0)=false:=by simp[hD]
 subst hD;clear HN;have V:w1.heap.size≠w.heap.size+1:=by omega
 go_wp2_with fail
 generalize w1.alloc (.cells #[.slice x0 done.length y0,.slice x1 base.length y1,.slice x2 y.length y2,.slice x3 d.length y3,.slice x4 I.length y4] 62)=W1 at*;have e1:=z5o (F:=[w.heap.size+1]) (X0.cell 1 _ rfl) (by simpa using V);have Y:Nonempty (LatO [w.heap.size+1] W1):=⟨⟨W1,Out.refl _ _⟩⟩
 have hW:Below W1.heap.size W1 W1.drew:=(Below.refl _ _).drew;have E:∀w',Below W1.heap.size W1 w'→∃u:LatO [w.heap.size+1] W1,w'=u.val:=fun w' Z=>⟨⟨w',Out.of_below Z⟩,rfl⟩
 refine z0d (S:=fun w'=>∃u:LatO [w.heap.size+1] W1,w'=u.val) (by kernel_rfl) ?_;refine sgr [(0,2),(3,2)] 4 (by kernel_rfl) (E _ hW) ?_;simp only[pkE];repeat go_big_quiet_step (fail)
 refine wpQuiet_nil ?_;refine qta 2 (some 19) (.int .i64 base.length) 3 (by kernel_rfl) (fun u _=>by kernel_rfl) (E _ hW) ?_;simp only[Act.put,pjE];refine cla 5 (some 22) 50 #[.slice x1 base.length y1] 2 (by kernel_rfl) ?_;refine(z7E x1 y1 base _ (z0M (dO.below hW)).2 nB L).mono ?_;rintro e w9 ⟨za,zc,rfl,o9,T⟩;have on:itemK.Own w9 (.slice za base.length zc) base:=⟨(z0t o9).1,fun _ _=>trivial⟩
 have gn:∀k∈blk (.slice za base.length zc),W1.heap.size≤k:=fun k hk=>by have:=(z0t o9).2 k hk;have:=hW.size;omega
 replace hW:=hW.trans (T.mono hW.size);clear T o9;refine⟨_,rfl,E _ hW,?_⟩;simp only[Act.put,pjE];refine qta 6 (some 23) (.agg #[.int .i64 0,.int .i64 base.length,.slice za base.length zc]) 1 (by kernel_rfl) (fun u _=>by kernel_rfl) (E _ hW) ?_;simp only[Act.put,pjE];have R3:=Rb.below hW;refine ona 7 0 rfl (by kernel_rfl) ?_;have Rr:=R3.row #[.int .i64 0,.int .i64 base.length,.slice za base.length zc];have U:=z0y w9 (w.heap.size+1) #[.int .i64 0,.int .i64 base.length,.slice za base.length zc];have O:Out [w.heap.size+1] W1 (w9.setRow (w.heap.size+1) #[.int .i64 0,.int .i64 base.length,.slice za base.length zc]):=(Out.of_below hW).trans U;have N:(Tryz.prog.info? 49).map (·.size)=some (#[.int .i64 0,.int .i64 base.length,.slice za base.length zc]:Array Value).size:=by kernel_rfl
 refine z0C (by kernel_rfl) 49 _ _ rfl _ #[.int .i64 0,.int .i64 base.length,.slice za base.length zc] rfl rfl 49 _ R3 N rfl (by simp[Value.oneCell']) ?_
 go_wp2
 refine ThenGo.to ⟨⟨⟨_,O⟩,rfl⟩,?_⟩;refine z0h (by kernel_rfl) ?_;have oz:=on.out U (fun x hx aa=>by rw[z0o]at hx;have:=gn x hx;simp only[List.mem_singleton]at aa;omega);have b3:=Out.keep (b0.trans (hW.mono b0.size)) U (by have:=b0.size;have:=hW.size;omega) (fun k hk=>by simp only[List.mem_singleton]at hk;omega);have z:Hid ((0:Int)=0∧base=DR.base):=⟨rfl,J.out⟩
 clear e1 Y E O R3 X0 J dO on;generalize w9.setRow (w.heap.size+1) #[.int .i64 0,.int .i64 base.length,.slice za base.length zc]=w4 at*;obtain⟨r0,r1,r2⟩:=Rr.cel3
 go_wp2
 exact bodyPost_ret (v:=.agg #[.int .i64 0,.int .i64 (base.length:Int),.slice za base.length zc]) (by simp[results,Tryz.results22,go_sem,r0,r1,r2]) rfl ⟨⟨.slice za base.length zc,base⟩,by rw[←z.out.2],z.out.2,oz,by show(itemK.fp _ _).Nodup;rw[z0o];exact z5Z _,by show∀k∈itemK.fp _ _,_;rw[z0o];exact fun k hk=>by have:=gn k hk;omega,b3,L⟩
theorem z51(p:CluQ)(nd:Int)(w:World)(h:cluK.own w p)(hl:p.n≤1048576):
  Calls Tryz.prog 21 #[.agg #[p.vo,p.vm],.int .i64 nd] w fun e w'=>∃q:IxQ,e=.returned (.agg #[.int .i64 (daC p.e nd),.int .i64 ((daR p.e nd).base.length:Int),q.v])∧q.e=(daR p.e nd).base∧ixK.own w' q∧(ixK.foot q).Nodup∧(∀k∈ixK.foot q,w.heap.size≤k)∧Below w.heap.size w w'∧q.n≤1048576:=by
 have hf:=fun b w hB h=>z1W b p w hB h hl
 have M:=fun(w':World) (hb:Below w.heap.size w w')=>cluK.own_out (F:=[]) (w':=w') h (Out.of_below hb) (fun _ _=>by simp)
 have HM:Hid (cluF p.e=0→p.mem.length=3):=fun h0=>by have:=(z0R h0).2.1;simpa[CluQ.e]using this
 have H1:Hid (cluF p.e≠0→daC p.e nd=cluF p.e∧daR p.e nd=⟨[],[],[],[],[]⟩):=fun h1=>by
  have e:daC p.e nd=cluF p.e:=if_neg h1;exact⟨e,if_neg (by rw[e];exact h1)⟩
 have H2:Hid (cluF p.e=0→¬(0≤nd∧nd≤2)→daC p.e nd=3∧daR p.e nd=⟨[],[],[],[],[]⟩):=fun h1 h2=>by
  have e:daC p.e nd=3:=by
   unfold daC;rw[if_pos h1,if_neg h2]
  exact⟨e,if_neg (by rw[e];decide)⟩
 have H3:Hid (cluF p.e=0→(0≤nd∧nd≤2)→daC p.e nd=0∧daR p.e nd=((p.mem.map NodeQ.e).getD nd.toNat q36).rep∧∀t∈(daR p.e nd).done,t.F=0):=fun h1 h2=>by
  have e:daC p.e nd=0:=by
   unfold daC;rw[if_pos h1,if_pos h2]
  exact⟨e,if_pos e,z9E e⟩
 obtain⟨vo,z,vm,d⟩:=p;obtain⟨a0,k0,rfl⟩:∃a c,vo=.slice a z.length c:=h.1.shape;obtain⟨a1,k1,rfl⟩:∃a c,vm=.slice a d.length c:=h.2.shape;have ag:d.length+nmL NodeQ.n d≤1048576:=by dsimp only[CluQ.n]at hl;omega
 clear hl;obtain⟨ho,hm⟩:instK.Own w (.slice a0 z.length k0) z∧nodeK.Own w (.slice a1 d.length k1) d:=h;dsimp only at hf M HM H1 H2 H3;generalize daC _ nd=DC at*;generalize daR _ nd=DR at*;generalize cluF _=D at*;have b0:Below w.heap.size w ((w.alloc (.cells #[.slice a0 z.length k0,.slice a1 d.length k1] 33)).alloc (.cells #[.int .i64 0,.int .i64 0,.slice none 0 0] 49)):=by go_grown
 have A0:=(Blk.new w 33 #[.slice a0 z.length k0,.slice a1 d.length k1]).below (w':=(w.alloc (.cells #[.slice a0 z.length k0,.slice a1 d.length k1] 33)).alloc (.cells #[.int .i64 0,.int .i64 0,.slice none 0 0] 49)) (by go_grown);have Rb:=Blk.new (w.alloc (.cells #[.slice a0 z.length k0,.slice a1 d.length k1] 33)) 49 #[.int .i64 0,.int .i64 0,.slice none 0 0];simp only[World.size_alloc]at Rb;have ao:w.heap.size+2≤((w.alloc (.cells #[.slice a0 z.length k0,.slice a1 d.length k1] 33)).alloc (.cells #[.int .i64 0,.int .i64 0,.slice none 0 0] 49)).heap.size:=by simp only[World.size_alloc];omega
 go_enter Tryz.func21,Tryz.ntmps21
 go_wp2_with fail
 generalize (w.alloc (.cells #[.slice a0 z.length k0,.slice a1 d.length k1] 33)).alloc (.cells #[.int .i64 0,.int .i64 0,.slice none 0 0] 49)=W at*;refine(hf _ W A0 (M W b0)).mono ?_;rintro e w1 ⟨rfl,hb⟩;replace A0:=A0.below hb;replace Rb:=Rb.below hb;have an:=hb.size;replace b0:=b0.trans (hb.mono b0.size);clear hb hf M;by_cases hD:D=0
 case neg=>
  have am:(D !=0)=true:=by simpa using hD
  have y:Hid (DC=D∧DR=⟨[],[],[],[],[]⟩):=H1.out hD;clear H1 H2 H3 HM hD;have Rr:=Rb.row #[.int .i64 D,.int .i64 0,.slice none 0 0];have U:=z0y w1 (w.heap.size+1) #[.int .i64 D,.int .i64 0,.slice none 0 0];have b3:=Out.keep b0 U b0.size (fun k hk=>by simp only[List.mem_singleton]at hk;omega);have J:(Tryz.prog.info? 49).map (·.size)=some (#[.int .i64 D,.int .i64 0,.slice none 0 0]:Array Value).size:=by kernel_rfl
  go_wp2_with (refine z0C (by kernel_rfl) 49 _ _ rfl _ #[.int .i64 D,.int .i64 0,.slice none 0 0] rfl rfl 49 _ Rb J rfl (by simp[Value.oneCell']) ?_)
  obtain⟨r0,r1,r2⟩:=Rr.cel3;exact bodyPost_ret (v:=.agg #[.int .i64 D,.int .i64 0,.slice none 0 0]) (by simp[results,Tryz.results21,go_sem,r0,r1,r2]) rfl ⟨⟨.slice none 0 0,[]⟩,by first|(rw[y.out.2];rfl)|(rw[y.out.1,y.out.2];rfl),by rw[y.out.2];rfl,(Kind.own_nil (K:=itemK) _).1,by show(itemK.fp _ _).Nodup;rw[(Kind.own_nil (K:=itemK) w).2];exact List.nodup_nil,by show∀k∈itemK.fp _ _,_;rw[(Kind.own_nil (K:=itemK) w).2];simp,b3,by show([]:List ItemD).length≤1048576;decide⟩
 have L:Hid _:=HM.out hD;have HB:Hid _:=H2.out hD;have HC:Hid _:=H3.out hD;subst hD;clear H1 H2 H3 HM ho
 go_wp2_with fail
 refine(z6M nd w1).mono ?_;rintro e w2 ⟨rfl,hw⟩;replace hw:=hw.symm;subst hw;unfold inB;by_cases hi:0≤nd∧nd≤2
 case neg=>
  rw[decide_eq_false hi];have y:Hid (DC=3∧DR=⟨[],[],[],[],[]⟩):=HB.out hi;clear HB HC L;have Rr:=Rb.row #[.int .i64 3,.int .i64 0,.slice none 0 0];have U:=z0y w1 (w.heap.size+1) #[.int .i64 3,.int .i64 0,.slice none 0 0];have b3:=Out.keep b0 U b0.size (fun k hk=>by simp only[List.mem_singleton]at hk;omega);have J:(Tryz.prog.info? 49).map (·.size)=some (#[.int .i64 3,.int .i64 0,.slice none 0 0]:Array Value).size:=by kernel_rfl
  go_wp2_with (refine z0C (by kernel_rfl) 49 _ _ rfl _ #[.int .i64 3,.int .i64 0,.slice none 0 0] rfl rfl 49 _ Rb J rfl (by simp[Value.oneCell']) ?_)
  obtain⟨r0,r1,r2⟩:=Rr.cel3;exact bodyPost_ret (v:=.agg #[.int .i64 3,.int .i64 0,.slice none 0 0]) (by simp[results,Tryz.results21,go_sem,r0,r1,r2]) rfl ⟨⟨.slice none 0 0,[]⟩,by first|(rw[y.out.2];rfl)|(rw[y.out.1,y.out.2];rfl),by rw[y.out.2];rfl,(Kind.own_nil (K:=itemK) _).1,by show(itemK.fp _ _).Nodup;rw[(Kind.own_nil (K:=itemK) w).2];exact List.nodup_nil,by show∀k∈itemK.fp _ _,_;rw[(Kind.own_nil (K:=itemK) w).2];simp,b3,by show([]:List ItemD).length≤1048576;decide⟩
 case pos=>
  rw[decide_eq_true hi];have hE:=HC.out hi;obtain⟨hg,hh⟩:=hi;obtain⟨k,rfl⟩:∃k:Nat,nd=(k:Int):=⟨nd.toNat,by omega⟩
  have af:k<3:=by omega
  have I:k<d.length:=by rw[L.out];exact af
  rw[Int.toNat_natCast]at hE;have X:(d.map NodeQ.e).getD k q36=NodeQ.e d[k]:=by simp[List.getD,I]
  rw[X]at hE;obtain⟨aa,V,ab⟩:=hE;obtain⟨g,aq,rfl,_,_,_⟩:=hm.at.cell (by decide) k I;have Z:=z01 (hm.at.below b0) k I;have oq:repK.own w d[k].r:=z2m hm k I;have al:(k:Int)<(d.length:Int):=by omega
  have ap:wrap64 (k:Int)=(k:Int):=by unfold wrap64;omega
  have c1:=A0.cell 1 _ rfl;have ad:=q6o ag k I;have O:Hid (d[k].base=DR.base):=by rw[V];exact(rfl:_=_)
  have q3:=Z 3 d[k].vb rfl;have dB:itemK.Own w d[k].vb d[k].base:=oq.2.1;clear Z HB HC L V ab X hg hh oq;generalize d[k].vb=vb at*;generalize d[k].base=base at*;obtain⟨x1,y1,rfl⟩:∃a c,vb=.slice a base.length c:=dB.at.shape;have nB:z6j x1 base.length y1:=dB.niceV _ _ _ rfl;obtain⟨i0,ae,ai,aj,ak⟩:=info_parts z1m;have C:Below w1.heap.size w1 (w1.alloc (.cells #[] 126)):=by go_grown
  have oI:=World.ownsRow_lit (e:=126) (size:=2) w1 #[] 0 (Nat.le_refl _) (by decide) rfl;have l1:=(z0M (dB.at.below (b0.trans (C.mono b0.size)))).2;have z1:([]:List ItemD).length+base.length≤maxLen:=by unfold maxLen;rw[List.length_nil];omega
  have z2:(([]:List ItemD).length+base.length)*16≤140737488355328:=by rw[List.length_nil];omega
  replace A0:=A0.below C;replace c1:=A0.cell 1 _ rfl;replace q3:=z7n q3 C;have N:w1.heap.size≤(w1.alloc (.cells #[] 126)).heap.size:=C.size
  go_wp2_with (at_builtin;refine z09 (K:=itemK) _ rfl _ _ 47 rfl i0 (.agg #[.int .i64 0,.int .i64 0]) 16 Tryz.underlying47 ae ai aj ak rfl (by decide) w1.heap.size _ [] rfl oI _ base _ rfl l1 (z1p base) nB z1 z2 N ?_)
  intro v' w3 A E;try simp only[List.nil_append]at A
  have Y:Below w1.heap.size w1 w3:=C.grown E N (fun k hk=>by have:=(oI.lt k hk).1;omega);obtain⟨za,zc,rfl⟩:=z0g A;obtain⟨o2,T⟩:=z0t A;have on:itemK.Own w3 (.slice za base.length zc) base:=⟨o2,fun _ _=>trivial⟩
  have gn:∀k∈blk (.slice za base.length zc),w1.heap.size≤k:=fun k hk=>T k hk
  replace Rb:=Rb.below Y;replace b0:=b0.trans (Y.mono b0.size);have y:Hid (DC=0∧base=DR.base):=⟨aa,O.out⟩
  clear c1 q3 A E oI l1 z1 z2 N A0 C o2 T O;have Rr:=Rb.row #[.int .i64 0,.int .i64 base.length,.slice za base.length zc];have U:=z0y w3 (w.heap.size+1) #[.int .i64 0,.int .i64 base.length,.slice za base.length zc];have b3:=Out.keep b0 U b0.size (fun k hk=>by simp only[List.mem_singleton]at hk;omega);have J:(Tryz.prog.info? 49).map (·.size)=some (#[.int .i64 0,.int .i64 base.length,.slice za base.length zc]:Array Value).size:=by kernel_rfl
  go_wp2_with (refine z0C (by kernel_rfl) 49 _ _ rfl _ #[.int .i64 0,.int .i64 base.length,.slice za base.length zc] rfl rfl 49 _ Rb J rfl (by simp[Value.oneCell']) ?_)
  obtain⟨r0,r1,r2⟩:=Rr.cel3;have oz:=on.out U (fun x hx ah=>by rw[z0o]at hx;have:=gn x hx;simp only[List.mem_singleton]at ah;omega);exact bodyPost_ret (v:=.agg #[.int .i64 0,.int .i64 (base.length:Int),.slice za base.length zc]) (by simp[results,Tryz.results21,go_sem,r0,r1,r2]) rfl ⟨⟨.slice za base.length zc,base⟩,by rw[y.out.1,←y.out.2],y.out.2,oz,by show(itemK.fp _ _).Nodup;rw[z0o];exact z5Z _,by show∀k∈itemK.fp _ _,_;rw[z0o];exact fun k hk=>by have:=gn k hk;omega,b3,ad⟩
theorem z7F(p:CluQ)(nd:Int)(x:CluE)(hx:p.e=x)(w:World)(h:cluK.own w p)(hl:p.n≤1048576):
  Calls Tryz.prog 21 #[.agg #[p.vo,p.vm],.int .i64 nd] w fun e w'=>∃q:IxQ,e=.returned (.agg #[.int .i64 (daC x nd),.int .i64 (((daR x nd).base.length:Int)),q.v])∧q.e=(daR x nd).base∧ixK.own w' q∧(ixK.foot q).Nodup∧(∀k∈ixK.foot q,w.heap.size≤k)∧Below w.heap.size w w'∧q.n≤1048576:=by
 subst hx;exact z51 p nd w h hl
theorem z7G(p:CluQ)(nd:Int)(x:CluE)(hx:p.e=x)(w:World)(hG:Rul w)(hT:ErrT w)(h:cluK.own w p)(hl:p.n≤1048576):
  Calls Tryz.prog 22 #[.agg #[p.vo,p.vm],.int .i64 nd] w fun e w'=>∃q:IxQ,e=.returned (.agg #[.int .i64 (daC x nd),.int .i64 (((daR x nd).base.length:Int)),q.v])∧q.e=(daR x nd).base∧ixK.own w' q∧(ixK.foot q).Nodup∧(∀k∈ixK.foot q,w.heap.size≤k)∧Below w.heap.size w w'∧q.n≤1048576:=by
 subst hx;exact z50 p nd w hG hT h hl
theorem q5H(p:CluQ)(nd:Int)(w:World)(hG:Rul w)(hT:ErrT w)(hp:cluK.rd w p)(hw:p.wf):
  Calls Tryz.prog 6 #[.agg #[p.vo,p.vm],.int .i64 nd] w fun e w'=>e=.returned (.bool true)∧Below w.heap.size w w':=by
 have av:=fun w h=>z2d p 1048576 w h hw (by omega) (by omega)
 have aw:=fun w h hl=>z2f p w h hl
 have aE:=fun a (ha:CluQ.e a=p.e) w h hl=>z7F a nd _ ha w h hl
 have aB:=fun a (ha:CluQ.e a=p.e) w hG hT h hl=>z7G a nd _ ha w hG hT h hl
 have aD:∀a:CluQ,a.e=p.e→a.n=p.n:=fun q hq=>q30 hq
 have aA:=fun(a b:CluQ) (ha:a.e=p.e) (hb:b.e=p.e) w h h' hl=>z2e a b w h h' (ha.trans hb.symm) hl
 have al:=fun(w':World) hb=>cluK.rd_below (w':=w') hp hb
 generalize ((daR p.e nd).base.length:Int)=A at*;generalize (daR p.e nd).base=E at*;generalize daC p.e nd=D at*;generalize aP:p.e=pe at*;generalize aQ:p.n=pn at*;obtain⟨vo,ag,vm,af⟩:=p;obtain⟨a0,k0,rfl⟩:∃a c,vo=.slice a ag.length c:=hp.1.shape;obtain⟨a1,k1,rfl⟩:∃a c,vm=.slice a af.length c:=hp.2.shape;dsimp only at av aw al;have b0:Below w.heap.size w (w.alloc (.cells #[.slice a0 ag.length k0,.slice a1 af.length k1] 25)):=by go_grown
 have A0:=Blk.new w 25 #[.slice a0 ag.length k0,.slice a1 af.length k1];have a2:=A0.lt;obtain⟨p0,p1⟩:=A0.cel2;go_enter Tryz.func6,Tryz.ntmps6
 go_wp2_with fail
 clear p0 p1;generalize w.alloc (.cells #[.slice a0 ag.length k0,.slice a1 af.length k1] 25)=W at*;refine(av W (al W b0)).mono ?_;rintro e w1 ⟨r,rfl,hr,hb⟩;have bd:=hb.size;replace A0:=A0.below hb;replace b0:=b0.trans (hb.mono b0.size);clear hb;clear av;by_cases aC:r<0
 ·go_wp2
  go_ret;exact⟨rfl,b0⟩
 have hl:((pn:Nat):Int)+r=1048576:=hr (by omega);clear hr;replace hl:pn≤1048576:=by omega
 have V:Hid _:=aw;clear aw;have an:Hid _:=aE;clear aE;have am:Hid _:=aB;clear aB;have ab:Hid _:=aD;clear aD;have az:Hid _:=aA;clear aA;have U:Hid _:=al;clear al;clear aP aQ;obtain⟨p0,p1⟩:=A0.cel2
 go_wp2_with fail
 clear p0 p1;clear aC;refine(V.out _ (U.out _ b0) hl).mono ?_;rintro e w2 ⟨q1,rfl,e1,o1,_,_,hb⟩;have be:=hb.size;replace A0:=A0.below hb;replace b0:=b0.trans (hb.mono b0.size);clear hb
 go_wp2_with fail
 refine(an.out q1 e1 _ o1 (by rw[ab.out q1 e1];exact hl)).mono ?_;rintro e w3 ⟨qs,rfl,es,os,ns,gs,hb,ba⟩;have bf:=hb.size;have us:∀k∈ixK.foot qs,w2.heap.size≤k∧k<w3.heap.size:=fun k hk=>⟨gs k hk,ixK.own_lt os k hk⟩
 replace A0:=A0.below hb;replace b0:=b0.trans (hb.mono b0.size);clear hb;clear o1 e1 an gs ns;obtain⟨vs,L⟩:=qs;obtain⟨X,Y,rfl⟩:∃a c,vs=.slice a L.length c:=(ixK.own_rd os).shape;have S0:=Blk.new w3 49 #[.int .i64 D,.int .i64 A,.slice X L.length Y];have hb:Below w3.heap.size w3 (w3.alloc (.cells #[.int .i64 D,.int .i64 A,.slice X L.length Y] 49)):=by go_grown
 replace A0:=A0.below hb;replace os:=ixK.own_out (F:=[]) os (Out.of_below hb) (fun _ _=>by simp);replace b0:=b0.trans (hb.mono b0.size);clear hb;obtain⟨p0,p1⟩:=A0.cel2
 go_wp2_with fail
 clear p0 p1;generalize w3.alloc (.cells #[.int .i64 D,.int .i64 A,.slice X L.length Y] 49)=W3 at*;have a6:=S0.lt;refine(V.out _ (U.out _ b0) hl).mono ?_;rintro e w4 ⟨q3,rfl,e3,o3,n3,g3,hb⟩;have bg:=hb.size;have u3:∀k∈cluK.foot q3,W3.heap.size≤k∧k<w4.heap.size:=fun k hk=>⟨g3 k hk,cluK.own_lt o3 k hk⟩
 replace A0:=A0.below hb;replace S0:=S0.below hb;replace os:=ixK.own_out (F:=[]) os (Out.of_below hb) (fun _ _=>by simp);replace b0:=b0.trans (hb.mono b0.size);clear hb;clear g3;have ar:CluQ.n q3≤1048576:=by rw[ab.out q3 e3];exact hl
 have aq:=fun w hG hT h=>am.out q3 e3 w hG hT h ar
 have ao:=fun q' aR w h h'=>az.out q3 q' e3 aR w h h' ar
 obtain⟨aT,x,aS,d⟩:=q3;obtain⟨M,O,rfl⟩:∃a c,aT=.slice a x.length c:=o3.1.shape;obtain⟨N,T,rfl⟩:∃a c,aS=.slice a d.length c:=o3.2.shape;dsimp only at aq ao;have ay:Hid _:=aq;have ax:Hid _:=ao;clear aq ao;have X0:=Blk.new w4 33 #[.slice M x.length O,.slice N d.length T];have hb:Below w4.heap.size w4 (w4.alloc (.cells #[.slice M x.length O,.slice N d.length T] 33)):=by go_grown
 replace A0:=A0.below hb;replace S0:=S0.below hb;replace os:=ixK.own_out (F:=[]) os (Out.of_below hb) (fun _ _=>by simp);replace o3:=cluK.own_out (F:=[]) o3 (Out.of_below hb) (fun _ _=>by simp);replace b0:=b0.trans (hb.mono b0.size);clear hb;obtain⟨p0,p1⟩:=X0.cel2
 go_wp2_with fail
 clear p0 p1;generalize w4.alloc (.cells #[.slice M x.length O,.slice N d.length T] 33)=W4 at*;have a7:=X0.lt;refine(ay.out W4 (hG.below b0) (hT.below b0) o3).mono ?_;rintro e w5 ⟨qi,rfl,ei,oi,ni,gi,hb,ak⟩;have bh:=hb.size;have ui:∀k∈ixK.foot qi,W4.heap.size≤k∧k<w5.heap.size:=fun k hk=>⟨gi k hk,ixK.own_lt oi k hk⟩
 replace A0:=A0.below hb;replace S0:=S0.below hb;replace X0:=X0.below hb;replace os:=ixK.own_out (F:=[]) os (Out.of_below hb) (fun _ _=>by simp);replace o3:=cluK.own_out (F:=[]) o3 (Out.of_below hb) (fun _ _=>by simp);replace b0:=b0.trans (hb.mono b0.size);clear hb;clear ay gi;obtain⟨vi,y⟩:=qi;obtain⟨I,J,rfl⟩:∃a c,vi=.slice a y.length c:=(ixK.own_rd oi).shape;have Y0:=Blk.new w5 49 #[.int .i64 D,.int .i64 A,.slice I y.length J];have hb:Below w5.heap.size w5 (w5.alloc (.cells #[.int .i64 D,.int .i64 A,.slice I y.length J] 49)):=by go_grown
 replace A0:=A0.below hb;replace S0:=S0.below hb;replace X0:=X0.below hb;replace os:=ixK.own_out (F:=[]) os (Out.of_below hb) (fun _ _=>by simp);replace o3:=cluK.own_out (F:=[]) o3 (Out.of_below hb) (fun _ _=>by simp);replace oi:=ixK.own_out (F:=[]) oi (Out.of_below hb) (fun _ _=>by simp);replace b0:=b0.trans (hb.mono b0.size);clear hb;obtain⟨r0,r1,r2⟩:=S0.cel3
 go_wp2_with fail
 clear r0 r1 r2;generalize w5.alloc (.cells #[.int .i64 D,.int .i64 A,.slice I y.length J] 49)=W5 at*;have a8:=Y0.lt;refine(q27 D A (⟨.slice I y.length J,y⟩:IxQ) (⟨.slice X L.length Y,L⟩:IxQ) _ (ixK.own_rd oi) (ixK.own_rd os) (ei.trans es.symm) ak).mono ?_;rintro e w6 ⟨rfl,hb⟩;replace A0:=A0.below hb;replace S0:=S0.below hb;replace X0:=X0.below hb;replace Y0:=Y0.below hb;replace os:=ixK.own_out (F:=[]) os (Out.of_below hb) (fun _ _=>by simp);replace o3:=cluK.own_out (F:=[]) o3 (Out.of_below hb) (fun _ _=>by simp);replace oi:=ixK.own_out (F:=[]) oi (Out.of_below hb) (fun _ _=>by simp);replace b0:=b0.trans (hb.mono b0.size);clear hb
 go_wp2_with fail
 have hW:Below w6.heap.size w6 w6.drew:=(Below.refl _ _).drew;have aO:Nonempty (Lat w6):=⟨⟨w6,Below.refl _ _⟩⟩
 obtain⟨aF,aG⟩:=A0.lts2;obtain⟨aH,aI⟩:=X0.lts2;refine z0d (S:=fun w'=>∃u:Lat w6,w'=u.val) (by kernel_rfl) ?_;refine sgr [(0,2)] 3 (by kernel_rfl) ⟨⟨_,hW⟩,rfl⟩ ?_;simp only[pkE];repeat go_big_quiet_step (fail)
 refine wpQuiet_nil ?_;refine cla 2 (some 33) 9 #[.agg #[.slice a0 ag.length k0,.slice a1 af.length k1]] 2 (by kernel_rfl) ?_;refine(V.out _ (U.out _ (b0.trans (hW.mono b0.size))) hl).mono ?_;rintro e w9 ⟨q9,rfl,e9,o9,_,_,ad⟩;replace hW:=hW.trans (ad.mono hW.size);clear ad;refine⟨_,rfl,⟨⟨_,hW⟩,rfl⟩,?_⟩;simp only[Act.put,pjE];refine cla 3 (some 34) 12 #[.agg #[.slice M x.length O,.slice N d.length T],.agg #[q9.vo,q9.vm]] 1 (by kernel_rfl) ?_;refine(ax.out q9 e9 _ (cluK.rd_below (cluK.own_rd o3) hW) (cluK.own_rd o9)).mono ?_;rintro e w7 ⟨rfl,ad⟩;replace hW:=hW.trans (ad.mono hW.size);clear ad;refine⟨_,rfl,⟨⟨_,hW⟩,rfl⟩,?_⟩;simp only[Act.put,pjE];refine sgr [(4,1)] 0 (by kernel_rfl) ⟨⟨_,hW⟩,rfl⟩ ?_;simp only[pkE];repeat go_big_quiet_step (fail)
 refine wpQuiet_nil ?_;refine z0h (by kernel_rfl) ?_;clear aO aF aG aH aI e9 o9 ax;have aY:=hW.size;replace A0:=A0.below hW;replace S0:=S0.below hW;replace X0:=X0.below hW;replace Y0:=Y0.below hW;replace os:=ixK.own_out (F:=[]) os (Out.of_below hW) (fun _ _=>by simp);replace o3:=cluK.own_out (F:=[]) o3 (Out.of_below hW) (fun _ _=>by simp);replace oi:=ixK.own_out (F:=[]) oi (Out.of_below hW) (fun _ _=>by simp);replace b0:=b0.trans (hW.mono b0.size);clear hW;obtain⟨p0,p1⟩:=X0.cel2
 go_wp2_with fail
 clear p0 p1;have aM:=q0e (⟨.slice M x.length O,x,.slice N d.length T,d⟩:CluQ);refine(z3V (⟨.slice M x.length O,x,.slice N d.length T,d⟩:CluQ) 1 w7 o3 n3 ar (by omega) (by omega)).mono ?_;rintro e w8 ⟨rfl,_,hU⟩;have bi:=hU.size;have C:∀k,k∈cluK.foot (⟨.slice M x.length O,x,.slice N d.length T,d⟩:CluQ)→W3.heap.size≤k∧k<w4.heap.size:=u3;replace A0:=A0.outs12 hU (fun hk=>by have:=C _ hk;omega);replace S0:=S0.outs12 hU (fun hk=>by have:=C _ hk;omega);replace X0:=X0.outs12 hU (fun hk=>by have:=C _ hk;omega);replace Y0:=Y0.outs12 hU (fun hk=>by have:=C _ hk;omega);replace os:=ixK.own_out os hU (fun k hk ae=>by have:=C _ ae;have:=us k hk;omega);replace oi:=ixK.own_out oi hU (fun k hk ae=>by have:=C _ ae;have:=ui k hk;omega);replace b0:=Out.keep b0 hU b0.size (fun k hk=>by have:=C _ hk;omega);clear C hU;clear o3;generalize aJ:(nmClu (⟨.slice M x.length O,x,.slice N d.length T,d⟩:CluQ):Int)=M3 at*;have aV:0≤M3∧M3≤4194304:=by omega
 have aX:¬(1+M3<0):=by omega
 clear aM aJ;obtain⟨p0,p1,p2⟩:=Y0.cel3;obtain⟨r0,r1,r2⟩:=S0.cel3
 go_wp2_with fail
 clear p0 p1 p2;clear r0 r1 r2;refine(q27 D A (⟨.slice I y.length J,y⟩:IxQ) (⟨.slice X L.length Y,L⟩:IxQ) _ (ixK.own_rd oi) (ixK.own_rd os) (ei.trans es.symm) ak).mono ?_;rintro e w9 ⟨rfl,hb⟩;replace A0:=A0.below hb;replace S0:=S0.below hb;replace X0:=X0.below hb;replace Y0:=Y0.below hb;replace os:=ixK.own_out (F:=[]) os (Out.of_below hb) (fun _ _=>by simp);replace oi:=ixK.own_out (F:=[]) oi (Out.of_below hb) (fun _ _=>by simp);replace b0:=b0.trans (hb.mono b0.size);clear hb;obtain⟨p0,p1,p2⟩:=Y0.cel3
 go_wp2_with fail
 clear p0 p1 p2;have aN:=q5C (⟨.slice I y.length J,y⟩:IxQ);refine(q4d D A (⟨.slice I y.length J,y⟩:IxQ) 1 w9 oi ni ak (by omega) (by omega)).mono ?_;rintro e aa ⟨rfl,om,hU⟩;have C:∀k,k∈ixK.foot (⟨.slice I y.length J,y⟩:IxQ)→W4.heap.size≤k∧k<w5.heap.size:=ui;replace A0:=A0.outs12 hU (fun hk=>by have:=C _ hk;omega);replace S0:=S0.outs12 hU (fun hk=>by have:=C _ hk;omega);replace X0:=X0.outs12 hU (fun hk=>by have:=C _ hk;omega);replace Y0:=Y0.outs12 hU (fun hk=>by have:=C _ hk;omega);replace os:=ixK.own_out os hU (fun k hk ae=>by have:=C _ ae;have:=us k hk;omega);replace b0:=Out.keep b0 hU b0.size (fun k hk=>by have:=C _ hk;omega);clear C hU;clear oi;have rm:=ixK.own_rd om;clear om;have au:Hid (∀w',Below aa.heap.size aa w'→ixK.rd w' (q6L 1 (⟨.slice I y.length J,y⟩:IxQ))):=fun w' hb=>ixK.rd_below rm hb
 have z:Below aa.heap.size aa aa:=Below.refl _ _;have ap:=fun w h=>q4f D A (⟨.slice I y.length J,y⟩:IxQ) 1 w h ak (by omega) (by omega)
 generalize aK:(nmIx (⟨.slice I y.length J,y⟩:IxQ):Int)=Mi at*;have aW:0≤Mi∧Mi≤3145728:=by omega
 have bc:¬(1+Mi<0):=by omega
 have bb:((1+Mi) !=(1+Mi))=false:=by simp
 clear aN aK rm;obtain⟨p0,p1,p2⟩:=Y0.cel3
 go_wp2_with fail
 clear p0 p1 p2;refine(ap aa (au.out _ z)).mono ?_;rintro e bj ⟨rfl,hb⟩;replace z:=z.trans (hb.mono z.size);replace A0:=A0.below hb;replace S0:=S0.below hb;replace X0:=X0.below hb;replace Y0:=Y0.below hb;replace os:=ixK.own_out (F:=[]) os (Out.of_below hb) (fun _ _=>by simp);replace b0:=b0.trans (hb.mono b0.size);clear hb;obtain⟨p0,p1⟩:=A0.cel2
 go_wp2_with fail
 clear p0 p1;refine(V.out _ (U.out _ b0) hl).mono ?_;rintro e bk ⟨q5,rfl,e5,o5,_,_,hb⟩;replace z:=z.trans (hb.mono z.size);replace A0:=A0.below hb;replace S0:=S0.below hb;replace X0:=X0.below hb;replace Y0:=Y0.below hb;replace os:=ixK.own_out (F:=[]) os (Out.of_below hb) (fun _ _=>by simp);replace b0:=b0.trans (hb.mono b0.size);clear hb
 go_wp2_with fail
 refine(am.out q5 e5 _ (hG.below b0) (hT.below b0) o5 (by rw[ab.out q5 e5];exact hl)).mono ?_;rintro e ah ⟨qh,rfl,eh,oh,_,_,hb,aL⟩;replace z:=z.trans (hb.mono z.size);replace A0:=A0.below hb;replace S0:=S0.below hb;replace X0:=X0.below hb;replace Y0:=Y0.below hb;replace os:=ixK.own_out (F:=[]) os (Out.of_below hb) (fun _ _=>by simp);replace b0:=b0.trans (hb.mono b0.size);clear hb;clear o5 e5;obtain⟨vh,Z⟩:=qh;obtain⟨ai,aj,rfl⟩:∃a c,vh=.slice a Z.length c:=(ixK.own_rd oh).shape;have H0:=Blk.new ah 49 #[.int .i64 D,.int .i64 A,.slice ai Z.length aj];have hb:Below ah.heap.size ah (ah.alloc (.cells #[.int .i64 D,.int .i64 A,.slice ai Z.length aj] 49)):=by go_grown
 replace z:=z.trans (hb.mono z.size);replace A0:=A0.below hb;replace S0:=S0.below hb;replace X0:=X0.below hb;replace Y0:=Y0.below hb;replace os:=ixK.own_out (F:=[]) os (Out.of_below hb) (fun _ _=>by simp);replace oh:=ixK.own_out (F:=[]) oh (Out.of_below hb) (fun _ _=>by simp);replace b0:=b0.trans (hb.mono b0.size);clear hb;obtain⟨r0,r1,r2⟩:=S0.cel3
 go_wp2_with fail
 clear r0 r1 r2;generalize ah.alloc (.cells #[.int .i64 D,.int .i64 A,.slice ai Z.length aj] 49)=aZ at*;refine(q27 D A (⟨.slice ai Z.length aj,Z⟩:IxQ) (⟨.slice X L.length Y,L⟩:IxQ) _ (ixK.own_rd oh) (ixK.own_rd os) (eh.trans es.symm) aL).mono ?_;rintro e aU ⟨rfl,hb⟩;replace z:=z.trans (hb.mono z.size);replace A0:=A0.below hb;replace S0:=S0.below hb;replace X0:=X0.below hb;replace Y0:=Y0.below hb;replace os:=ixK.own_out (F:=[]) os (Out.of_below hb) (fun _ _=>by simp);replace oh:=ixK.own_out (F:=[]) oh (Out.of_below hb) (fun _ _=>by simp);replace b0:=b0.trans (hb.mono b0.size);clear hb;clear H0;obtain⟨p0,p1,p2⟩:=Y0.cel3
 go_wp2_with fail
 clear p0 p1 p2;refine(ap aU (au.out _ z)).mono ?_;rintro e bl ⟨rfl,hb⟩;replace b0:=b0.trans (hb.mono b0.size);clear hb ap au z S0 Y0 X0 A0 os oh
 go_wp2
 go_ret;exact⟨rfl,b0⟩
end Go.Proofs.YtgdedpgldhbfhaaGreatDoor
