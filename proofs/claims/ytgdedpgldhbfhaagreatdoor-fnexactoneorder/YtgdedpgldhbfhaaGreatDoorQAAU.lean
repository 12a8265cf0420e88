/- Texts joined,with what the laws reach alone. -/
import Derived.Test.YtgdedpgldhbfhaaGreatDoorQAAP
import Derived.Test.YtgdedpgldhbfhaaGreatDoorQAAQ
import Derived.Test.YtgdedpgldhbfhaaGreatDoorQAAT
set_option linter.unusedVariables false
set_option linter.unusedSimpArgs false
set_option maxRecDepth 100000
set_option maxHeartbeats 8000000
namespace Go.Proofs.YtgdedpgldhbfhaaGreatDoor
open Go.RowKit Go.BigFrame
theorem z8K(x:List ActD):sameAs x x=true:=by
 induction x with
 |nil=>rfl
 |cons a r ih=>simp[sameAs,z1Q,ih]
theorem z9F(x:TxnD):z1o x x=true:=by simp[z1o,z8K]
theorem z8L(x:List TxnD):sameTs x x=true:=by
 induction x with
 |nil=>rfl
 |cons a r ih=>simp[sameTs,z9F,ih]
theorem z8M(xs zs:List TxnD):preT xs (xs++zs)=true:=by
 unfold preT;rw[List.take_left,z8L,Bool.and_true];exact decide_eq_true (by simp)
theorem q0f{c:CluE}(h:cluF c=0){n m:NodeE}(hn:n∈c.mem)(hm:m∈c.mem):preT n.rep.done m.rep.done=true∨preT m.rep.done n.rep.done=true:=by
 obtain⟨_,_,ha⟩:=z0R h;have e1:=(z40 (ha n hn)).2.2.2.2;have e2:=(z40 (ha m hm)).2.2.2.2;rw[e1,e2];by_cases hk:n.kn.toNat≤m.kn.toNat
 ·left;obtain⟨zs,hz⟩:=z9A c.ord _ _ hk;rw[hz];exact z8M _ _
 ·right;obtain⟨zs,hz⟩:=z9A c.ord m.kn.toNat n.kn.toNat (by omega);rw[hz];exact z8M _ _
theorem q1b(v v':Value)(xs ys:List TxnQ)(w:World)(h:txnK.Own w v xs)(h':txnK.Own w v' ys)(hl:xs.length+nmL TxnQ.n xs≤1048576)(hl':ys.length+nmL TxnQ.n ys≤1048576)(hp:preT (xs.map TxnQ.e) (ys.map TxnQ.e)=true∨preT (ys.map TxnQ.e) (xs.map TxnQ.e)=true):
  Calls Tryz.prog 40 #[v,v'] w fun e w'=>e=.returned (.bool true)∧Below w.heap.size w w':=by
 have h1:=z2q v v' xs ys w h.at h' hl hl';have h2:=fun w h h'=>z2q v' v ys xs w h h' hl' hl
 have hr:=fun(w':World) (hb:Below w.heap.size w w')=>h.out (F:=[]) (w':=w') (Out.of_below hb) (fun _ _=>by simp)
 have hr':=fun(w':World) (hb:Below w.heap.size w w')=>h'.at.below hb
 obtain⟨a,cap,rfl⟩:=h.at.shape;obtain⟨a',cap',rfl⟩:=h'.at.shape
 cases hA:preT (xs.map TxnQ.e) (ys.map TxnQ.e)with
 |true=>
  rw[hA]at h1;clear hp h2 hA hr hr';go_enter Tryz.func40,Tryz.ntmps40
  go_wp2_with fail
  refine h1.mono ?_;rintro e w2 ⟨rfl,hb⟩;clear h1
  go_wp2
  go_ret;exact⟨rfl,hb⟩
 |false=>
  have hB:preT (ys.map TxnQ.e) (xs.map TxnQ.e)=true:=hp.resolve_left (by rw[hA];decide);rw[hA]at h1;rw[hB]at h2;clear hp hA hB;go_enter Tryz.func40,Tryz.ntmps40
  go_wp2_with fail
  refine h1.mono ?_;rintro e w2 ⟨rfl,hb⟩;have h3:=h2 w2 (hr' w2 hb) (hr w2 hb);clear h1 h2 hr hr'
  go_wp2_with fail
  refine h3.mono ?_;rintro e w3 ⟨rfl,hb3⟩;replace hb:=hb.trans (hb3.mono hb.size);clear h3 hb3
  go_wp2
  go_ret;exact⟨rfl,hb⟩
theorem z4O(p:CluQ)(w:World)(hG:Rul w)(hT:ErrT w)(h:cluK.own w p)(hl:p.n≤1048576):
  Calls Tryz.prog 14 #[.agg #[p.vo,p.vm]] w fun e w'=>e=.returned (.bool (cluF p.e==0))∧Below w.heap.size w w':=by
 have hf:=fun w hG hT h=>z1e p w hG hT h hl
 have an:=fun(w':World) (hb:Below w.heap.size w w')=>cluK.own_out (F:=[]) (w':=w') h (Out.of_below hb) (fun _ _=>by simp)
 have HL:Hid (cluF p.e=0→∀i j,(hi:i<p.mem.length)→(hj:j<p.mem.length)→preT (p.mem[i].done.map TxnQ.e) (p.mem[j].done.map TxnQ.e)=true∨preT (p.mem[j].done.map TxnQ.e) (p.mem[i].done.map TxnQ.e)=true):=fun h0 i j hi hj=>q0f (n:=NodeQ.e p.mem[i]) (m:=NodeQ.e p.mem[j]) h0 (List.mem_map_of_mem (List.getElem_mem hi)) (List.mem_map_of_mem (List.getElem_mem hj))
 have HM:Hid (cluF p.e=0→p.mem.length=3):=fun h0=>by have:=(z0R h0).2.1;simpa[CluQ.e]using this
 obtain⟨vo,I,vm,d⟩:=p;obtain⟨a0,k0,rfl⟩:∃a c,vo=.slice a I.length c:=h.1.shape;obtain⟨a1,k1,rfl⟩:∃a c,vm=.slice a d.length c:=h.2.shape;have am:d.length+nmL NodeQ.n d≤1048576:=by dsimp only[CluQ.n]at hl;omega
 clear hl;obtain⟨ho,hm⟩:instK.Own w (.slice a0 I.length k0) I∧nodeK.Own w (.slice a1 d.length k1) d:=h;obtain⟨aD,aE⟩:=z7o hm.1;dsimp only at hf an HL HM;generalize cluF _=D at*;have A0:=Blk.new w 33 #[.slice a0 I.length k0,.slice a1 d.length k1];have b0:Below w.heap.size w (w.alloc (.cells #[.slice a0 I.length k0,.slice a1 d.length k1] 33)):=by go_grown
 obtain⟨c0,c1⟩:=A0.cel2;go_enter Tryz.func14,Tryz.ntmps14
 go_wp2
 go_step3
 go_wp2_with fail
 clear c0 c1;generalize w.alloc (.cells #[.slice a0 I.length k0,.slice a1 d.length k1] 33)=W at*;refine(hf W (hG.below b0) (hT.below b0) (an W b0)).mono ?_;rintro e w1 ⟨rfl,hb⟩;replace A0:=A0.below hb;replace b0:=b0.trans (hb.mono b0.size);clear hb hf;by_cases hD:D=0
 case neg=>
  have ay:(D !=0)=true:=by simpa using hD
  have hE:(D==0)=false:=by simpa using hD
  go_wp2
  first|go_ret|(simp only[Exit.noGoto];go_ret)
  exact⟨by rw[hE];rfl,b0⟩
 have aq:Hid _:=HL.out hD;have ap:Hid _:=HM.out hD;subst hD;clear HL HM ho;have c1:=A0.cell 1 _ rfl
 go_wp2
 go_step3
 go_wp2
 clear c1;have h3:0<d.length:=by
  have:=ap.out;omega
 obtain⟨g,ao,rfl,_,_,_⟩:=hm.at.cell (by decide) 0 h3;go_loopw[3,14] (fun v i wr=>v=.bool true∧∃k:Nat,k≤d.length∧i=.int .i64 k∧Blk wr w.heap.size 33 #[.slice a0 I.length k0,.slice (some ⟨g,ao,none⟩) d.length k1]∧Below w.heap.size w wr) (fun _ i _=>d.length-(intOf i).toNat)
 case atStart=>exact⟨rfl,0,Nat.zero_le _,rfl,A0,b0⟩
 case round=>
  clear A0 b0;obtain⟨rfl,k,hk,rfl,A0,b0⟩:=hrel;by_cases X:k<d.length
  ·have y:=z01 (hm.at.below b0) k X;have oK:repK.own w d[k].r:=z2m hm k X;have nK:=z8E am k X;have HK:Hid (∀j,(hj:j<d.length)→preT (d[k].done.map TxnQ.e) (d[j].done.map TxnQ.e)=true∨preT (d[j].done.map TxnQ.e) (d[k].done.map TxnQ.e)=true):=fun j hj=>aq.out k j X hj
   have q0:=y 0 (.int .i64 d[k].kn) rfl;have q1:=y 1 (.int .i64 d[k].sf) rfl;have q2:=y 2 d[k].vd rfl;have q3:=y 3 d[k].vb rfl;have q4:=y 4 d[k].vt rfl;have q5:=y 5 d[k].vu rfl;have q6:=y 6 d[k].vn rfl;rw[Nat.add_zero]at q0;clear y;generalize d[k]=p at*;obtain⟨kn,sf,vd,done,vb,base,vt,J,vu,A,vn,M⟩:=p;obtain⟨x0,y0,rfl⟩:∃a c,vd=.slice a done.length c:=oK.1.shape;obtain⟨x1,y1,rfl⟩:∃a c,vb=.slice a base.length c:=oK.2.1.shape;obtain⟨x2,y2,rfl⟩:∃a c,vt=.slice a J.length c:=oK.2.2.1.shape;obtain⟨x3,y3,rfl⟩:∃a c,vu=.slice a A.length c:=oK.2.2.2.1.shape;obtain⟨x4,y4,rfl⟩:∃a c,vn=.slice a M.length c:=oK.2.2.2.2.shape;have dK:txnK.Own w (.slice x0 done.length y0) done:=oK.1;clear oK;dsimp only at q0 q1 q2 q3 q4 q5 q6 nK HK;have Y:Below wr.heap.size wr (wr.alloc (.cells #[.int .i64 kn,.int .i64 sf,.slice x0 done.length y0,.slice x1 base.length y1,.slice x2 J.length y2,.slice x3 A.length y3,.slice x4 M.length y4] 64)):=by go_grown
   have X0:=Blk.new wr 64 #[.int .i64 kn,.int .i64 sf,.slice x0 done.length y0,.slice x1 base.length y1,.slice x2 J.length y2,.slice x3 A.length y3,.slice x4 M.length y4];replace A0:=A0.below Y;have d1:=A0.cell 1 _ rfl;replace b0:=b0.trans (Y.mono b0.size);have al:(k:Int)<(d.length:Int):=by omega
   have aA:(0:Int)≤(k:Int):=by omega
   have aB:(k:Int)≤(k1:Int):=by omega
   have aC:k≤k1:=by omega
   go_wp2_with fail
   clear q0 q1 q2 q3 q4 q5 q6 d1 Y;generalize wr.alloc (.cells #[.int .i64 kn,.int .i64 sf,.slice x0 done.length y0,.slice x1 base.length y1,.slice x2 J.length y2,.slice x3 A.length y3,.slice x4 M.length y4] 64)=WR at*;generalize wr.heap.size=bx at*;go_loopw[3,24] (fun v i wr=>v=.bool true∧∃j:Nat,j≤k∧i=.int .i64 j∧Blk wr w.heap.size 33 #[.slice a0 I.length k0,.slice (some ⟨g,ao,none⟩) d.length k1]∧Blk wr bx 64 #[.int .i64 kn,.int .i64 sf,.slice x0 done.length y0,.slice x1 base.length y1,.slice x2 J.length y2,.slice x3 A.length y3,.slice x4 M.length y4]∧Below w.heap.size w wr) (fun _ i _=>k-(intOf i).toNat)
   case atStart=>exact⟨rfl,0,Nat.zero_le _,rfl,A0,X0,b0⟩
   case round=>
    clear A0 b0 X0;obtain⟨rfl,j,hj,rfl,A0,X0,b0⟩:=hrel;by_cases az:j<k
    ·have V:j<d.length:=by omega
     have y:=z01 (hm.at.below b0) j V;have oJ:repK.own w d[j].r:=z2m hm j V;have nJ:=z8E am j V;have hp:=HK.out j V;have r0:=y 0 (.int .i64 d[j].kn) rfl;have r1:=y 1 (.int .i64 d[j].sf) rfl;have r2:=y 2 d[j].vd rfl;have r3:=y 3 d[j].vb rfl;have r4:=y 4 d[j].vt rfl;have r5:=y 5 d[j].vu rfl;have r6:=y 6 d[j].vn rfl;rw[Nat.add_zero]at r0;clear y;generalize d[j]=pj at*;obtain⟨Z,aa,au,x,ar,C,aw,E,ax,z,av,L⟩:=pj;obtain⟨N,O,rfl⟩:∃a c,au=.slice a x.length c:=oJ.1.shape;obtain⟨ab,ag,rfl⟩:∃a c,ar=.slice a C.length c:=oJ.2.1.shape;obtain⟨ad,ah,rfl⟩:∃a c,aw=.slice a E.length c:=oJ.2.2.1.shape;obtain⟨ae,ai,rfl⟩:∃a c,ax=.slice a z.length c:=oJ.2.2.2.1.shape;obtain⟨af,aj,rfl⟩:∃a c,av=.slice a L.length c:=oJ.2.2.2.2.shape;have dJ:txnK.Own w (.slice N x.length O) x:=oJ.1;clear oJ;dsimp only at r0 r1 r2 r3 r4 r5 r6 nJ hp;have T:Below wr.heap.size wr (wr.alloc (.cells #[.int .i64 Z,.int .i64 aa,.slice N x.length O,.slice ab C.length ag,.slice ad E.length ah,.slice ae z.length ai,.slice af L.length aj] 64)):=by go_grown
     have Y0:=Blk.new wr 64 #[.int .i64 Z,.int .i64 aa,.slice N x.length O,.slice ab C.length ag,.slice ad E.length ah,.slice ae z.length ai,.slice af L.length aj];replace A0:=A0.below T;replace X0:=X0.below T;have e2:=X0.cell 2 _ rfl;have f2:=Y0.cell 2 _ rfl;replace b0:=b0.trans (T.mono b0.size);have ak:(j:Int)<(k:Int):=by omega
     go_wp2_with fail
     clear r0 r1 r2 r3 r4 r5 r6 e2 f2 T;generalize wr.alloc (.cells #[.int .i64 Z,.int .i64 aa,.slice N x.length O,.slice ab C.length ag,.slice ad E.length ah,.slice ae z.length ai,.slice af L.length aj] 64)=WX at*;refine(q1b (.slice x0 done.length y0) (.slice N x.length O) done x WX (dK.out (F:=[]) (Out.of_below b0) (fun _ _=>by simp)) (dJ.out (F:=[]) (Out.of_below b0) (fun _ _=>by simp)) nK nJ hp).mono ?_;rintro e w9 ⟨rfl,U⟩;replace A0:=A0.below U;replace X0:=X0.below U;replace b0:=b0.trans (U.mono b0.size);clear U hp dJ nJ Y0
     go_wp2
     go_roundw
     case rel=>exact⟨rfl,j+1,by omega,by go_num,A0,X0,b0⟩
     case measure=>simp[intOf];omega
    ·have ak:¬(j:Int)<(k:Int):=by omega
     clear HK
     go_wp2
     go_roundw
     case rel=>exact⟨rfl,k+1,by omega,by go_num,A0,b0⟩
     case measure=>simp[intOf];omega
  ·have al:¬(k:Int)<(d.length:Int):=by omega
   go_wp2
   first|go_ret|(simp only[Exit.noGoto];go_ret)
   exact⟨rfl,b0⟩
theorem z4P(p:CluQ)(w:World)(h:cluK.own w p)(hl:p.n≤1048576):
  Calls Tryz.prog 13 #[.agg #[p.vo,p.vm]] w fun e w'=>e=.returned (.bool (cluF p.e==0))∧Below w.heap.size w w':=by
 have hf:=fun b w hB h=>z1W b p w hB h hl
 have E:=fun(w':World) (hb:Below w.heap.size w w')=>cluK.own_out (F:=[]) (w':=w') h (Out.of_below hb) (fun _ _=>by simp)
 have HL:Hid (cluF p.e=0→∀i j,(hi:i<p.mem.length)→(hj:j<p.mem.length)→preT (p.mem[i].done.map TxnQ.e) (p.mem[j].done.map TxnQ.e)=true∨preT (p.mem[j].done.map TxnQ.e) (p.mem[i].done.map TxnQ.e)=true):=fun h0 i j hi hj=>q0f (n:=NodeQ.e p.mem[i]) (m:=NodeQ.e p.mem[j]) h0 (List.mem_map_of_mem (List.getElem_mem hi)) (List.mem_map_of_mem (List.getElem_mem hj))
 have HM:Hid (cluF p.e=0→p.mem.length=3):=fun h0=>by have:=(z0R h0).2.1;simpa[CluQ.e]using this
 obtain⟨vo,x,vm,d⟩:=p;obtain⟨a0,k0,rfl⟩:∃a c,vo=.slice a x.length c:=h.1.shape;obtain⟨a1,k1,rfl⟩:∃a c,vm=.slice a d.length c:=h.2.shape;have L:d.length+nmL NodeQ.n d≤1048576:=by dsimp only[CluQ.n]at hl;omega
 clear hl;obtain⟨ho,hm⟩:instK.Own w (.slice a0 x.length k0) x∧nodeK.Own w (.slice a1 d.length k1) d:=h;dsimp only at hf E HL HM;generalize cluF _=D at*;have A0:=Blk.new w 33 #[.slice a0 x.length k0,.slice a1 d.length k1];have b0:Below w.heap.size w (w.alloc (.cells #[.slice a0 x.length k0,.slice a1 d.length k1] 33)):=by go_grown
 go_enter Tryz.func13,Tryz.ntmps13
 go_wp2_with fail
 generalize w.alloc (.cells #[.slice a0 x.length k0,.slice a1 d.length k1] 33)=W at*;refine(hf _ W A0 (E W b0)).mono ?_;rintro e w1 ⟨rfl,hb⟩;replace A0:=A0.below hb;replace b0:=b0.trans (hb.mono b0.size);clear hb hf E;by_cases hD:D=0
 case neg=>
  have U:(D !=0)=true:=by simpa using hD
  have hE:(D==0)=false:=by simpa using hD
  go_wp2
  go_ret;exact⟨by rw[hE];rfl,b0⟩
 have O:Hid _:=HL.out hD;have N:Hid _:=HM.out hD;subst hD;clear HL HM ho;have h3:0<d.length:=by
  have:=N.out;omega
 obtain⟨g,M,rfl,_,_,_⟩:=hm.at.cell (by decide) 0 h3
 go_wp2
 go_loopw[3] (fun i wr=>∃k:Nat,k≤d.length∧i=.int .i64 k∧Blk wr w.heap.size 33 #[.slice a0 x.length k0,.slice (some ⟨g,M,none⟩) d.length k1]∧Below w.heap.size w wr) (fun i _=>d.length-(intOf i).toNat)
 case atStart=>exact⟨0,Nat.zero_le _,rfl,A0,b0⟩
 case round=>
  clear A0 b0;obtain⟨k,hk,rfl,A0,b0⟩:=hrel;have c1:=A0.cell 1 _ rfl;by_cases A:k<d.length
  ·have J:(k:Int)<(d.length:Int):=by omega
   go_wp2
   clear c1;go_loopw[4] (fun i wr=>∃j:Nat,j≤k∧i=.int .i64 j∧Blk wr w.heap.size 33 #[.slice a0 x.length k0,.slice (some ⟨g,M,none⟩) d.length k1]∧Below w.heap.size w wr) (fun i _=>k-(intOf i).toNat)
   case atStart=>exact⟨0,Nat.zero_le _,rfl,A0,b0⟩
   case round=>
    clear A0 b0;obtain⟨j,hj,rfl,A0,b0⟩:=hrel;by_cases V:j<k
    ·have z:j<d.length:=by omega
     have q2:=z01 (hm.at.below b0) k A 2 d[k].vd rfl;have r2:=z01 (hm.at.below b0) j z 2 d[j].vd rfl;have dK:txnK.Own w d[k].vd d[k].done:=(z2m hm k A).1;have dJ:txnK.Own w d[j].vd d[j].done:=(z2m hm j z).1;have nK:=z8E L k A;have nJ:=z8E L j z;have hp:=O.out k j A z;have c1:=A0.cell 1 _ rfl;have I:(j:Int)<(k:Int):=by omega
     have T:(j:Int)<(d.length:Int):=by omega
     generalize d[k].vd=vk at*;generalize d[j].vd=vj at*;generalize d[k].done=dk at*;generalize d[j].done=dj at*;obtain⟨x0,y0,rfl⟩:∃a c,vk=.slice a dk.length c:=dK.at.shape;obtain⟨x1,y1,rfl⟩:∃a c,vj=.slice a dj.length c:=dJ.at.shape;have h1:=z4H _ _ dk dj wr (dK.at.below b0) (dJ.out (F:=[]) (Out.of_below b0) (fun _ _=>by simp)) nK nJ
     cases hA:preT (dk.map TxnQ.e) (dj.map TxnQ.e)with
     |true=>
      rw[hA]at h1;clear hp hA
      go_wp2_with fail
      refine h1.mono ?_;rintro e w9 ⟨rfl,y⟩;replace A0:=A0.below y;replace b0:=b0.trans (y.mono b0.size);clear y h1 q2 r2 c1
      go_wp2
      go_roundw
      case rel=>exact⟨j+1,by omega,by go_num,A0,b0⟩
      case measure=>simp[intOf];omega
     |false=>
      have hB:=hp.resolve_left (by rw[hA];decide);rw[hA]at h1;clear hp hA
      go_wp2_with fail
      refine h1.mono ?_;rintro e w9 ⟨rfl,y⟩;replace A0:=A0.below y;replace b0:=b0.trans (y.mono b0.size);have h2:=z4H _ _ dj dk w9 (dJ.at.below b0) (dK.out (F:=[]) (Out.of_below b0) (fun _ _=>by simp)) nJ nK;rw[hB]at h2;clear y h1 q2 r2 c1 hB
      go_wp2_with fail
      refine h2.mono ?_;rintro e w8 ⟨rfl,C⟩;replace A0:=A0.below C;replace b0:=b0.trans (C.mono b0.size);clear C h2
      go_wp2
      go_roundw
      case rel=>exact⟨j+1,by omega,by go_num,A0,b0⟩
      case measure=>simp[intOf];omega
    ·have I:¬(j:Int)<(k:Int):=by omega
     go_wp2
     go_roundw
     case rel=>exact⟨k+1,by omega,by go_num,A0,b0⟩
     case measure=>simp[intOf];omega
  ·have J:¬(k:Int)<(d.length:Int):=by omega
   go_wp2
   go_ret;exact⟨rfl,b0⟩
theorem z6o(p:CluQ)(x:CluE)(hx:p.e=x)(w:World)(h:cluK.own w p)(hl:p.n≤1048576):
  Calls Tryz.prog 13 #[.agg #[p.vo,p.vm]] w fun e w'=>e=.returned (.bool (cluF x==0))∧Below w.heap.size w w':=by
 subst hx;exact z4P p w h hl
theorem z6p(p:CluQ)(x:CluE)(hx:p.e=x)(w:World)(hG:Rul w)(hT:ErrT w)(h:cluK.own w p)(hl:p.n≤1048576):
  Calls Tryz.prog 14 #[.agg #[p.vo,p.vm]] w fun e w'=>e=.returned (.bool (cluF x==0))∧Below w.heap.size w w':=by
 subst hx;exact z4O p w hG hT h hl
theorem q5y(p:CluQ)(w:World)(hG:Rul w)(hT:ErrT w)(hp:cluK.rd w p)(hw:p.wf):
  Calls Tryz.prog 4 #[.agg #[p.vo,p.vm]] w fun e w'=>e=.returned (.bool true)∧Below w.heap.size w w':=by
 have X:=fun w h=>z2d p 1048576 w h hw (by omega) (by omega)
 have Y:=fun w h hl=>z2f p w h hl
 have ai:=fun a (ha:CluQ.e a=p.e) w h hl=>z6o a _ ha w h hl
 have ae:=fun a (ha:CluQ.e a=p.e) w hG hT h hl=>z6p a _ ha w hG hT h hl
 have ah:∀a:CluQ,a.e=p.e→a.n=p.n:=fun q hq=>q30 hq
 have ad:=fun(a b:CluQ) (ha:a.e=p.e) (hb:b.e=p.e) w h h' hl=>z2e a b w h h' (ha.trans hb.symm) hl
 have L:=fun(w':World) hb=>cluK.rd_below (w':=w') hp hb
 generalize (cluF p.e==0)=D at*;generalize aq:p.e=pe at*;generalize ar:p.n=pn at*;obtain⟨vo,E,vm,C⟩:=p;obtain⟨a0,k0,rfl⟩:∃a c,vo=.slice a E.length c:=hp.1.shape;obtain⟨a1,k1,rfl⟩:∃a c,vm=.slice a C.length c:=hp.2.shape;dsimp only at X Y L;have b0:Below w.heap.size w (w.alloc (.cells #[.slice a0 E.length k0,.slice a1 C.length k1] 25)):=by go_grown
 have A0:=Blk.new w 25 #[.slice a0 E.length k0,.slice a1 C.length k1];obtain⟨p0,p1⟩:=A0.cel2;go_enter Tryz.func4,Tryz.ntmps4
 go_wp2_with fail
 clear p0 p1;generalize w.alloc (.cells #[.slice a0 E.length k0,.slice a1 C.length k1] 25)=W at*;refine(X W (L W b0)).mono ?_;rintro e w1 ⟨r,rfl,hr,hb⟩;replace A0:=A0.below hb;replace b0:=b0.trans (hb.mono b0.size);clear hb;clear X;by_cases ag:r<0
 ·go_wp2
  go_ret;exact⟨rfl,b0⟩
 have hl:((pn:Nat):Int)+r=1048576:=hr (by omega);clear hr;replace hl:pn≤1048576:=by omega
 have z:Hid _:=Y;clear Y;have T:Hid _:=ai;clear ai;have ab:Hid _:=ae;clear ae;have O:Hid _:=ah;clear ah;have aa:Hid _:=ad;clear ad;have y:Hid _:=L;clear L;clear aq ar;obtain⟨p0,p1⟩:=A0.cel2
 go_wp2_with fail
 clear p0 p1 ag;refine(z.out _ (y.out _ b0) hl).mono ?_;rintro e w2 ⟨q1,rfl,e1,o1,_,_,hb⟩;replace A0:=A0.below hb;replace b0:=b0.trans (hb.mono b0.size);clear hb
 go_wp2_with fail
 refine(T.out q1 e1 _ o1 (by rw[O.out q1 e1];exact hl)).mono ?_;rintro e w3 ⟨rfl,hb⟩;replace A0:=A0.below hb;replace b0:=b0.trans (hb.mono b0.size);clear hb o1 e1 T;obtain⟨p0,p1⟩:=A0.cel2
 go_wp2_with fail
 clear p0 p1;refine(z.out _ (y.out _ b0) hl).mono ?_;rintro e w4 ⟨q3,rfl,e3,o3,_,_,hb⟩;replace A0:=A0.below hb;replace b0:=b0.trans (hb.mono b0.size);clear hb;have af:CluQ.n q3≤1048576:=by rw[O.out q3 e3];exact hl
 have V:=fun w hG hT h=>ab.out q3 e3 w hG hT h af
 have U:=fun q' au w h h'=>aa.out q3 q' e3 au w h h' af
 obtain⟨aw,x,av,d⟩:=q3;obtain⟨I,M,rfl⟩:∃a c,aw=.slice a x.length c:=o3.1.shape;obtain⟨J,N,rfl⟩:∃a c,av=.slice a d.length c:=o3.2.shape;dsimp only at V U;have Z:Hid _:=V;have aj:Hid _:=U;clear V U;have X0:=Blk.new w4 33 #[.slice I x.length M,.slice J d.length N];have hb:Below w4.heap.size w4 (w4.alloc (.cells #[.slice I x.length M,.slice J d.length N] 33)):=by go_grown
 replace A0:=A0.below hb;replace o3:=cluK.own_out (F:=[]) o3 (Out.of_below hb) (fun _ _=>by simp);replace b0:=b0.trans (hb.mono b0.size);clear hb;obtain⟨p0,p1⟩:=X0.cel2
 go_wp2_with fail
 clear p0 p1;generalize w4.alloc (.cells #[.slice I x.length M,.slice J d.length N] 33)=W4 at*;refine(Z.out W4 (hG.below b0) (hT.below b0) o3).mono ?_;rintro e w5 ⟨rfl,hb⟩;replace A0:=A0.below hb;replace X0:=X0.below hb;replace o3:=cluK.own_out (F:=[]) o3 (Out.of_below hb) (fun _ _=>by simp);replace b0:=b0.trans (hb.mono b0.size);clear hb;clear Z;have ao:(D !=D)=false:=by simp
 go_wp2_with fail
 clear ao;have hW:Below w5.heap.size w5 w5.drew:=(Below.refl _ _).drew;have ap:Nonempty (Lat w5):=⟨⟨w5,Below.refl _ _⟩⟩
 obtain⟨ak,al⟩:=A0.lts2;obtain⟨am,an⟩:=X0.lts2;refine z0d (S:=fun w'=>∃u:Lat w5,w'=u.val) (by kernel_rfl) ?_;refine sgr [(0,2)] 3 (by kernel_rfl) ⟨⟨_,hW⟩,rfl⟩ ?_;simp only[pkE];repeat go_big_quiet_step (fail)
 refine wpQuiet_nil ?_;refine cla 2 (some 24) 9 #[.agg #[.slice a0 E.length k0,.slice a1 C.length k1]] 2 (by kernel_rfl) ?_;refine(z.out _ (y.out _ (b0.trans (hW.mono b0.size))) hl).mono ?_;rintro e w9 ⟨q9,rfl,e9,o9,_,_,A⟩;replace hW:=hW.trans (A.mono hW.size);clear A;refine⟨_,rfl,⟨⟨_,hW⟩,rfl⟩,?_⟩;simp only[Act.put,pjE];refine cla 3 (some 25) 12 #[.agg #[.slice I x.length M,.slice J d.length N],.agg #[q9.vo,q9.vm]] 1 (by kernel_rfl) ?_;refine(aj.out q9 e9 _ (cluK.rd_below (cluK.own_rd o3) hW) (cluK.own_rd o9)).mono ?_;rintro e w9 ⟨rfl,A⟩;replace hW:=hW.trans (A.mono hW.size);clear A;refine⟨_,rfl,⟨⟨_,hW⟩,rfl⟩,?_⟩;simp only[Act.put,pjE];refine sgr [(4,1)] 0 (by kernel_rfl) ⟨⟨_,hW⟩,rfl⟩ ?_;simp only[pkE];repeat go_big_quiet_step (fail)
 refine wpQuiet_nil ?_;refine z0h (by kernel_rfl) ?_;clear ap ak al am an;replace b0:=b0.trans (hW.mono b0.size);clear o9 e9 o3 A0 X0 hW
 go_wp2
 go_ret;exact⟨rfl,b0⟩
end Go.Proofs.YtgdedpgldhbfhaaGreatDoor
