import Derived.Test.YtjjoahhnkpjolaaGreatDoorONBA
set_option linter.unusedVariables false
set_option linter.unusedSimpArgs false
set_option maxRecDepth 100000
set_option maxHeartbeats 4000000
namespace Go.Proofs.YtjjoahhnkpjolaaGreatDoor
open Go.RowKit Go.BigFrame
open Or renaming inr->f
open List renaming mem_singleton->n
open Out renaming of_below->Va,setCell->Vb
open IntKind renaming i64->K
open Value renaming int->P,slice->l
open Go.Proofs.Tryz
structure DeedQ where
 i:Int
 s:Int
 q:Int
 va:Value
 acts:List ActD
 code:Int
 val:Int
 lv:Value
 us:List UndoD
def z55(w0:World):Kind DeedQ where
 ty:=298
 size:=6
 cells p:=[P K p.i,P K p.s,P K p.q,p.va,P K p.code,P K p.val]
 own _ p:=actK.At w0 p.va p.acts
 rd _ p:=actK.At w0 p.va p.acts
 foot _:=[]
 len _:=rfl
 own_rd h:=h
 own_out h _ _:=h
 own_lt _ k hk:=by simp at hk
 rd_below h _:=h
def z4Y(w0:World):Kind DeedQ where
 ty:=258
 size:=7
 cells p:=[P K p.i,P K p.s,P K p.q,p.va,P K p.code,P K p.val,p.lv]
 own w p:=actK.At w0 p.va p.acts∧undoK.Own w p.lv p.us
 rd w p:=actK.At w0 p.va p.acts∧undoK.At w p.lv p.us
 foot p:=undoK.fp p.lv p.us
 len _:=rfl
 own_rd h:=⟨h.1,h.2.at⟩
 own_out h ho hd:=⟨h.1,h.2.out ho hd⟩
 own_lt h:=h.2.lt
 rd_below h hb:=⟨h.1,h.2.below hb⟩
theorem q3c:(Tryz.prog.info? 298).map (fun i=>(i.zero,i.size,i.bytes))=some (some (.agg #[P K 0,P K 0,P K 0,l none 0 0,P K 0,P K 0]),6,72):=by kernel_rfl
theorem q3d:(Tryz.prog.info? 258).map (fun i=>(i.zero,i.size,i.bytes))=some (some (.agg #[P K 0,P K 0,P K 0,l none 0 0,P K 0,P K 0,l none 0 0]),7,88):=by kernel_rfl
theorem q4e(rb:Nat)(d0 i0:Value)(r2 r3:Value)(m:Nat)(xs:List Value)(i s q:Int)(va:Value)(c d:Int)(vu:Value)(ia:Option Addr)(il ic:Nat)(w:World)(B:Blk w rb 149 #[d0,i0,r2,r3])(ho:w.ownsRow 0 298 6 d0 m xs)(M:rb∉blk d0)(hm:m≤100)(ao:va.oneCell'=true):
  Calls Tryz.prog 174 #[.pointer (some ⟨rb,0,none⟩),.agg #[P K i,P K s,P K q,va],.agg #[P K c,P K d,vu,l ia il ic],.agg #[]] w fun e w'=>e=.returned (.tuple #[])∧∃d1,Blk w' rb 149 #[d1,(if c=0 then l ia il ic else i0),r2,r3]∧w'.ownsRow 0 298 6 d1 (m+1) (xs++[P K i,P K s,P K q,va,P K c,P K d])∧(d1.ownBlock=d0.ownBlock∨∃g,d1.ownBlock=some g∧w.heap.size≤g)∧Out (rb::blk d0) w w':=by
 obtain⟨sa,sc,rfl⟩:=z0f ho;obtain⟨it,hi,aq,ar,au⟩:=info_parts q3c;have aw:=B.lt;have Z:∀k∈blk (Value.slice sa m sc),k<w.heap.size:=fun k hk=>(ho.lt k (by simpa[blk]using hk)).2
 have E:Below w.heap.size w (((w.alloc (.cells #[P K i,P K s,P K q,va] 158)).alloc (.cells #[P K c,P K d,vu,l ia il ic] 251)).alloc (.cells #[] 249)):=by go_grown
 have Bt:=(Blk.new w 158 #[P K i,P K s,P K q,va]).below (w':=(((w.alloc (.cells #[P K i,P K s,P K q,va] 158)).alloc (.cells #[P K c,P K d,vu,l ia il ic] 251)).alloc (.cells #[] 249))) (by go_grown);have Bn:=(Blk.new (w.alloc (.cells #[P K i,P K s,P K q,va] 158)) 251 #[P K c,P K d,vu,l ia il ic]).below (w':=(((w.alloc (.cells #[P K i,P K s,P K q,va] 158)).alloc (.cells #[P K c,P K d,vu,l ia il ic] 251)).alloc (.cells #[] 249))) (by go_grown);simp only[World.size_alloc]at Bn;have ad:w.heap.size+1<(((w.alloc (.cells #[P K i,P K s,P K q,va] 158)).alloc (.cells #[P K c,P K d,vu,l ia il ic] 251)).alloc (.cells #[] 249)).heap.size:=by simp only[World.size_alloc];omega
 replace B:=B.below E;replace ho:=z0c ho E;have V:Out (rb::blk (l sa m sc)) w (((w.alloc (.cells #[P K i,P K s,P K q,va] 158)).alloc (.cells #[P K c,P K d,vu,l ia il ic] 251)).alloc (.cells #[] 249)):=Va E;have O:Hid (∀k∈blk (Value.slice sa m sc),k≠w.heap.size∧k≠w.heap.size+1):=fun k hk=>by
  have:=Z k hk;exact⟨by omega,by omega⟩
 go_enter func174,ntmps174
 go_wp2_with fail
 generalize (((w.alloc (.cells #[P K i,P K s,P K q,va] 158)).alloc (.cells #[P K c,P K d,vu,l ia il ic] 251)).alloc (.cells #[] 249))=W at*;generalize hH:w.heap.size=H at*;have J:Blk W rb 149 #[l sa m sc,i0,r2,r3]∧Blk W H 158 #[P K i,P K s,P K q,va]∧Blk W (H+1) 251 #[P K c,P K d,vu,l ia il ic]:=⟨B,Bt,Bn⟩
 generalize hP:(fun u:World=>Blk u rb 149 #[l sa m sc,i0,r2,r3]∧Blk u H 158 #[P K i,P K s,P K q,va]∧Blk u (H+1) 251 #[P K c,P K d,vu,l ia il ic])=PP;have T:PP W:=by subst hP;exact J
 have ae:∀u:KeepP PP,u.val.cell? ⟨rb,0,none⟩=some (l sa m sc):=fun u=>by have:=u.isP;subst hP;exact this.1.cell 0 _ rfl
 have ah:∀u:KeepP PP,u.val.cell? ⟨H,0,none⟩=some (P K i):=fun u=>by have:=u.isP;subst hP;exact this.2.1.cell 0 _ rfl
 have ai:∀u:KeepP PP,u.val.cell? ⟨H,1,none⟩=some (P K s):=fun u=>by have:=u.isP;subst hP;exact this.2.1.cell 1 _ rfl
 have aj:∀u:KeepP PP,u.val.cell? ⟨H,2,none⟩=some (P K q):=fun u=>by have:=u.isP;subst hP;exact this.2.1.cell 2 _ rfl
 have ak:∀u:KeepP PP,u.val.cell? ⟨H,3,none⟩=some va:=fun u=>by have:=u.isP;subst hP;exact this.2.1.cell 3 _ rfl
 have af:∀u:KeepP PP,u.val.cell? ⟨H+1,0,none⟩=some (P K c):=fun u=>by have:=u.isP;subst hP;exact this.2.2.cell 0 _ rfl
 have ag:∀u:KeepP PP,u.val.cell? ⟨H+1,1,none⟩=some (P K d):=fun u=>by have:=u.isP;subst hP;exact this.2.2.cell 1 _ rfl
 have am:Nonempty (KeepP PP):=⟨⟨W,T⟩⟩
 refine z3X (S:=fun w'=>∃u:KeepP PP,w'=u.val) (R:=fun _ _=>False) 16 (by kernel_rfl) (fun _ _ _ _ h=>h.elim) ?_;have U:PP W.drew:=by subst hP;exact J
 refine sgX [(0,12)] 5 (by kernel_rfl) ⟨⟨W.drew,U⟩,rfl⟩ ?_;simp only[pkE];repeat go_big_quiet_step (fail)
 refine wpQuiet_nil ?_;generalize hz:Array.foldl _ _ _ _ _=cz;have ap:cz=#[P K i,P K s,P K q,va,P K c,P K d]:=by rw[←hz];rfl
 subst ap;clear hz;clear ae ah ai aj ak af ag am T;replace B:Blk W.drew rb 149 #[l sa m sc,i0,r2,r3]:=B;replace Bt:Blk W.drew H 158 #[P K i,P K s,P K q,va]:=Bt;replace Bn:Blk W.drew (H+1) 251 #[P K c,P K d,vu,l ia il ic]:=Bn;replace ho:=ho.drew;have y:Out (rb::blk (l sa m sc)) w W.drew:=V.trans (Va (Below.refl _ _).drew);replace ad:H+1<W.drew.heap.size:=ad;clear U V E J;generalize W.drew=wd at*;refine onX 12 4 rfl (by kernel_rfl) ?_;have x:Below wd.heap.size wd (wd.alloc (.cells #[P K i,P K s,P K q,va,P K c,P K d] 298)):=by go_grown
 go_wp2
 have I:∀j u,[Value.int .i64 i,P K s,P K q,va,P K c,P K d][j]?=some u→(wd.alloc (.cells #[P K i,P K s,P K q,va,P K c,P K d] 298)).cell? ((⟨wd.heap.size,0,none⟩:Addr).add j)=some u:=by
  intro j u hj;match j,hj with|0,hj=>simp at hj;subst hj;simp[Addr.add]|1,hj=>simp at hj;subst hj;simp[Addr.add]|2,hj=>simp at hj;subst hj;simp[Addr.add]|3,hj=>simp at hj;subst hj;simp[Addr.add]|4,hj=>simp at hj;subst hj;simp[Addr.add]|5,hj=>simp at hj;subst hj;simp[Addr.add]
 replace B:=B.below x;replace Bt:=Bt.below x;replace Bn:=Bn.below x;replace ho:=z0c ho x;replace y:=y.trans (Va (F:=rb::blk (l sa m sc)) x);have ax:=x.size;refine ThenX.to ⟨f ⟨⟨_,by subst hP;exact⟨B,Bt,Bn⟩⟩,rfl⟩,?_⟩;generalize wd.alloc (.cells #[P K i,P K s,P K q,va,P K c,P K d] 298)=wb at*;refine onX 13 3 rfl (by kernel_rfl) ?_;refine wpList_append_own_at _ rfl _ _ 142 rfl 0 298 it (.agg #[P K 0,P K 0,P K 0,l none 0 0,P K 0,P K 0]) 6 72 Tryz.underlying142 hi aq ar au rfl (by decide) _ m xs rfl ho ⟨wd.heap.size,0,none⟩ 1 1 [P K i,P K s,P K q,va,P K c,P K d] rfl rfl I ?c2 ?c3 ?c4 ?c5 ?_
 case c2=>intro u hu;simp at hu;rcases hu with rfl|rfl|rfl|rfl|rfl|rfl<;>first|rfl|exact ao
 case c3=>unfold maxLen;omega
 case c4=>omega
 case c5=>omega
 intro v' wc D A _ Y;obtain⟨a2,c2,rfl⟩:=z0f D;have z:Out (blk (l sa m sc)) wb wc:=Out.of_grown A;have C:∀k∈blk (Value.slice sa m sc),k≠H∧k≠H+1∧k≠rb:=fun k hk=>⟨(O.out k hk).1,(O.out k hk).2,fun e=>M (e▸hk)⟩
 replace B:=B.outs8 z (fun hk=>(C _ hk).2.2 rfl);replace Bt:=Bt.outs8 z (fun hk=>(C _ hk).1 rfl);replace Bn:=Bn.outs8 z (fun hk=>(C _ hk).2.1 rfl);replace y:=y.trans (z.mono (fun k hk=>List.mem_cons_of_mem _ hk))
 go_wp2
 refine ThenX.to ⟨f ⟨⟨_,by subst hP;exact⟨B,Bt,Bn⟩⟩,rfl⟩,?_⟩;have L:(Value.slice a2 (m+1) c2).ownBlock=(Value.slice sa m sc).ownBlock∨∃g,(Value.slice a2 (m+1) c2).ownBlock=some g∧H≤g:=by
  rcases Y with h|h
  ·exact Or.inl h
  ·exact f ⟨_,h,by omega⟩
 have ab:rb∉blk (Value.slice a2 (m+1) c2):=by
  intro hk;unfold blk at hk M;rcases L with h|⟨g,h,hg⟩
  ·rw[h]at hk;exact M hk
  ·rw[h]at hk;simp only[Option.toList,n]at hk;omega
 clear Y A I x ho z;refine onX 14 2 rfl (by kernel_rfl) ?_
 go_wp2
 refine ThenX.to ⟨f ⟨⟨_,by subst hP;exact⟨B,Bt,Bn⟩⟩,rfl⟩,?_⟩;refine onX 15 1 rfl (by kernel_rfl) ?_
 go_wp2
 refine ThenX.to ⟨f ⟨⟨_,by subst hP;exact⟨B,Bt,Bn⟩⟩,rfl⟩,?_⟩;refine onX 16 0 rfl (by kernel_rfl) ?_;have k1:=B.cell 0 _ rfl;have k2:=B.frozen 0
 go_wp2
 clear k1 k2;refine ThenX.to ⟨Or.inl (by kernel_rfl),?_⟩;refine q31 (by kernel_rfl) ?_;have B1:Blk (wc.setCell ⟨rb,0,none⟩ (l a2 (m+1) c2)) rb 149 #[l a2 (m+1) c2,i0,r2,r3]:=by
  have:=B.set 0 (l a2 (m+1) c2);simpa using this
 have N:=Bn.other (b':=rb) (by omega) 0 (l a2 (m+1) c2);have aa:=z0X D (Vb wc rb 0 (l a2 (m+1) c2)) (fun k hk e=>by simp only[n]at e;subst e;exact ab hk);have X:=y.trans ((Vb wc rb 0 (l a2 (m+1) c2)).mono (G:=rb::blk (l sa m sc)) (fun k hk=>by simp only[n]at hk;subst hk;simp));generalize wc.setCell ⟨rb,0,none⟩ (l a2 (m+1) c2)=we at*;clear B Bn Bt D y;have n0:=N.cell 0 _ rfl;have n3:=N.cell 3 _ rfl;by_cases hc:c=0
 ·subst hc;have k1:=B1.cell 1 _ rfl;have k2:=B1.frozen 1;have B2:Blk (we.setCell ⟨rb,1,none⟩ (l ia il ic)) rb 149 #[l a2 (m+1) c2,l ia il ic,r2,r3]:=by
   have:=B1.set 1 (l ia il ic);simpa using this
  have an:=z0X aa (Vb we rb 1 (l ia il ic)) (fun k hk e=>by simp only[n]at e;subst e;exact ab hk);have al:=X.trans ((Vb we rb 1 (l ia il ic)).mono (G:=rb::blk (l sa m sc)) (fun k hk=>by simp only[n]at hk;subst hk;simp))
  go_wp2
  go_end0
  exact⟨rfl,_,B2,an,L,al⟩
 ·have av:(c==0)=false:=by simpa using hc
  go_wp2
  go_end0
  try rw[if_neg hc]
  exact⟨rfl,_,B1,aa,L,X⟩
theorem q4f(rb:Nat)(d0 i0:Value)(r0 r1:Value)(m:Nat)(xs:List Value)(i s q:Int)(va:Value)(c d:Int)(vu:Value)(ia:Option Addr)(il ic:Nat)(la:Option Addr)(ln lc:Nat)(w:World)(B:Blk w rb 149 #[r0,r1,d0,i0])(ho:w.ownsRow 0 258 7 d0 m xs)(M:rb∉blk d0)(hm:m≤100)(ao:va.oneCell'=true):
  Calls Tryz.prog 176 #[.pointer (some ⟨rb,2,none⟩),.agg #[P K i,P K s,P K q,va],.agg #[P K c,P K d,vu,l ia il ic],l la ln lc] w fun e w'=>e=.returned (.tuple #[])∧∃d1,Blk w' rb 149 #[r0,r1,d1,(if c=0 then l ia il ic else i0)]∧w'.ownsRow 0 258 7 d1 (m+1) (xs++[P K i,P K s,P K q,va,P K c,P K d,l la ln lc])∧(d1.ownBlock=d0.ownBlock∨∃g,d1.ownBlock=some g∧w.heap.size≤g)∧Out (rb::blk d0) w w':=by
 obtain⟨sa,sc,rfl⟩:=z0f ho;obtain⟨it,hi,ap,aq,ar⟩:=info_parts q3d;have av:=B.lt;have Z:∀k∈blk (Value.slice sa m sc),k<w.heap.size:=fun k hk=>(ho.lt k (by simpa[blk]using hk)).2
 have E:Below w.heap.size w ((w.alloc (.cells #[P K i,P K s,P K q,va] 158)).alloc (.cells #[P K c,P K d,vu,l ia il ic] 251)):=by go_grown
 have Bt:=(Blk.new w 158 #[P K i,P K s,P K q,va]).below (w':=((w.alloc (.cells #[P K i,P K s,P K q,va] 158)).alloc (.cells #[P K c,P K d,vu,l ia il ic] 251))) (by go_grown);have Bn:=Blk.new (w.alloc (.cells #[P K i,P K s,P K q,va] 158)) 251 #[P K c,P K d,vu,l ia il ic];simp only[World.size_alloc]at Bn;have ad:w.heap.size+1<((w.alloc (.cells #[P K i,P K s,P K q,va] 158)).alloc (.cells #[P K c,P K d,vu,l ia il ic] 251)).heap.size:=by simp only[World.size_alloc];omega
 replace B:=B.below E;replace ho:=z0c ho E;have V:Out (rb::blk (l sa m sc)) w ((w.alloc (.cells #[P K i,P K s,P K q,va] 158)).alloc (.cells #[P K c,P K d,vu,l ia il ic] 251)):=Va E;have O:Hid (∀k∈blk (Value.slice sa m sc),k≠w.heap.size∧k≠w.heap.size+1):=fun k hk=>by
  have:=Z k hk;exact⟨by omega,by omega⟩
 go_enter func176,ntmps176
 go_wp2_with fail
 generalize ((w.alloc (.cells #[P K i,P K s,P K q,va] 158)).alloc (.cells #[P K c,P K d,vu,l ia il ic] 251))=W at*;generalize hH:w.heap.size=H at*;have J:Blk W rb 149 #[r0,r1,l sa m sc,i0]∧Blk W H 158 #[P K i,P K s,P K q,va]∧Blk W (H+1) 251 #[P K c,P K d,vu,l ia il ic]:=⟨B,Bt,Bn⟩
 generalize hP:(fun u:World=>Blk u rb 149 #[r0,r1,l sa m sc,i0]∧Blk u H 158 #[P K i,P K s,P K q,va]∧Blk u (H+1) 251 #[P K c,P K d,vu,l ia il ic])=PP;have T:PP W:=by subst hP;exact J
 have ae:∀u:KeepP PP,u.val.cell? ⟨rb,2,none⟩=some (l sa m sc):=fun u=>by have:=u.isP;subst hP;exact this.1.cell 2 _ rfl
 have ah:∀u:KeepP PP,u.val.cell? ⟨H,0,none⟩=some (P K i):=fun u=>by have:=u.isP;subst hP;exact this.2.1.cell 0 _ rfl
 have ai:∀u:KeepP PP,u.val.cell? ⟨H,1,none⟩=some (P K s):=fun u=>by have:=u.isP;subst hP;exact this.2.1.cell 1 _ rfl
 have aj:∀u:KeepP PP,u.val.cell? ⟨H,2,none⟩=some (P K q):=fun u=>by have:=u.isP;subst hP;exact this.2.1.cell 2 _ rfl
 have ak:∀u:KeepP PP,u.val.cell? ⟨H,3,none⟩=some va:=fun u=>by have:=u.isP;subst hP;exact this.2.1.cell 3 _ rfl
 have af:∀u:KeepP PP,u.val.cell? ⟨H+1,0,none⟩=some (P K c):=fun u=>by have:=u.isP;subst hP;exact this.2.2.cell 0 _ rfl
 have ag:∀u:KeepP PP,u.val.cell? ⟨H+1,1,none⟩=some (P K d):=fun u=>by have:=u.isP;subst hP;exact this.2.2.cell 1 _ rfl
 have am:Nonempty (KeepP PP):=⟨⟨W,T⟩⟩
 refine z3X (S:=fun w'=>∃u:KeepP PP,w'=u.val) (R:=fun _ _=>False) 16 (by kernel_rfl) (fun _ _ _ _ h=>h.elim) ?_;have U:PP W.drew:=by subst hP;exact J
 refine sgX [(0,12)] 5 (by kernel_rfl) ⟨⟨W.drew,U⟩,rfl⟩ ?_;simp only[pkE];repeat go_big_quiet_step (fail)
 refine wpQuiet_nil ?_;clear ae ah ai aj ak af ag am T;replace B:Blk W.drew rb 149 #[r0,r1,l sa m sc,i0]:=B;replace Bt:Blk W.drew H 158 #[P K i,P K s,P K q,va]:=Bt;replace Bn:Blk W.drew (H+1) 251 #[P K c,P K d,vu,l ia il ic]:=Bn;replace ho:=ho.drew;have y:Out (rb::blk (l sa m sc)) w W.drew:=V.trans (Va (Below.refl _ _).drew);replace ad:H+1<W.drew.heap.size:=ad;clear U V E J;generalize W.drew=wd at*;refine onX 12 4 rfl (by kernel_rfl) ?_;have x:Below wd.heap.size wd (wd.alloc (.cells #[P K i,P K s,P K q,va,P K c,P K d,l la ln lc] 258)):=by go_grown
 go_wp2
 have I:∀j u,[Value.int .i64 i,P K s,P K q,va,P K c,P K d,l la ln lc][j]?=some u→(wd.alloc (.cells #[P K i,P K s,P K q,va,P K c,P K d,l la ln lc] 258)).cell? ((⟨wd.heap.size,0,none⟩:Addr).add j)=some u:=by
  intro j u hj;match j,hj with|0,hj=>simp at hj;subst hj;simp[Addr.add]|1,hj=>simp at hj;subst hj;simp[Addr.add]|2,hj=>simp at hj;subst hj;simp[Addr.add]|3,hj=>simp at hj;subst hj;simp[Addr.add]|4,hj=>simp at hj;subst hj;simp[Addr.add]|5,hj=>simp at hj;subst hj;simp[Addr.add]|6,hj=>simp at hj;subst hj;simp[Addr.add]
 replace B:=B.below x;replace Bt:=Bt.below x;replace Bn:=Bn.below x;replace ho:=z0c ho x;replace y:=y.trans (Va (F:=rb::blk (l sa m sc)) x);have aw:=x.size;refine ThenX.to ⟨f ⟨⟨_,by subst hP;exact⟨B,Bt,Bn⟩⟩,rfl⟩,?_⟩;generalize wd.alloc (.cells #[P K i,P K s,P K q,va,P K c,P K d,l la ln lc] 258)=wb at*;refine onX 13 3 rfl (by kernel_rfl) ?_;refine wpList_append_own_at _ rfl _ _ 145 rfl 0 258 it (.agg #[P K 0,P K 0,P K 0,l none 0 0,P K 0,P K 0,l none 0 0]) 7 88 Tryz.underlying145 hi ap aq ar rfl (by decide) _ m xs rfl ho ⟨wd.heap.size,0,none⟩ 1 1 [P K i,P K s,P K q,va,P K c,P K d,l la ln lc] rfl rfl I ?c2 ?c3 ?c4 ?c5 ?_
 case c2=>intro u hu;simp at hu;rcases hu with rfl|rfl|rfl|rfl|rfl|rfl|rfl<;>first|rfl|exact ao
 case c3=>unfold maxLen;omega
 case c4=>omega
 case c5=>omega
 intro v' wc D A _ Y;obtain⟨a2,c2,rfl⟩:=z0f D;have z:Out (blk (l sa m sc)) wb wc:=Out.of_grown A;have C:∀k∈blk (Value.slice sa m sc),k≠H∧k≠H+1∧k≠rb:=fun k hk=>⟨(O.out k hk).1,(O.out k hk).2,fun e=>M (e▸hk)⟩
 replace B:=B.outs8 z (fun hk=>(C _ hk).2.2 rfl);replace Bt:=Bt.outs8 z (fun hk=>(C _ hk).1 rfl);replace Bn:=Bn.outs8 z (fun hk=>(C _ hk).2.1 rfl);replace y:=y.trans (z.mono (fun k hk=>List.mem_cons_of_mem _ hk))
 go_wp2
 refine ThenX.to ⟨f ⟨⟨_,by subst hP;exact⟨B,Bt,Bn⟩⟩,rfl⟩,?_⟩;have L:(Value.slice a2 (m+1) c2).ownBlock=(Value.slice sa m sc).ownBlock∨∃g,(Value.slice a2 (m+1) c2).ownBlock=some g∧H≤g:=by
  rcases Y with h|h
  ·exact Or.inl h
  ·exact f ⟨_,h,by omega⟩
 have ab:rb∉blk (Value.slice a2 (m+1) c2):=by
  intro hk;unfold blk at hk M;rcases L with h|⟨g,h,hg⟩
  ·rw[h]at hk;exact M hk
  ·rw[h]at hk;simp only[Option.toList,n]at hk;omega
 clear Y A I x ho z;refine onX 14 2 rfl (by kernel_rfl) ?_
 go_wp2
 refine ThenX.to ⟨f ⟨⟨_,by subst hP;exact⟨B,Bt,Bn⟩⟩,rfl⟩,?_⟩;refine onX 15 1 rfl (by kernel_rfl) ?_
 go_wp2
 refine ThenX.to ⟨f ⟨⟨_,by subst hP;exact⟨B,Bt,Bn⟩⟩,rfl⟩,?_⟩;refine onX 16 0 rfl (by kernel_rfl) ?_;have k1:=B.cell 2 _ rfl;have k2:=B.frozen 2
 go_wp2
 clear k1 k2;refine ThenX.to ⟨Or.inl (by kernel_rfl),?_⟩;refine q31 (by kernel_rfl) ?_;have B1:Blk (wc.setCell ⟨rb,2,none⟩ (l a2 (m+1) c2)) rb 149 #[r0,r1,l a2 (m+1) c2,i0]:=by
  have:=B.set 2 (l a2 (m+1) c2);simpa using this
 have N:=Bn.other (b':=rb) (by omega) 2 (l a2 (m+1) c2);have aa:=z0X D (Vb wc rb 2 (l a2 (m+1) c2)) (fun k hk e=>by simp only[n]at e;subst e;exact ab hk);have X:=y.trans ((Vb wc rb 2 (l a2 (m+1) c2)).mono (G:=rb::blk (l sa m sc)) (fun k hk=>by simp only[n]at hk;subst hk;simp));generalize wc.setCell ⟨rb,2,none⟩ (l a2 (m+1) c2)=we at*;clear B Bn Bt D y;have n0:=N.cell 0 _ rfl;have n3:=N.cell 3 _ rfl;by_cases hc:c=0
 ·subst hc;have k1:=B1.cell 3 _ rfl;have k2:=B1.frozen 3;have B2:Blk (we.setCell ⟨rb,3,none⟩ (l ia il ic)) rb 149 #[r0,r1,l a2 (m+1) c2,l ia il ic]:=by
   have:=B1.set 3 (l ia il ic);simpa using this
  have an:=z0X aa (Vb we rb 3 (l ia il ic)) (fun k hk e=>by simp only[n]at e;subst e;exact ab hk);have al:=X.trans ((Vb we rb 3 (l ia il ic)).mono (G:=rb::blk (l sa m sc)) (fun k hk=>by simp only[n]at hk;subst hk;simp))
  go_wp2
  go_end0
  exact⟨rfl,_,B2,an,L,al⟩
 ·have au:(c==0)=false:=by simpa using hc
  go_wp2
  go_end0
  try rw[if_neg hc]
  exact⟨rfl,_,B1,aa,L,X⟩
def unA(xs:List ItemD)(a:ActD):UndoD:=⟨a.key,hasI xs a.key,valI xs a.key⟩
def unR:List ItemD→List ActD→List UndoD
 |_,[]=>[]
 |xs,a::r=>(if a.kind=4 then []else [unA xs a])++unR (actN xs a) r
def duU(xs:List ItemD)(i s q:Int)(zs:List ActD):List UndoD:=if exC xs i s q zs=0 then unR xs zs else []
theorem hasI_mem{xs:List ItemD}{k:Int}:hasI xs k=true↔∃y∈xs,y.key=k:=by simp[hasI]
theorem q3e{xs:List ItemD}{k:Int}(h:hasI xs k=false):valI xs k=0:=by
 unfold valI;have:xs.find? (fun x=>x.key==k)=none:=by
  rw[List.find?_eq_none];intro y hy;simp;intro e;rw[hasI_mem.2 ⟨y,hy,e⟩]at h;simp at h
 rw[this]
theorem z56:∀ {zs:List ActD} {xs:List ItemD},xs.length≤8→Good xs→(∀a∈zs,actF a=0)→(z0z xs zs).1=0→(unR xs zs).length≤zs.length∧∀u∈unR xs zs,q6H u=0
 |[],xs,_,_,_,_=>by simp[unR]
 |a::r,xs,hl,g,ha,h=>by
  simp only[z0z,unR]at h⊢;by_cases e:actC xs a=0
  ·rw[if_pos e]at h;obtain⟨h1,h2⟩:=z3b hl g (ha a (by simp)) e;obtain⟨i1,i2⟩:=z56 h1 h2 (fun b hb=>ha b (by simp[hb])) h;have hone:q6H (unA xs a)=0:=by
    obtain⟨_,hy,_⟩:=z2f (ha a (by simp));have hv:=g.valI a.key;have k1:inW a.key 1 20=true:=by simp[inW];omega
    have k2:inW (valI xs a.key) (-20000) 20000=true:=by simp[inW];omega
    unfold q6H unA;dsimp only;rw[k1,k2]
    cases hh:hasI xs a.key
    ·simp[q3e hh]
    ·simp
   constructor
   ·rw[List.length_append,List.length_cons];split<;>simp<;>omega
   ·intro u hu;rcases List.mem_append.1 hu with hu|hu
    ·split at hu
     ·simp at hu
     ·simp at hu;rw[hu];exact hone
    ·exact i2 u hu
  ·rw[if_neg e]at h;exact absurd h e
section
open Go.Maps Go.Sort Go.Shelf
theorem ShelfAt.under{w w':World}{B b:Nat}{xs:List ItemD}(h:ShelfAt w b xs)(hb:Below B w w')(hlt:b<B):ShelfAt w' b xs:=by
 obtain⟨es,clock,hh,r⟩:=h;exact⟨es,clock,(hb.block b hlt).trans hh,r⟩
theorem z58{w w':World}{lo hi b j:Nat}{v:Value}(h:w.cell? ⟨b,j,none⟩=some v)(ho:Only lo hi w w')(hb:b<lo∨hi≤b):w'.cell? ⟨b,j,none⟩=some v:=by
 have hlt:=World.block_lt_of_cell? w _ h;have e:=ho.block b hlt hb;simp only[World.cell?]at h⊢;rw[e];exact h
theorem z3s(xs:List UndoD)(z:UndoD):z0n (xs++[z])=z0n xs++[P K z.key,.bool z.was,P K z.val]:=by simp[z0n,UndoD.cells]
theorem q0z(xs:List ItemD)(a:ActD)(r:List ActD):unR xs (a::r)=(if a.kind=4 then []else [unA xs a])++unR (actN xs a) r:=rfl
theorem z9W(sb:Nat)(xs:List ItemD)(ta:Option Addr)(tc:Nat)(zs:List ActD)(w:World)(h:ShelfAt w sb xs)(h8:xs.length≤8)(g:Good xs)(ht:ActRow w ta zs)(ap:∀b af,ta=some ⟨b,af,none⟩→b≠sb)(aB:zs.length≤4)(Y:∀a∈zs,actF a=0)(hrun:(z0z xs zs).1=0):
  Calls Tryz.prog 213 #[.map (some sb),l ta zs.length tc] w fun e w'=>∃b c,e=.returned (.slice b (unR xs zs).length c)∧
   w'.ownsRow w.heap.size 223 3 (.slice b (unR xs zs).length c) (unR xs zs).length (z0n (unR xs zs))∧Only sb (sb+1) w w':=by
 obtain⟨i0,hi,aw,ax,ay⟩:=info_parts z5c;have ad:=h.lt;have HA:Hid (∀a∈zs,actF a=0):=Y;have ao:Hid ((z0z xs zs).1=0):=hrun;clear Y hrun;go_enter func213,ntmps213
 go_wp2
 go_loopw[5,12] (fun v j wr=>∃ (k:Nat) (d:List ItemD) (D:List UndoD),k≤zs.length∧j=P K k∧ShelfAt wr sb d∧d.length≤8∧D.length≤k∧Hid (Good d∧(z0z d (zs.drop k)).1=0∧unR xs zs=D++unR d (zs.drop k))∧wr.ownsRow w.heap.size 223 3 v D.length (z0n D)∧Only sb (sb+1) w wr) (fun _ j _=>zs.length-(intOf j).toNat)
 case atStart=>exact⟨0,xs,[],Nat.zero_le _,rfl,h,h8,Nat.zero_le _,⟨g,by simpa using ao.out,by simp⟩,World.ownsRow_nil _ _ _ _,Only.refl _ _ _⟩
 case round=>
  obtain⟨k,d,D,hk,rfl,hS,ak,hD,HG,ho,hO⟩:=hrel;obtain⟨a1,c1,rfl⟩:=z0f ho;have av:w.heap.size≤wr.heap.size:=hO.size;by_cases X:k<zs.length
  ·obtain⟨b,af,rfl,az,J,L,M⟩:=ht.at k X;have aA:=ap b af rfl;replace J:=z58 J hO (by omega);replace L:=z58 L hO (by omega);replace M:=z58 M hO (by omega);have W:=HA.out (zs.getD k z0e) (by simp[List.getD,X]);obtain⟨_,Z,_⟩:=z2f W;have hrun:=HG.out.2.1;have ae:=HG.out.2.2;rw[z39 X,z1V]at hrun;rw[z39 X,q0z]at ae;have hF:actC d (zs.getD k z0e)=0:=by
    by_cases hF:actC d (zs.getD k z0e)=0
    ·exact hF
    ·rw[if_neg hF]at hrun;exact absurd hrun hF
   rw[if_pos hF]at hrun;obtain⟨ab,al⟩:=z3b ak HG.out.1 W hF;have y:=fun w h=>q4J sb d (zs.getD k z0e).kind (zs.getD k z0e).key (zs.getD k z0e).val w h ak HG.out.1 W
   change∀w h,Calls _ _ _ _ fun e w'=>e=.returned (P K (actC d (zs.getD k z0e)))∧(actC d (zs.getD k z0e)=0→ShelfAt w' sb (actN d (zs.getD k z0e)))∧_ at y
   rw[hF]at y;have HN:Hid (Good (actN d (zs.getD k z0e))∧(z0z (actN d (zs.getD k z0e)) (zs.drop (k+1))).1=0):=⟨al,hrun⟩
   have HU:Hid (unR xs zs=D++((if(zs.getD k z0e).kind=4 then []else [unA d (zs.getD k z0e)])++unR (actN d (zs.getD k z0e)) (zs.drop (k+1)))):=ae;clear hrun ae al W HG hF;generalize actN d (zs.getD k z0e)=nx at y HN HU ab;generalize zs.getD k z0e=z at J L M y HU Z;obtain⟨z0,z1,z2⟩:=z;dsimp only at J L M y HU Z;have V:ShelfAt (wr.alloc (.cells #[P K z0,P K z1,P K z2] 210)) sb d:=hS.below (by go_grown);have O:Below wr.heap.size wr (wr.alloc (.cells #[P K z0,P K z1,P K z2] 210)):=by go_grown
   have Bz:=Blk.new wr 210 #[P K z0,P K z1,P K z2];by_cases h4:z0=4
   ·subst h4;have N:Hid (unR xs zs=D++unR nx (zs.drop (k+1))):=by
     show _=_;simpa using HU.out
    have ar:((4:Int) !=4)=false:=by decide
    go_wp2_with fail
    refine(y _ V).mono ?_;rintro e w3 ⟨rfl,T,I⟩;have RR:Hid (_∧_∧_):=⟨T trivial,z2h (z0c ho O) I ad,(hO.trans (Only.of_below O)).trans I⟩
    clear T ho hO I y hS V O Bz J L M
    go_wp2
    go_roundw
    case rel=>exact⟨k+1,nx,D,by omega,by go_num,RR.out.1,ab,by omega,⟨HN.out.1,HN.out.2,N.out⟩,RR.out.2.1,RR.out.2.2⟩
    case measure=>simp[intOf];omega
   ·have N:Hid (unR xs zs=(D++[⟨z1,hasI d z1,valI d z1⟩])++unR nx (zs.drop (k+1))):=by
     have:=HU.out;rw[if_neg h4]at this;show _=_;simpa[unA]using this
    have ar:(z0 !=4)=true:=by simpa using h4
    have A:∀ (w:World) (_:ShelfAt w sb d) (ops:Array Oper) (rest:List Oper) (o:Oper) (a:Act) (Q:Exit→Act→World→Prop) (hg:o.guard=none) (m x:Operand) (an:o.op=Op.lookup 301 m x true) (hm:a.eval m=.map (some sb)) (hx:a.eval x=P K z1) (hK:wpList Tryz.prog ops Q rest (a.put o.dst (.tuple #[P K (valI d z1),.bool (hasI d z1)])) w),wpList Tryz.prog ops Q (o::rest) a w:=
     fun w h ops rest o a Q hg m x an hm hx hK=>z2Q w hg m x an sb d hm h z1 hx (by omega) hK
    clear h4 HU;generalize valI d z1=c at A N;generalize hasI d z1=t at A N;have am:((wr.alloc (.cells #[P K z0,P K z1,P K z2] 210)).alloc (.cells #[P K z1,.bool t,P K c] 223)).ownsRow w.heap.size 223 3 (l a1 D.length c1) D.length (z0n D):=z0c (z0c ho O) (by go_grown);have ai:Below wr.heap.size wr ((wr.alloc (.cells #[P K z0,P K z1,P K z2] 210)).alloc (.cells #[P K z1,.bool t,P K c] 223)):=by go_grown
    have ag:=Bz.below (w':=(wr.alloc (.cells #[P K z0,P K z1,P K z2] 210)).alloc (.cells #[P K z1,.bool t,P K c] 223)) (by go_grown);have au:=z97 ho (b:=wr.heap.size) (f (Nat.le_refl _))
    go_wp2_with (first|(at_lookup;refine A _ V _ _ _ _ _ rfl _ _ rfl rfl rfl ?_)|(at_builtin;refine wpList_append_own _ rfl _ _ 175 rfl w.heap.size 223 i0 (.agg #[P K 0,.bool false,P K 0]) 3 24 Tryz.underlying175 hi aw ax ay rfl (by decide) _ D.length (z0n D) rfl am ⟨wr.heap.size+1,0,none⟩ 1 1 [P K z1,.bool t,P K c] rfl rfl ?c1 ?c2 ?c3 ?c4 ?c5 ?_))
    all_goals try(case c1=>intro j u hj;match j,hj with|0,hj=>simp at hj;subst hj;simp[Addr.add]|1,hj=>simp at hj;subst hj;simp[Addr.add]|2,hj=>simp at hj;subst hj;simp[Addr.add])
    all_goals try(case c2=>first|rfl|exact⟨rfl,rfl,rfl⟩|(intro u hu;simp at hu;rcases hu with rfl|rfl|rfl<;>rfl))
    all_goals try(case c3=>unfold maxLen;omega)
    all_goals try(case c4=>omega)
    all_goals try(case c5=>first|omega|(simp;omega))
    intro v' w3 U E _;obtain⟨a2,c2,rfl⟩:=z0f U;have C:Below w.heap.size wr w3:=(ai.mono av).grown E (by simp;omega) (fun j hj=>(ho.lt j hj).1);have I:Only sb (sb+1) w w3:=⟨C.os.trans hO.os,C.tape.trans hO.tape,C.output.trans hO.output,Nat.le_trans hO.size C.size,fun j hj hc=>(C.block j hj).trans (hO.block j hj hc)⟩
    have T:=hS.under C ad;have ah:=ag.grown E au;obtain⟨q0,q1,q2⟩:=ah.cel3;clear E am ai ag V O Bz J L M hO ho hS ah C A
    go_wp2_with fail
    refine(y _ T).mono ?_;rintro e w4 ⟨rfl,aj,aa⟩;have RR:Hid (_∧_∧_):=⟨aj trivial,z2h U aa ad,I.trans aa⟩
    clear aj U aa I y q0 q1 q2 T
    go_wp2
    go_roundw
    case rel=>
     refine⟨k+1,nx,D++[⟨z1,t,c⟩],by omega,by go_num,RR.out.1,ab,by simp;omega,⟨HN.out.1,HN.out.2,N.out⟩,?_,RR.out.2.2⟩;rw[z3s];simpa using RR.out.2.1
    case measure=>simp[intOf];omega
  ·have aq:k=zs.length:=by omega
   subst aq;have e:unR xs zs=D:=by
    have:=HG.out.2.2;rw[List.drop_length]at this;simpa[unR]using this
   go_wp2
   go_ret;rw[e];exact⟨_,_,rfl,ho,hO⟩
theorem q5A{xs:List ItemD}{i s q:Int}{zs:List ActD}(h:exC xs i s q zs=0):itemsF xs=0∧txnF i s q zs=0∧(z0z xs zs).1=0:=by
 by_cases h1:itemsF xs=0
 ·by_cases h2:txnF i s q zs=0
  ·refine⟨h1,h2,?_⟩;simpa[exC,h1,h2]using h
  ·simp[exC,h1,h2]at h
 ·simp[exC,h1]at h
theorem q6u{xs:List ItemD}{i s q:Int}{zs:List ActD}(h:exC xs i s q zs≠0):exV xs i s q zs=0∧exR xs i s q zs=[]∧duU xs i s q zs=[]:=by
 simp[exV,exR,duU,h]
theorem z6x(a:Option Addr)(cap:Nat)(xs:List ItemD)(i s q:Int)(ta:Option Addr)(tc:Nat)(zs:List ActD)(w:World)(h:ItemRow w a xs)(ht:ActRow w ta zs)(hl:xs.length≤1048576)(N:zs.length≤1048576):
  Calls Tryz.prog 175 #[l a xs.length cap,.agg #[P K i,P K s,P K q,l ta zs.length tc]] w fun e w'=>∃b c b2 c2,e=.returned (.agg #[P K (exC xs i s q zs),P K (exV xs i s q zs),.slice b (duU xs i s q zs).length c,.slice b2 (exR xs i s q zs).length c2])∧
   OwnU w.heap.size w'.heap.size w' (.slice b (duU xs i s q zs).length c) (.slice b2 (exR xs i s q zs).length c2) (duU xs i s q zs) (exR xs i s q zs)∧Below w.heap.size w w':=by
 have hE:=fun w h ht=>z54 a cap xs i s q ta tc zs w h ht hl N
 have d:Below w.heap.size w ((w.alloc (.cells #[P K i,P K s,P K q,l ta zs.length tc] 158)).alloc (.cells #[P K 0,P K 0,l none 0 0,l none 0 0] 251)):=by go_grown
 have Bt:=(Blk.new w 158 #[P K i,P K s,P K q,l ta zs.length tc]).below (w':=(w.alloc (.cells #[P K i,P K s,P K q,l ta zs.length tc] 158)).alloc (.cells #[P K 0,P K 0,l none 0 0,l none 0 0] 251)) (by go_grown);have Br:=Blk.new (w.alloc (.cells #[P K i,P K s,P K q,l ta zs.length tc] 158)) 251 #[P K 0,P K 0,l none 0 0,l none 0 0];rw[World.size_alloc]at Br;by_cases h0:exC xs i s q zs=0
 case neg=>
  obtain⟨e1,e2,e3⟩:=q6u h0;have I:(exC xs i s q zs !=0)=true:=by simpa using h0
  rw[e1,e2,e3];rw[e1,e2]at hE;clear e1 e2 e3 h0;generalize exC xs i s q zs=r at hE I;go_enter func175,ntmps175;obtain⟨p0,p1,p2,p3⟩:=Bt.cel4
  go_wp2_with fail
  clear p0 p1 p2 p3;have C:=Br.lt;have x:=d.size;generalize (w.alloc (.cells #[P K i,P K s,P K q,l ta zs.length tc] 158)).alloc (.cells #[P K 0,P K 0,l none 0 0,l none 0 0] 251)=W0 at d Bt Br C x;refine(hE _ (h.below d) (ht.below d)).mono ?_;rintro e w1 ⟨ib,ic,rfl,o1,hb⟩;replace Bt:=Bt.below hb;replace Br:=Br.below hb;replace d:=d.trans (hb.mono d.size);have O:=hb.size;clear hb;have hb:Below w1.heap.size w1 (w1.alloc (.cells #[P K r,P K 0,l ib 0 ic] 282)):=by go_grown
  replace Br:=Br.below hb;replace d:=d.trans (hb.mono d.size);obtain⟨p0,p1,p2,p3⟩:=Br.cel4;obtain⟨f0,f1,f2,f3⟩:=Br.frz4;clear hb
  go_wp2
  refine bodyPost_ret (v:=.agg #[P K r,P K 0,l none 0 0,l none 0 0]) (by simp[results,results175,go_sem,p0,p1,p2,p3]) rfl ⟨_,_,_,_,rfl,⟨OwnS.of (World.ownsRow_nil _ _ _ _),OwnS.of (World.ownsRow_nil _ _ _ _),Or.inl rfl⟩,?_⟩;repeat' (refine Below.setCell ?_ (by dsimp only;omega) _)
  exact d
 case pos=>
  obtain⟨z1,z2,z3⟩:=q5A h0;obtain⟨h8,g⟩:=z37 z1;obtain⟨⟨ad,Y⟩,z⟩:=z04 z2;have W:=fun w h=>z50 a cap xs w h h8 g
  have D:duU xs i s q zs=unR xs zs:=by simp[duU,h0]
  have X:∃b y,ta=some ⟨b,y,none⟩∧b<w.heap.size:=by
   obtain⟨b,y,e,E,_⟩:=ht.at 0 (by omega);exact⟨b,y,e,E⟩
  have L:=fun sb w hS ht A=>z9W sb xs ta tc zs w hS h8 g ht A Y z z3
  rw[D,h0];rw[h0]at hE;clear z z1 z2 z3 D h0 g;generalize exV xs i s q zs=V at hE⊢;generalize exR xs i s q zs=R at hE⊢;generalize unR xs zs=U at L⊢;go_enter func175,ntmps175;obtain⟨p0,p1,p2,p3⟩:=Bt.cel4
  go_wp2_with fail
  clear p0 p1 p2 p3;have C:=Br.lt;have x:=d.size;generalize (w.alloc (.cells #[P K i,P K s,P K q,l ta zs.length tc] 158)).alloc (.cells #[P K 0,P K 0,l none 0 0,l none 0 0] 251)=W0 at d Bt Br C x;refine(hE _ (h.below d) (ht.below d)).mono ?_;rintro e w1 ⟨ib,ic,rfl,o1,hb⟩;replace Bt:=Bt.below hb;replace Br:=Br.below hb;replace d:=d.trans (hb.mono d.size);have O:=hb.size;clear hb;have hb:Below w1.heap.size w1 (w1.alloc (.cells #[P K 0,P K V,l ib R.length ic] 282)):=by go_grown
  have Bd:=Blk.new w1 282 #[P K 0,P K V,l ib R.length ic];replace Br:=Br.below hb;replace Bt:=Bt.below hb;replace o1:=z0c o1 hb;replace d:=d.trans (hb.mono d.size);have T:=hb.size;clear hb
  go_wp2_with fail
  generalize w1.alloc (.cells #[P K 0,P K V,l ib R.length ic] 282)=W2 at d Bt Br Bd o1 T;have ab:=d.size;have hW:Below W2.heap.size W2 W2.drew:=(Below.refl _ _).drew;have I:Nonempty (Lat W2):=⟨⟨W2,Below.refl _ _⟩⟩
  have k1:=Bd.lat 1 _ rfl;have k2:=Bd.lat 2 _ rfl;have k3:=Bt.lat 3 _ rfl;refine z3X (S:=fun w'=>∃u:Lat W2,w'=u.val) (R:=fun _ _=>False) 10 (by kernel_rfl) (fun _ _ _ _ h=>h.elim) ?_;refine sgX [(0,3),(4,2),(7,2)] 4 (by kernel_rfl) ⟨⟨_,hW⟩,rfl⟩ ?_;simp only[pkE];repeat go_big_quiet_step (fail)
  refine wpQuiet_nil ?_;refine clX 3 (some 18) 212 #[l a xs.length cap] 3 (by kernel_rfl) rfl ?_;refine(W _ (h.below (d.trans (hW.mono d.size)))).mono ?_;rintro e w3 ⟨rfl,hS,hb⟩;have M:=hW.size;replace hW:=hW.trans (hb.mono hW.size);have J:=hb.size;clear hb;refine Or.inl ⟨_,rfl,⟨⟨_,hW⟩,rfl⟩,?_⟩;simp only[Act.put,pgE,pjE];generalize W2.drew.heap.size=sb at hS M J⊢;refine clX 6 (some 21) 213 #[.map (some sb),l ta zs.length tc] 2 (by kernel_rfl) rfl ?_;refine(L _ _ hS (ht.below (d.trans (hW.mono d.size))) (fun b y e=>?_)).mono ?_
  ·obtain⟨b',Z,e',E⟩:=X;rw[e]at e';simp only[Option.some.injEq,Addr.mk.injEq,and_true]at e';omega
  rintro e w4 ⟨ub,uc,rfl,o4,hO⟩;replace hW:=z4g hW hO M (by omega);clear hO hS;refine Or.inl ⟨_,rfl,⟨⟨_,hW⟩,rfl⟩,?_⟩;simp only[Act.put,pgE,pjE];refine onX 9 1 rfl (by kernel_rfl) ?_
  go_wp2
  refine ThenX.to ⟨f ⟨⟨_,hW⟩,rfl⟩,?_⟩;refine onX 10 0 rfl (by kernel_rfl) ?_;have aa:=Br.lt;have A:=z9a o1 o4 (by omega);replace Br:=Br.below hW;replace o1:=z0c o1 hW;replace d:=d.trans (hW.mono d.size);obtain⟨p0,p1,p2,p3⟩:=Br.cel4;obtain⟨f0,f1,f2,f3⟩:=Br.frz4
  go_wp2
  refine ThenX.to ⟨Or.inl (by kernel_rfl),?_⟩;refine q31 (by kernel_rfl) ?_
  go_wp2
  have n1:∀k,(Value.slice ub U.length uc).ownBlock=some k→k≠w.heap.size+1:=fun k hk=>by have:=(o4.lt k hk).1;omega
  have n2:∀k,(Value.slice ib R.length ic).ownBlock=some k→k≠w.heap.size+1:=fun k hk=>by have:=(o1.lt k hk).1;omega
  refine bodyPost_ret (v:=.agg #[P K 0,P K V,l ub U.length uc,l ib R.length ic]) (by simp[results,results175,go_sem,p0,p1,p2,p3]) rfl ⟨_,_,_,_,rfl,⟨OwnS.of (z0r (z0i (z0i (z0i (z0i o4 n1) n1) n1) n1) (by omega)),OwnS.of (z0r (z0i (z0i (z0i (z0i o1 n2) n2) n2) n2) (by omega)),A⟩,?_⟩;repeat' (refine Below.setCell ?_ (by dsimp only;omega) _)
  exact d
end
end Go.Proofs.YtjjoahhnkpjolaaGreatDoor
