/- Texts joined,with what the laws reach alone. -/
import Derived.Test.YtlkpdgjnhkjpjaaGreatDoorSCAX
import Derived.Test.YtlkpdgjnhkjpjaaGreatDoorSCAG
import Derived.Defers
set_option linter.unusedVariables false
set_option linter.unusedSimpArgs false
set_option maxRecDepth 100000
set_option maxHeartbeats 4000000
namespace Go.Proofs.YtlkpdgjnhkjpjaaGreatDoor
open Go.RowKit Go.BigFrame
structure DeedQ where
 i:Int
 s:Int
 q:Int
 va:Value
 acts:List ActD
 code:Int
 val:Int
 lv:Value
 us:List UndoD
def z5G(w0:World):Kind DeedQ where
 ty:=307
 size:=6
 cells p:=[.int .i64 p.i,.int .i64 p.s,.int .i64 p.q,p.va,.int .i64 p.code,.int .i64 p.val]
 own _ p:=actK.At w0 p.va p.acts
 rd _ p:=actK.At w0 p.va p.acts
 foot _:=[]
 len _:=rfl
 own_rd h:=h
 own_out h _ _:=h
 own_lt _ k hk:=by simp at hk
 rd_below h _:=h
def z4A(w0:World):Kind DeedQ where
 ty:=162
 size:=7
 cells p:=[.int .i64 p.i,.int .i64 p.s,.int .i64 p.q,p.va,.int .i64 p.code,.int .i64 p.val,p.lv]
 own w p:=actK.At w0 p.va p.acts∧undoK.Own w p.lv p.us
 rd w p:=actK.At w0 p.va p.acts∧undoK.At w p.lv p.us
 foot p:=undoK.fp p.lv p.us
 len _:=rfl
 own_rd h:=⟨h.1,h.2.at⟩
 own_out h ho hd:=⟨h.1,h.2.out ho hd⟩
 own_lt h:=h.2.lt
 rd_below h hb:=⟨h.1,h.2.below hb⟩
theorem q2m:(Tryz.prog.info? 307).map (fun i=>(i.zero,i.size,i.bytes))=some (some (.agg #[.int .i64 0,.int .i64 0,.int .i64 0,.slice none 0 0,.int .i64 0,.int .i64 0]),6,72):=by kernel_rfl
theorem q2n:(Tryz.prog.info? 162).map (fun i=>(i.zero,i.size,i.bytes))=some (some (.agg #[.int .i64 0,.int .i64 0,.int .i64 0,.slice none 0 0,.int .i64 0,.int .i64 0,.slice none 0 0]),7,88):=by kernel_rfl
theorem q3p(rb:Nat)(d0 i0:Value)(r2 r3:Value)(m:Nat)(xs:List Value)(i s q:Int)(va:Value)(c d:Int)(vu:Value)(ia:Option Addr)(il ic:Nat)(w:World)(B:Blk w rb 157 #[d0,i0,r2,r3])(ho:w.ownsRow 0 307 6 d0 m xs)(O:rb∉blk d0)(hm:m≤100)(aq:va.oneCell'=true):
  Calls Tryz.prog 160 #[.pointer (some ⟨rb,0,none⟩),.agg #[.int .i64 i,.int .i64 s,.int .i64 q,va],.agg #[.int .i64 c,.int .i64 d,vu,.slice ia il ic],.agg #[]] w fun e w'=>e=.returned (.tuple #[])∧∃d1,Blk w' rb 157 #[d1,(if c=0 then .slice ia il ic else i0),r2,r3]∧w'.ownsRow 0 307 6 d1 (m+1) (xs++[.int .i64 i,.int .i64 s,.int .i64 q,va,.int .i64 c,.int .i64 d])∧(d1.ownBlock=d0.ownBlock∨∃g,d1.ownBlock=some g∧w.heap.size≤g)∧Out (rb::blk d0) w w':=by
 obtain⟨sa,sc,rfl⟩:=z0g ho;obtain⟨it,hi,au,av,aw⟩:=info_parts q2m;have ay:=B.lt;have ab:∀k∈blk (Value.slice sa m sc),k<w.heap.size:=fun k hk=>(ho.lt k (by simpa[blk]using hk)).2
 have J:Below w.heap.size w (((w.alloc (.cells #[.int .i64 i,.int .i64 s,.int .i64 q,va] 39)).alloc (.cells #[.int .i64 c,.int .i64 d,vu,.slice ia il ic] 228)).alloc (.cells #[] 226)):=by go_grown
 have Bt:=(Blk.new w 39 #[.int .i64 i,.int .i64 s,.int .i64 q,va]).below (w':=(((w.alloc (.cells #[.int .i64 i,.int .i64 s,.int .i64 q,va] 39)).alloc (.cells #[.int .i64 c,.int .i64 d,vu,.slice ia il ic] 228)).alloc (.cells #[] 226))) (by go_grown);have Bn:=(Blk.new (w.alloc (.cells #[.int .i64 i,.int .i64 s,.int .i64 q,va] 39)) 228 #[.int .i64 c,.int .i64 d,vu,.slice ia il ic]).below (w':=(((w.alloc (.cells #[.int .i64 i,.int .i64 s,.int .i64 q,va] 39)).alloc (.cells #[.int .i64 c,.int .i64 d,vu,.slice ia il ic] 228)).alloc (.cells #[] 226))) (by go_grown);simp only[World.size_alloc]at Bn;have af:w.heap.size+1<(((w.alloc (.cells #[.int .i64 i,.int .i64 s,.int .i64 q,va] 39)).alloc (.cells #[.int .i64 c,.int .i64 d,vu,.slice ia il ic] 228)).alloc (.cells #[] 226)).heap.size:=by simp only[World.size_alloc];omega
 replace B:=B.below J;replace ho:=z0a ho J;have Y:Out (rb::blk (.slice sa m sc)) w (((w.alloc (.cells #[.int .i64 i,.int .i64 s,.int .i64 q,va] 39)).alloc (.cells #[.int .i64 c,.int .i64 d,vu,.slice ia il ic] 228)).alloc (.cells #[] 226)):=Out.of_below J;have U:Hid (∀k∈blk (Value.slice sa m sc),k≠w.heap.size∧k≠w.heap.size+1):=fun k hk=>by
  have:=ab k hk;exact⟨by omega,by omega⟩
 go_enter Tryz.func160,Tryz.ntmps160
 go_wp2_with fail
 generalize (((w.alloc (.cells #[.int .i64 i,.int .i64 s,.int .i64 q,va] 39)).alloc (.cells #[.int .i64 c,.int .i64 d,vu,.slice ia il ic] 228)).alloc (.cells #[] 226))=W at*;generalize hH:w.heap.size=H at*;have M:Blk W rb 157 #[.slice sa m sc,i0,r2,r3]∧Blk W H 39 #[.int .i64 i,.int .i64 s,.int .i64 q,va]∧Blk W (H+1) 228 #[.int .i64 c,.int .i64 d,vu,.slice ia il ic]:=⟨B,Bt,Bn⟩
 generalize hP:(fun u:World=>Blk u rb 157 #[.slice sa m sc,i0,r2,r3]∧Blk u H 39 #[.int .i64 i,.int .i64 s,.int .i64 q,va]∧Blk u (H+1) 228 #[.int .i64 c,.int .i64 d,vu,.slice ia il ic])=PP;have V:PP W:=by subst hP;exact M
 have ag:∀u:KeepP PP,u.val.cell? ⟨rb,0,none⟩=some (.slice sa m sc):=fun u=>by have:=u.isP;subst hP;exact this.1.cell 0 _ rfl
 have aj:∀u:KeepP PP,u.val.cell? ⟨H,0,none⟩=some (.int .i64 i):=fun u=>by have:=u.isP;subst hP;exact this.2.1.cell 0 _ rfl
 have ak:∀u:KeepP PP,u.val.cell? ⟨H,1,none⟩=some (.int .i64 s):=fun u=>by have:=u.isP;subst hP;exact this.2.1.cell 1 _ rfl
 have al:∀u:KeepP PP,u.val.cell? ⟨H,2,none⟩=some (.int .i64 q):=fun u=>by have:=u.isP;subst hP;exact this.2.1.cell 2 _ rfl
 have am:∀u:KeepP PP,u.val.cell? ⟨H,3,none⟩=some va:=fun u=>by have:=u.isP;subst hP;exact this.2.1.cell 3 _ rfl
 have ah:∀u:KeepP PP,u.val.cell? ⟨H+1,0,none⟩=some (.int .i64 c):=fun u=>by have:=u.isP;subst hP;exact this.2.2.cell 0 _ rfl
 have ai:∀u:KeepP PP,u.val.cell? ⟨H+1,1,none⟩=some (.int .i64 d):=fun u=>by have:=u.isP;subst hP;exact this.2.2.cell 1 _ rfl
 have ao:Nonempty (KeepP PP):=⟨⟨W,V⟩⟩
 refine z4m (S:=fun w'=>∃u:KeepP PP,w'=u.val) (R:=fun _ _=>False) 16 (by kernel_rfl) (fun _ _ _ _ h=>h.elim) ?_;have X:PP W.drew:=by subst hP;exact M
 refine sgX [(0,12)] 5 (by kernel_rfl) ⟨⟨W.drew,X⟩,rfl⟩ ?_;simp only[pkE];repeat go_big_quiet_step (fail)
 refine wpQuiet_nil ?_;generalize hz:Array.foldl _ _ _ _ _=cz;have ar:cz=#[.int .i64 i,.int .i64 s,.int .i64 q,va,.int .i64 c,.int .i64 d]:=by rw[←hz];rfl
 subst ar;clear hz;clear ag aj ak al am ah ai ao V;replace B:Blk W.drew rb 157 #[.slice sa m sc,i0,r2,r3]:=B;replace Bt:Blk W.drew H 39 #[.int .i64 i,.int .i64 s,.int .i64 q,va]:=Bt;replace Bn:Blk W.drew (H+1) 228 #[.int .i64 c,.int .i64 d,vu,.slice ia il ic]:=Bn;replace ho:=ho.drew;have y:Out (rb::blk (.slice sa m sc)) w W.drew:=Y.trans (Out.of_below (Below.refl _ _).drew);replace af:H+1<W.drew.heap.size:=af;clear X Y J M;generalize W.drew=wd at*;refine onX 12 4 rfl (by kernel_rfl) ?_;have x:Below wd.heap.size wd (wd.alloc (.cells #[.int .i64 i,.int .i64 s,.int .i64 q,va,.int .i64 c,.int .i64 d] 307)):=by go_grown
 go_wp2
 have L:∀j u,[Value.int .i64 i,.int .i64 s,.int .i64 q,va,.int .i64 c,.int .i64 d][j]?=some u→(wd.alloc (.cells #[.int .i64 i,.int .i64 s,.int .i64 q,va,.int .i64 c,.int .i64 d] 307)).cell? ((⟨wd.heap.size,0,none⟩:Addr).add j)=some u:=by
  intro j u hj;match j,hj with|0,hj=>simp at hj;subst hj;simp[Addr.add]|1,hj=>simp at hj;subst hj;simp[Addr.add]|2,hj=>simp at hj;subst hj;simp[Addr.add]|3,hj=>simp at hj;subst hj;simp[Addr.add]|4,hj=>simp at hj;subst hj;simp[Addr.add]|5,hj=>simp at hj;subst hj;simp[Addr.add]
 replace B:=B.below x;replace Bt:=Bt.below x;replace Bn:=Bn.below x;replace ho:=z0a ho x;replace y:=y.trans (Out.of_below (F:=rb::blk (.slice sa m sc)) x);have az:=x.size;refine ThenX.to ⟨Or.inr ⟨⟨_,by subst hP;exact⟨B,Bt,Bn⟩⟩,rfl⟩,?_⟩;generalize wd.alloc (.cells #[.int .i64 i,.int .i64 s,.int .i64 q,va,.int .i64 c,.int .i64 d] 307)=wb at*;refine onX 13 3 rfl (by kernel_rfl) ?_;refine wpList_append_own_at _ rfl _ _ 150 rfl 0 307 it (.agg #[.int .i64 0,.int .i64 0,.int .i64 0,.slice none 0 0,.int .i64 0,.int .i64 0]) 6 72 Tryz.underlying150 hi au av aw rfl (by decide) _ m xs rfl ho ⟨wd.heap.size,0,none⟩ 1 1 [.int .i64 i,.int .i64 s,.int .i64 q,va,.int .i64 c,.int .i64 d] rfl rfl L ?c2 ?c3 ?c4 ?c5 ?_
 case c2=>intro u hu;simp at hu;rcases hu with rfl|rfl|rfl|rfl|rfl|rfl<;>first|rfl|exact aq
 case c3=>unfold maxLen;omega
 case c4=>omega
 case c5=>omega
 intro v' wc I A _ aa;obtain⟨a2,c2,rfl⟩:=z0g I;have z:Out (blk (.slice sa m sc)) wb wc:=Out.of_grown A;have C:∀k∈blk (Value.slice sa m sc),k≠H∧k≠H+1∧k≠rb:=fun k hk=>⟨(U.out k hk).1,(U.out k hk).2,fun e=>O (e▸hk)⟩
 replace B:=B.outs8 z (fun hk=>(C _ hk).2.2 rfl);replace Bt:=Bt.outs8 z (fun hk=>(C _ hk).1 rfl);replace Bn:=Bn.outs8 z (fun hk=>(C _ hk).2.1 rfl);replace y:=y.trans (z.mono (fun k hk=>List.mem_cons_of_mem _ hk))
 go_wp2
 refine ThenX.to ⟨Or.inr ⟨⟨_,by subst hP;exact⟨B,Bt,Bn⟩⟩,rfl⟩,?_⟩;have N:(Value.slice a2 (m+1) c2).ownBlock=(Value.slice sa m sc).ownBlock∨∃g,(Value.slice a2 (m+1) c2).ownBlock=some g∧H≤g:=by
  rcases aa with h|h
  ·exact Or.inl h
  ·exact Or.inr ⟨_,h,by omega⟩
 have ae:rb∉blk (Value.slice a2 (m+1) c2):=by
  intro hk;unfold blk at hk O;rcases N with h|⟨g,h,hg⟩
  ·rw[h]at hk;exact O hk
  ·rw[h]at hk;simp only[Option.toList,List.mem_singleton]at hk;omega
 clear aa A L x ho z;refine onX 14 2 rfl (by kernel_rfl) ?_
 go_wp2
 refine ThenX.to ⟨Or.inr ⟨⟨_,by subst hP;exact⟨B,Bt,Bn⟩⟩,rfl⟩,?_⟩;refine onX 15 1 rfl (by kernel_rfl) ?_
 go_wp2
 refine ThenX.to ⟨Or.inr ⟨⟨_,by subst hP;exact⟨B,Bt,Bn⟩⟩,rfl⟩,?_⟩;refine onX 16 0 rfl (by kernel_rfl) ?_;have k1:=B.cell 0 _ rfl;have k2:=B.frozen 0
 go_wp2
 clear k1 k2;refine ThenX.to ⟨Or.inl (by kernel_rfl),?_⟩;refine q3D (by kernel_rfl) ?_;have B1:Blk (wc.setCell ⟨rb,0,none⟩ (.slice a2 (m+1) c2)) rb 157 #[.slice a2 (m+1) c2,i0,r2,r3]:=by
  have:=B.set 0 (.slice a2 (m+1) c2);simpa using this
 have T:=Bn.other (b':=rb) (by omega) 0 (.slice a2 (m+1) c2);have ad:=z0R I (Out.setCell wc rb 0 (.slice a2 (m+1) c2)) (fun k hk e=>by simp only[List.mem_singleton]at e;subst e;exact ae hk);have Z:=y.trans ((Out.setCell wc rb 0 (.slice a2 (m+1) c2)).mono (G:=rb::blk (.slice sa m sc)) (fun k hk=>by simp only[List.mem_singleton]at hk;subst hk;simp));generalize wc.setCell ⟨rb,0,none⟩ (.slice a2 (m+1) c2)=we at*;clear B Bn Bt I y;have n0:=T.cell 0 _ rfl;have n3:=T.cell 3 _ rfl;by_cases hc:c=0
 ·subst hc;have k1:=B1.cell 1 _ rfl;have k2:=B1.frozen 1;have B2:Blk (we.setCell ⟨rb,1,none⟩ (.slice ia il ic)) rb 157 #[.slice a2 (m+1) c2,.slice ia il ic,r2,r3]:=by
   have:=B1.set 1 (.slice ia il ic);simpa using this
  have ap:=z0R ad (Out.setCell we rb 1 (.slice ia il ic)) (fun k hk e=>by simp only[List.mem_singleton]at e;subst e;exact ae hk);have an:=Z.trans ((Out.setCell we rb 1 (.slice ia il ic)).mono (G:=rb::blk (.slice sa m sc)) (fun k hk=>by simp only[List.mem_singleton]at hk;subst hk;simp))
  go_wp2
  go_end0
  exact⟨rfl,_,B2,ap,N,an⟩
 ·have ax:(c==0)=false:=by simpa using hc
  go_wp2
  go_end0
  try rw[if_neg hc]
  exact⟨rfl,_,B1,ad,N,Z⟩
theorem q3q(rb:Nat)(d0 i0:Value)(r0 r1:Value)(m:Nat)(xs:List Value)(i s q:Int)(va:Value)(c d:Int)(vu:Value)(ia:Option Addr)(il ic:Nat)(la:Option Addr)(ln lc:Nat)(w:World)(B:Blk w rb 157 #[r0,r1,d0,i0])(ho:w.ownsRow 0 162 7 d0 m xs)(O:rb∉blk d0)(hm:m≤100)(aq:va.oneCell'=true):
  Calls Tryz.prog 162 #[.pointer (some ⟨rb,2,none⟩),.agg #[.int .i64 i,.int .i64 s,.int .i64 q,va],.agg #[.int .i64 c,.int .i64 d,vu,.slice ia il ic],.slice la ln lc] w fun e w'=>e=.returned (.tuple #[])∧∃d1,Blk w' rb 157 #[r0,r1,d1,(if c=0 then .slice ia il ic else i0)]∧w'.ownsRow 0 162 7 d1 (m+1) (xs++[.int .i64 i,.int .i64 s,.int .i64 q,va,.int .i64 c,.int .i64 d,.slice la ln lc])∧(d1.ownBlock=d0.ownBlock∨∃g,d1.ownBlock=some g∧w.heap.size≤g)∧Out (rb::blk d0) w w':=by
 obtain⟨sa,sc,rfl⟩:=z0g ho;obtain⟨it,hi,ar,au,av⟩:=info_parts q2n;have ax:=B.lt;have ab:∀k∈blk (Value.slice sa m sc),k<w.heap.size:=fun k hk=>(ho.lt k (by simpa[blk]using hk)).2
 have J:Below w.heap.size w ((w.alloc (.cells #[.int .i64 i,.int .i64 s,.int .i64 q,va] 39)).alloc (.cells #[.int .i64 c,.int .i64 d,vu,.slice ia il ic] 228)):=by go_grown
 have Bt:=(Blk.new w 39 #[.int .i64 i,.int .i64 s,.int .i64 q,va]).below (w':=((w.alloc (.cells #[.int .i64 i,.int .i64 s,.int .i64 q,va] 39)).alloc (.cells #[.int .i64 c,.int .i64 d,vu,.slice ia il ic] 228))) (by go_grown);have Bn:=Blk.new (w.alloc (.cells #[.int .i64 i,.int .i64 s,.int .i64 q,va] 39)) 228 #[.int .i64 c,.int .i64 d,vu,.slice ia il ic];simp only[World.size_alloc]at Bn;have af:w.heap.size+1<((w.alloc (.cells #[.int .i64 i,.int .i64 s,.int .i64 q,va] 39)).alloc (.cells #[.int .i64 c,.int .i64 d,vu,.slice ia il ic] 228)).heap.size:=by simp only[World.size_alloc];omega
 replace B:=B.below J;replace ho:=z0a ho J;have Y:Out (rb::blk (.slice sa m sc)) w ((w.alloc (.cells #[.int .i64 i,.int .i64 s,.int .i64 q,va] 39)).alloc (.cells #[.int .i64 c,.int .i64 d,vu,.slice ia il ic] 228)):=Out.of_below J;have U:Hid (∀k∈blk (Value.slice sa m sc),k≠w.heap.size∧k≠w.heap.size+1):=fun k hk=>by
  have:=ab k hk;exact⟨by omega,by omega⟩
 go_enter Tryz.func162,Tryz.ntmps162
 go_wp2_with fail
 generalize ((w.alloc (.cells #[.int .i64 i,.int .i64 s,.int .i64 q,va] 39)).alloc (.cells #[.int .i64 c,.int .i64 d,vu,.slice ia il ic] 228))=W at*;generalize hH:w.heap.size=H at*;have M:Blk W rb 157 #[r0,r1,.slice sa m sc,i0]∧Blk W H 39 #[.int .i64 i,.int .i64 s,.int .i64 q,va]∧Blk W (H+1) 228 #[.int .i64 c,.int .i64 d,vu,.slice ia il ic]:=⟨B,Bt,Bn⟩
 generalize hP:(fun u:World=>Blk u rb 157 #[r0,r1,.slice sa m sc,i0]∧Blk u H 39 #[.int .i64 i,.int .i64 s,.int .i64 q,va]∧Blk u (H+1) 228 #[.int .i64 c,.int .i64 d,vu,.slice ia il ic])=PP;have V:PP W:=by subst hP;exact M
 have ag:∀u:KeepP PP,u.val.cell? ⟨rb,2,none⟩=some (.slice sa m sc):=fun u=>by have:=u.isP;subst hP;exact this.1.cell 2 _ rfl
 have aj:∀u:KeepP PP,u.val.cell? ⟨H,0,none⟩=some (.int .i64 i):=fun u=>by have:=u.isP;subst hP;exact this.2.1.cell 0 _ rfl
 have ak:∀u:KeepP PP,u.val.cell? ⟨H,1,none⟩=some (.int .i64 s):=fun u=>by have:=u.isP;subst hP;exact this.2.1.cell 1 _ rfl
 have al:∀u:KeepP PP,u.val.cell? ⟨H,2,none⟩=some (.int .i64 q):=fun u=>by have:=u.isP;subst hP;exact this.2.1.cell 2 _ rfl
 have am:∀u:KeepP PP,u.val.cell? ⟨H,3,none⟩=some va:=fun u=>by have:=u.isP;subst hP;exact this.2.1.cell 3 _ rfl
 have ah:∀u:KeepP PP,u.val.cell? ⟨H+1,0,none⟩=some (.int .i64 c):=fun u=>by have:=u.isP;subst hP;exact this.2.2.cell 0 _ rfl
 have ai:∀u:KeepP PP,u.val.cell? ⟨H+1,1,none⟩=some (.int .i64 d):=fun u=>by have:=u.isP;subst hP;exact this.2.2.cell 1 _ rfl
 have ao:Nonempty (KeepP PP):=⟨⟨W,V⟩⟩
 refine z4m (S:=fun w'=>∃u:KeepP PP,w'=u.val) (R:=fun _ _=>False) 16 (by kernel_rfl) (fun _ _ _ _ h=>h.elim) ?_;have X:PP W.drew:=by subst hP;exact M
 refine sgX [(0,12)] 5 (by kernel_rfl) ⟨⟨W.drew,X⟩,rfl⟩ ?_;simp only[pkE];repeat go_big_quiet_step (fail)
 refine wpQuiet_nil ?_;clear ag aj ak al am ah ai ao V;replace B:Blk W.drew rb 157 #[r0,r1,.slice sa m sc,i0]:=B;replace Bt:Blk W.drew H 39 #[.int .i64 i,.int .i64 s,.int .i64 q,va]:=Bt;replace Bn:Blk W.drew (H+1) 228 #[.int .i64 c,.int .i64 d,vu,.slice ia il ic]:=Bn;replace ho:=ho.drew;have y:Out (rb::blk (.slice sa m sc)) w W.drew:=Y.trans (Out.of_below (Below.refl _ _).drew);replace af:H+1<W.drew.heap.size:=af;clear X Y J M;generalize W.drew=wd at*;refine onX 12 4 rfl (by kernel_rfl) ?_;have x:Below wd.heap.size wd (wd.alloc (.cells #[.int .i64 i,.int .i64 s,.int .i64 q,va,.int .i64 c,.int .i64 d,.slice la ln lc] 162)):=by go_grown
 go_wp2
 have L:∀j u,[Value.int .i64 i,.int .i64 s,.int .i64 q,va,.int .i64 c,.int .i64 d,.slice la ln lc][j]?=some u→(wd.alloc (.cells #[.int .i64 i,.int .i64 s,.int .i64 q,va,.int .i64 c,.int .i64 d,.slice la ln lc] 162)).cell? ((⟨wd.heap.size,0,none⟩:Addr).add j)=some u:=by
  intro j u hj;match j,hj with|0,hj=>simp at hj;subst hj;simp[Addr.add]|1,hj=>simp at hj;subst hj;simp[Addr.add]|2,hj=>simp at hj;subst hj;simp[Addr.add]|3,hj=>simp at hj;subst hj;simp[Addr.add]|4,hj=>simp at hj;subst hj;simp[Addr.add]|5,hj=>simp at hj;subst hj;simp[Addr.add]|6,hj=>simp at hj;subst hj;simp[Addr.add]
 replace B:=B.below x;replace Bt:=Bt.below x;replace Bn:=Bn.below x;replace ho:=z0a ho x;replace y:=y.trans (Out.of_below (F:=rb::blk (.slice sa m sc)) x);have ay:=x.size;refine ThenX.to ⟨Or.inr ⟨⟨_,by subst hP;exact⟨B,Bt,Bn⟩⟩,rfl⟩,?_⟩;generalize wd.alloc (.cells #[.int .i64 i,.int .i64 s,.int .i64 q,va,.int .i64 c,.int .i64 d,.slice la ln lc] 162)=wb at*;refine onX 13 3 rfl (by kernel_rfl) ?_;refine wpList_append_own_at _ rfl _ _ 153 rfl 0 162 it (.agg #[.int .i64 0,.int .i64 0,.int .i64 0,.slice none 0 0,.int .i64 0,.int .i64 0,.slice none 0 0]) 7 88 Tryz.underlying153 hi ar au av rfl (by decide) _ m xs rfl ho ⟨wd.heap.size,0,none⟩ 1 1 [.int .i64 i,.int .i64 s,.int .i64 q,va,.int .i64 c,.int .i64 d,.slice la ln lc] rfl rfl L ?c2 ?c3 ?c4 ?c5 ?_
 case c2=>intro u hu;simp at hu;rcases hu with rfl|rfl|rfl|rfl|rfl|rfl|rfl<;>first|rfl|exact aq
 case c3=>unfold maxLen;omega
 case c4=>omega
 case c5=>omega
 intro v' wc I A _ aa;obtain⟨a2,c2,rfl⟩:=z0g I;have z:Out (blk (.slice sa m sc)) wb wc:=Out.of_grown A;have C:∀k∈blk (Value.slice sa m sc),k≠H∧k≠H+1∧k≠rb:=fun k hk=>⟨(U.out k hk).1,(U.out k hk).2,fun e=>O (e▸hk)⟩
 replace B:=B.outs8 z (fun hk=>(C _ hk).2.2 rfl);replace Bt:=Bt.outs8 z (fun hk=>(C _ hk).1 rfl);replace Bn:=Bn.outs8 z (fun hk=>(C _ hk).2.1 rfl);replace y:=y.trans (z.mono (fun k hk=>List.mem_cons_of_mem _ hk))
 go_wp2
 refine ThenX.to ⟨Or.inr ⟨⟨_,by subst hP;exact⟨B,Bt,Bn⟩⟩,rfl⟩,?_⟩;have N:(Value.slice a2 (m+1) c2).ownBlock=(Value.slice sa m sc).ownBlock∨∃g,(Value.slice a2 (m+1) c2).ownBlock=some g∧H≤g:=by
  rcases aa with h|h
  ·exact Or.inl h
  ·exact Or.inr ⟨_,h,by omega⟩
 have ae:rb∉blk (Value.slice a2 (m+1) c2):=by
  intro hk;unfold blk at hk O;rcases N with h|⟨g,h,hg⟩
  ·rw[h]at hk;exact O hk
  ·rw[h]at hk;simp only[Option.toList,List.mem_singleton]at hk;omega
 clear aa A L x ho z;refine onX 14 2 rfl (by kernel_rfl) ?_
 go_wp2
 refine ThenX.to ⟨Or.inr ⟨⟨_,by subst hP;exact⟨B,Bt,Bn⟩⟩,rfl⟩,?_⟩;refine onX 15 1 rfl (by kernel_rfl) ?_
 go_wp2
 refine ThenX.to ⟨Or.inr ⟨⟨_,by subst hP;exact⟨B,Bt,Bn⟩⟩,rfl⟩,?_⟩;refine onX 16 0 rfl (by kernel_rfl) ?_;have k1:=B.cell 2 _ rfl;have k2:=B.frozen 2
 go_wp2
 clear k1 k2;refine ThenX.to ⟨Or.inl (by kernel_rfl),?_⟩;refine q3D (by kernel_rfl) ?_;have B1:Blk (wc.setCell ⟨rb,2,none⟩ (.slice a2 (m+1) c2)) rb 157 #[r0,r1,.slice a2 (m+1) c2,i0]:=by
  have:=B.set 2 (.slice a2 (m+1) c2);simpa using this
 have T:=Bn.other (b':=rb) (by omega) 2 (.slice a2 (m+1) c2);have ad:=z0R I (Out.setCell wc rb 2 (.slice a2 (m+1) c2)) (fun k hk e=>by simp only[List.mem_singleton]at e;subst e;exact ae hk);have Z:=y.trans ((Out.setCell wc rb 2 (.slice a2 (m+1) c2)).mono (G:=rb::blk (.slice sa m sc)) (fun k hk=>by simp only[List.mem_singleton]at hk;subst hk;simp));generalize wc.setCell ⟨rb,2,none⟩ (.slice a2 (m+1) c2)=we at*;clear B Bn Bt I y;have n0:=T.cell 0 _ rfl;have n3:=T.cell 3 _ rfl;by_cases hc:c=0
 ·subst hc;have k1:=B1.cell 3 _ rfl;have k2:=B1.frozen 3;have B2:Blk (we.setCell ⟨rb,3,none⟩ (.slice ia il ic)) rb 157 #[r0,r1,.slice a2 (m+1) c2,.slice ia il ic]:=by
   have:=B1.set 3 (.slice ia il ic);simpa using this
  have ap:=z0R ad (Out.setCell we rb 3 (.slice ia il ic)) (fun k hk e=>by simp only[List.mem_singleton]at e;subst e;exact ae hk);have an:=Z.trans ((Out.setCell we rb 3 (.slice ia il ic)).mono (G:=rb::blk (.slice sa m sc)) (fun k hk=>by simp only[List.mem_singleton]at hk;subst hk;simp))
  go_wp2
  go_end0
  exact⟨rfl,_,B2,ap,N,an⟩
 ·have aw:(c==0)=false:=by simpa using hc
  go_wp2
  go_end0
  try rw[if_neg hc]
  exact⟨rfl,_,B1,ad,N,Z⟩
def unA(xs:List ItemD)(a:ActD):UndoD:=⟨a.key,hasI xs a.key,valI xs a.key⟩
def unR:List ItemD→List ActD→List UndoD
 |_,[]=>[]
 |xs,a::r=>(if a.kind=4 then []else [unA xs a])++unR (actN xs a) r
def duU(xs:List ItemD)(i s q:Int)(zs:List ActD):List UndoD:=if exC xs i s q zs=0 then unR xs zs else []
theorem hasI_mem{xs:List ItemD}{k:Int}:hasI xs k=true↔∃y∈xs,y.key=k:=by simp[hasI]
theorem q2o{xs:List ItemD}{k:Int}(h:hasI xs k=false):valI xs k=0:=by
 unfold valI;have:xs.find? (fun x=>x.key==k)=none:=by
  rw[List.find?_eq_none];intro y hy;simp;intro e;rw[hasI_mem.2 ⟨y,hy,e⟩]at h;simp at h
 rw[this]
theorem z5H:∀ {zs:List ActD} {xs:List ItemD},xs.length≤8→Good xs→(∀a∈zs,actF a=0)→(z0t xs zs).1=0→(unR xs zs).length≤zs.length∧∀u∈unR xs zs,q5S u=0
 |[],xs,_,_,_,_=>by simp[unR]
 |a::r,xs,hl,g,ha,h=>by
  simp only[z0t,unR]at h⊢;by_cases e:actC xs a=0
  ·rw[if_pos e]at h;obtain⟨h1,h2⟩:=z2S hl g (ha a (by simp)) e;obtain⟨i1,i2⟩:=z5H h1 h2 (fun b hb=>ha b (by simp[hb])) h;have hone:q5S (unA xs a)=0:=by
    obtain⟨_,hy,_⟩:=z11 (ha a (by simp));have hv:=g.valI a.key;have k1:inW a.key 1 20=true:=by simp[inW];omega
    have k2:inW (valI xs a.key) (-20000) 20000=true:=by simp[inW];omega
    unfold q5S unA;dsimp only;rw[k1,k2]
    cases hh:hasI xs a.key
    ·simp[q2o hh]
    ·simp
   constructor
   ·rw[List.length_append,List.length_cons];split<;>simp<;>omega
   ·intro u hu;rcases List.mem_append.1 hu with hu|hu
    ·split at hu
     ·simp at hu
     ·simp at hu;rw[hu];exact hone
    ·exact i2 u hu
  ·rw[if_neg e]at h;exact absurd h e
section
open Go.Maps Go.Sort Go.Shelf
theorem ShelfAt.under{w w':World}{B b:Nat}{xs:List ItemD}(h:ShelfAt w b xs)(hb:Below B w w')(hlt:b<B):ShelfAt w' b xs:=by
 obtain⟨es,clock,hh,r⟩:=h;exact⟨es,clock,(hb.block b hlt).trans hh,r⟩
theorem z5I{w w':World}{lo hi b j:Nat}{v:Value}(h:w.cell? ⟨b,j,none⟩=some v)(ho:Only lo hi w w')(hb:b<lo∨hi≤b):w'.cell? ⟨b,j,none⟩=some v:=by
 have hlt:=World.block_lt_of_cell? w _ h;have e:=ho.block b hlt hb;simp only[World.cell?]at h⊢;rw[e];exact h
theorem z3d(xs:List UndoD)(z:UndoD):z0m (xs++[z])=z0m xs++[.int .i64 z.key,.bool z.was,.int .i64 z.val]:=by simp[z0m,UndoD.cells]
theorem z9Y(xs:List ItemD)(a:ActD)(r:List ActD):unR xs (a::r)=(if a.kind=4 then []else [unA xs a])++unR (actN xs a) r:=rfl
theorem z9s(sb:Nat)(xs:List ItemD)(ta:Option Addr)(tc:Nat)(zs:List ActD)(w:World)(h:ShelfAt w sb xs)(h8:xs.length≤8)(g:Good xs)(ht:ActRow w ta zs)(aq:∀b ag,ta=some ⟨b,ag,none⟩→b≠sb)(aC:zs.length≤4)(Z:∀a∈zs,actF a=0)(hrun:(z0t xs zs).1=0):
  Calls Tryz.prog 221 #[.map (some sb),.slice ta zs.length tc] w fun e w'=>∃b c,e=.returned (.slice b (unR xs zs).length c)∧
   w'.ownsRow w.heap.size 235 3 (.slice b (unR xs zs).length c) (unR xs zs).length (z0m (unR xs zs))∧Only sb (sb+1) w w':=by
 obtain⟨i0,hi,ax,ay,az⟩:=info_parts z4P;have ae:=h.lt;have HA:Hid (∀a∈zs,actF a=0):=Z;have ap:Hid ((z0t xs zs).1=0):=hrun;clear Z hrun;go_enter Tryz.func221,Tryz.ntmps221
 go_wp2
 go_loopw[5,12] (fun v j wr=>∃ (k:Nat) (d:List ItemD) (D:List UndoD),k≤zs.length∧j=.int .i64 k∧ShelfAt wr sb d∧d.length≤8∧D.length≤k∧Hid (Good d∧(z0t d (zs.drop k)).1=0∧unR xs zs=D++unR d (zs.drop k))∧wr.ownsRow w.heap.size 235 3 v D.length (z0m D)∧Only sb (sb+1) w wr) (fun _ j _=>zs.length-(intOf j).toNat)
 case atStart=>exact⟨0,xs,[],Nat.zero_le _,rfl,h,h8,Nat.zero_le _,⟨g,by simpa using ap.out,by simp⟩,World.ownsRow_nil _ _ _ _,Only.refl _ _ _⟩
 case round=>
  obtain⟨k,d,D,hk,rfl,hS,al,hD,HG,ho,hO⟩:=hrel;obtain⟨a1,c1,rfl⟩:=z0g ho;have aw:w.heap.size≤wr.heap.size:=hO.size;by_cases Y:k<zs.length
  ·obtain⟨b,ag,rfl,aA,L,M,N⟩:=ht.at k Y;have aB:=aq b ag rfl;replace L:=z5I L hO (by omega);replace M:=z5I M hO (by omega);replace N:=z5I N hO (by omega);have X:=HA.out (zs.getD k z0d) (by simp[List.getD,Y]);obtain⟨_,aa,_⟩:=z11 X;have hrun:=HG.out.2.1;have af:=HG.out.2.2;rw[z3L Y,z1I]at hrun;rw[z3L Y,z9Y]at af;have hF:actC d (zs.getD k z0d)=0:=by
    by_cases hF:actC d (zs.getD k z0d)=0
    ·exact hF
    ·rw[if_neg hF]at hrun;exact absurd hrun hF
   rw[if_pos hF]at hrun;obtain⟨ad,am⟩:=z2S al HG.out.1 X hF;have y:=fun w h=>q3S sb d (zs.getD k z0d).kind (zs.getD k z0d).key (zs.getD k z0d).val w h al HG.out.1 X
   change∀w h,Calls _ _ _ _ fun e w'=>e=.returned (.int .i64 (actC d (zs.getD k z0d)))∧(actC d (zs.getD k z0d)=0→ShelfAt w' sb (actN d (zs.getD k z0d)))∧_ at y
   rw[hF]at y;have HN:Hid (Good (actN d (zs.getD k z0d))∧(z0t (actN d (zs.getD k z0d)) (zs.drop (k+1))).1=0):=⟨am,hrun⟩
   have HU:Hid (unR xs zs=D++((if(zs.getD k z0d).kind=4 then []else [unA d (zs.getD k z0d)])++unR (actN d (zs.getD k z0d)) (zs.drop (k+1)))):=af;clear hrun af am X HG hF;generalize actN d (zs.getD k z0d)=nx at y HN HU ad;generalize zs.getD k z0d=z at L M N y HU aa;obtain⟨z0,z1,z2⟩:=z;dsimp only at L M N y HU aa;have W:ShelfAt (wr.alloc (.cells #[.int .i64 z0,.int .i64 z1,.int .i64 z2] 144)) sb d:=hS.below (by go_grown);have T:Below wr.heap.size wr (wr.alloc (.cells #[.int .i64 z0,.int .i64 z1,.int .i64 z2] 144)):=by go_grown
   have Bz:=Blk.new wr 144 #[.int .i64 z0,.int .i64 z1,.int .i64 z2];by_cases h4:z0=4
   ·subst h4;have O:Hid (unR xs zs=D++unR nx (zs.drop (k+1))):=by
     show _=_;simpa using HU.out
    have au:((4:Int) !=4)=false:=by decide
    go_wp2_with fail
    refine(y _ W).mono ?_;rintro e w3 ⟨rfl,U,J⟩;have RR:Hid (_∧_∧_):=⟨U trivial,z15 (z0a ho T) J ae,(hO.trans (Only.of_below T)).trans J⟩
    clear U ho hO J y hS W T Bz L M N
    go_wp2
    go_roundw
    case rel=>exact⟨k+1,nx,D,by omega,by go_num,RR.out.1,ad,by omega,⟨HN.out.1,HN.out.2,O.out⟩,RR.out.2.1,RR.out.2.2⟩
    case measure=>simp[intOf];omega
   ·have O:Hid (unR xs zs=(D++[⟨z1,hasI d z1,valI d z1⟩])++unR nx (zs.drop (k+1))):=by
     have:=HU.out;rw[if_neg h4]at this;show _=_;simpa[unA]using this
    have au:(z0 !=4)=true:=by simpa using h4
    have A:∀ (w:World) (_:ShelfAt w sb d) (ops:Array Oper) (rest:List Oper) (o:Oper) (a:Act) (Q:Exit→Act→World→Prop) (hg:o.guard=none) (m x:Operand) (ao:o.op=Op.lookup 309 m x true) (hm:a.eval m=.map (some sb)) (hx:a.eval x=.int .i64 z1) (hK:wpList Tryz.prog ops Q rest (a.put o.dst (.tuple #[.int .i64 (valI d z1),.bool (hasI d z1)])) w),wpList Tryz.prog ops Q (o::rest) a w:=
     fun w h ops rest o a Q hg m x ao hm hx hK=>z2D w hg m x ao sb d hm h z1 hx (by omega) hK
    clear h4 HU;generalize valI d z1=c at A O;generalize hasI d z1=t at A O;have an:((wr.alloc (.cells #[.int .i64 z0,.int .i64 z1,.int .i64 z2] 144)).alloc (.cells #[.int .i64 z1,.bool t,.int .i64 c] 235)).ownsRow w.heap.size 235 3 (.slice a1 D.length c1) D.length (z0m D):=z0a (z0a ho T) (by go_grown);have aj:Below wr.heap.size wr ((wr.alloc (.cells #[.int .i64 z0,.int .i64 z1,.int .i64 z2] 144)).alloc (.cells #[.int .i64 z1,.bool t,.int .i64 c] 235)):=by go_grown
    have ah:=Bz.below (w':=(wr.alloc (.cells #[.int .i64 z0,.int .i64 z1,.int .i64 z2] 144)).alloc (.cells #[.int .i64 z1,.bool t,.int .i64 c] 235)) (by go_grown);have av:=z9B ho (b:=wr.heap.size) (Or.inr (Nat.le_refl _))
    go_wp2_with (first|(at_lookup;refine A _ W _ _ _ _ _ rfl _ _ rfl rfl rfl ?_)|(at_builtin;refine wpList_append_own _ rfl _ _ 160 rfl w.heap.size 235 i0 (.agg #[.int .i64 0,.bool false,.int .i64 0]) 3 24 Tryz.underlying160 hi ax ay az rfl (by decide) _ D.length (z0m D) rfl an ⟨wr.heap.size+1,0,none⟩ 1 1 [.int .i64 z1,.bool t,.int .i64 c] rfl rfl ?c1 ?c2 ?c3 ?c4 ?c5 ?_))
    all_goals try(case c1=>intro j u hj;match j,hj with|0,hj=>simp at hj;subst hj;simp[Addr.add]|1,hj=>simp at hj;subst hj;simp[Addr.add]|2,hj=>simp at hj;subst hj;simp[Addr.add])
    all_goals try(case c2=>first|rfl|exact⟨rfl,rfl,rfl⟩|(intro u hu;simp at hu;rcases hu with rfl|rfl|rfl<;>rfl))
    all_goals try(case c3=>unfold maxLen;omega)
    all_goals try(case c4=>omega)
    all_goals try(case c5=>first|omega|(simp;omega))
    intro v' w3 V I _;obtain⟨a2,c2,rfl⟩:=z0g V;have C:Below w.heap.size wr w3:=(aj.mono aw).grown I (by simp;omega) (fun j hj=>(ho.lt j hj).1);have J:Only sb (sb+1) w w3:=⟨C.os.trans hO.os,C.tape.trans hO.tape,C.output.trans hO.output,Nat.le_trans hO.size C.size,fun j hj hc=>(C.block j hj).trans (hO.block j hj hc)⟩
    have U:=hS.under C ae;have ai:=ah.grown I av;obtain⟨q0,q1,q2⟩:=ai.cel3;clear I an aj ah W T Bz L M N hO ho hS ai C A
    go_wp2_with fail
    refine(y _ U).mono ?_;rintro e w4 ⟨rfl,ak,ab⟩;have RR:Hid (_∧_∧_):=⟨ak trivial,z15 V ab ae,J.trans ab⟩
    clear ak V ab J y q0 q1 q2 U
    go_wp2
    go_roundw
    case rel=>
     refine⟨k+1,nx,D++[⟨z1,t,c⟩],by omega,by go_num,RR.out.1,ad,by simp;omega,⟨HN.out.1,HN.out.2,O.out⟩,?_,RR.out.2.2⟩;rw[z3d];simpa using RR.out.2.1
    case measure=>simp[intOf];omega
  ·have ar:k=zs.length:=by omega
   subst ar;have e:unR xs zs=D:=by
    have:=HG.out.2.2;rw[List.drop_length]at this;simpa[unR]using this
   go_wp2
   go_ret;rw[e];exact⟨_,_,rfl,ho,hO⟩
theorem q4R{xs:List ItemD}{i s q:Int}{zs:List ActD}(h:exC xs i s q zs=0):itemsF xs=0∧txnF i s q zs=0∧(z0t xs zs).1=0:=by
 by_cases h1:itemsF xs=0
 ·by_cases h2:txnF i s q zs=0
  ·refine⟨h1,h2,?_⟩;simpa[exC,h1,h2]using h
  ·simp[exC,h1,h2]at h
 ·simp[exC,h1]at h
theorem q5H{xs:List ItemD}{i s q:Int}{zs:List ActD}(h:exC xs i s q zs≠0):exV xs i s q zs=0∧exR xs i s q zs=[]∧duU xs i s q zs=[]:=by
 simp[exV,exR,duU,h]
theorem z6c(a:Option Addr)(cap:Nat)(xs:List ItemD)(i s q:Int)(ta:Option Addr)(tc:Nat)(zs:List ActD)(w:World)(h:ItemRow w a xs)(ht:ActRow w ta zs)(hl:xs.length≤1048576)(T:zs.length≤1048576):
  Calls Tryz.prog 161 #[.slice a xs.length cap,.agg #[.int .i64 i,.int .i64 s,.int .i64 q,.slice ta zs.length tc]] w fun e w'=>∃b c b2 c2,e=.returned (.agg #[.int .i64 (exC xs i s q zs),.int .i64 (exV xs i s q zs),.slice b (duU xs i s q zs).length c,.slice b2 (exR xs i s q zs).length c2])∧
   OwnU w.heap.size w'.heap.size w' (.slice b (duU xs i s q zs).length c) (.slice b2 (exR xs i s q zs).length c2) (duU xs i s q zs) (exR xs i s q zs)∧Below w.heap.size w w':=by
 have hE:=fun w h ht=>z2E a cap xs i s q ta tc zs w h ht hl T
 have d:Below w.heap.size w ((w.alloc (.cells #[.int .i64 i,.int .i64 s,.int .i64 q,.slice ta zs.length tc] 39)).alloc (.cells #[.int .i64 0,.int .i64 0,.slice none 0 0,.slice none 0 0] 228)):=by go_grown
 have Bt:=(Blk.new w 39 #[.int .i64 i,.int .i64 s,.int .i64 q,.slice ta zs.length tc]).below (w':=(w.alloc (.cells #[.int .i64 i,.int .i64 s,.int .i64 q,.slice ta zs.length tc] 39)).alloc (.cells #[.int .i64 0,.int .i64 0,.slice none 0 0,.slice none 0 0] 228)) (by go_grown);have Br:=Blk.new (w.alloc (.cells #[.int .i64 i,.int .i64 s,.int .i64 q,.slice ta zs.length tc] 39)) 228 #[.int .i64 0,.int .i64 0,.slice none 0 0,.slice none 0 0];rw[World.size_alloc]at Br;by_cases h0:exC xs i s q zs=0
 case neg=>
  obtain⟨e1,e2,e3⟩:=q5H h0;have L:(exC xs i s q zs !=0)=true:=by simpa using h0
  rw[e1,e2,e3];rw[e1,e2]at hE;clear e1 e2 e3 h0;generalize exC xs i s q zs=r at hE L;go_enter Tryz.func161,Tryz.ntmps161;obtain⟨p0,p1,p2,p3⟩:=Bt.cel4
  go_wp2_with fail
  clear p0 p1 p2 p3;have C:=Br.lt;have x:=d.size;generalize (w.alloc (.cells #[.int .i64 i,.int .i64 s,.int .i64 q,.slice ta zs.length tc] 39)).alloc (.cells #[.int .i64 0,.int .i64 0,.slice none 0 0,.slice none 0 0] 228)=W0 at d Bt Br C x;refine(hE _ (h.below d) (ht.below d)).mono ?_;rintro e w1 ⟨ib,ic,rfl,o1,hb⟩;replace Bt:=Bt.below hb;replace Br:=Br.below hb;replace d:=d.trans (hb.mono d.size);have W:=hb.size;clear hb;have hb:Below w1.heap.size w1 (w1.alloc (.cells #[.int .i64 r,.int .i64 0,.slice ib 0 ic] 243)):=by go_grown
  replace Br:=Br.below hb;replace d:=d.trans (hb.mono d.size);obtain⟨p0,p1,p2,p3⟩:=Br.cel4;obtain⟨f0,f1,f2,f3⟩:=Br.frz4;clear hb
  go_wp2
  refine bodyPost_ret (v:=.agg #[.int .i64 r,.int .i64 0,.slice none 0 0,.slice none 0 0]) (by simp[results,Tryz.results161,go_sem,p0,p1,p2,p3]) rfl ⟨_,_,_,_,rfl,⟨OwnS.of (World.ownsRow_nil _ _ _ _),OwnS.of (World.ownsRow_nil _ _ _ _),Or.inl rfl⟩,?_⟩;repeat' (refine Below.setCell ?_ (by dsimp only;omega) _)
  exact d
 case pos=>
  obtain⟨z1,z2,z3⟩:=q4R h0;obtain⟨h8,g⟩:=z1Z z1;obtain⟨⟨af,aa⟩,z⟩:=z0W z2;have Y:=fun w h=>z5D a cap xs w h h8 g
  have I:duU xs i s q zs=unR xs zs:=by simp[duU,h0]
  have Z:∃b y,ta=some ⟨b,y,none⟩∧b<w.heap.size:=by
   obtain⟨b,y,e,J,_⟩:=ht.at 0 (by omega);exact⟨b,y,e,J⟩
  have N:=fun sb w hS ht A=>z9s sb xs ta tc zs w hS h8 g ht A aa z z3
  rw[I,h0];rw[h0]at hE;clear z z1 z2 z3 I h0 g;generalize exV xs i s q zs=V at hE⊢;generalize exR xs i s q zs=R at hE⊢;generalize unR xs zs=U at N⊢;go_enter Tryz.func161,Tryz.ntmps161;obtain⟨p0,p1,p2,p3⟩:=Bt.cel4
  go_wp2_with fail
  clear p0 p1 p2 p3;have C:=Br.lt;have x:=d.size;generalize (w.alloc (.cells #[.int .i64 i,.int .i64 s,.int .i64 q,.slice ta zs.length tc] 39)).alloc (.cells #[.int .i64 0,.int .i64 0,.slice none 0 0,.slice none 0 0] 228)=W0 at d Bt Br C x;refine(hE _ (h.below d) (ht.below d)).mono ?_;rintro e w1 ⟨ib,ic,rfl,o1,hb⟩;replace Bt:=Bt.below hb;replace Br:=Br.below hb;replace d:=d.trans (hb.mono d.size);have W:=hb.size;clear hb;have hb:Below w1.heap.size w1 (w1.alloc (.cells #[.int .i64 0,.int .i64 V,.slice ib R.length ic] 243)):=by go_grown
  have Bd:=Blk.new w1 243 #[.int .i64 0,.int .i64 V,.slice ib R.length ic];replace Br:=Br.below hb;replace Bt:=Bt.below hb;replace o1:=z0a o1 hb;replace d:=d.trans (hb.mono d.size);have X:=hb.size;clear hb
  go_wp2_with fail
  generalize w1.alloc (.cells #[.int .i64 0,.int .i64 V,.slice ib R.length ic] 243)=W2 at d Bt Br Bd o1 X;have ae:=d.size;have hW:Below W2.heap.size W2 W2.drew:=(Below.refl _ _).drew;have L:Nonempty (Lat W2):=⟨⟨W2,Below.refl _ _⟩⟩
  have k1:=Bd.lat 1 _ rfl;have k2:=Bd.lat 2 _ rfl;have k3:=Bt.lat 3 _ rfl;refine z4m (S:=fun w'=>∃u:Lat W2,w'=u.val) (R:=fun _ _=>False) 10 (by kernel_rfl) (fun _ _ _ _ h=>h.elim) ?_;refine sgX [(0,3),(4,2),(7,2)] 4 (by kernel_rfl) ⟨⟨_,hW⟩,rfl⟩ ?_;simp only[pkE];repeat go_big_quiet_step (fail)
  refine wpQuiet_nil ?_;refine clX 3 (some 18) 220 #[.slice a xs.length cap] 3 (by kernel_rfl) rfl ?_;refine(Y _ (h.below (d.trans (hW.mono d.size)))).mono ?_;rintro e w3 ⟨rfl,hS,hb⟩;have O:=hW.size;replace hW:=hW.trans (hb.mono hW.size);have M:=hb.size;clear hb;refine Or.inl ⟨_,rfl,⟨⟨_,hW⟩,rfl⟩,?_⟩;simp only[Act.put,pgE,pjE];generalize W2.drew.heap.size=sb at hS O M⊢;refine clX 6 (some 21) 221 #[.map (some sb),.slice ta zs.length tc] 2 (by kernel_rfl) rfl ?_;refine(N _ _ hS (ht.below (d.trans (hW.mono d.size))) (fun b y e=>?_)).mono ?_
  ·obtain⟨b',ab,e',J⟩:=Z;rw[e]at e';simp only[Option.some.injEq,Addr.mk.injEq,and_true]at e';omega
  rintro e w4 ⟨ub,uc,rfl,o4,hO⟩;replace hW:=z3S hW hO O (by omega);clear hO hS;refine Or.inl ⟨_,rfl,⟨⟨_,hW⟩,rfl⟩,?_⟩;simp only[Act.put,pgE,pjE];refine onX 9 1 rfl (by kernel_rfl) ?_
  go_wp2
  refine ThenX.to ⟨Or.inr ⟨⟨_,hW⟩,rfl⟩,?_⟩;refine onX 10 0 rfl (by kernel_rfl) ?_;have ad:=Br.lt;have A:=z8N o1 o4 (by omega);replace Br:=Br.below hW;replace o1:=z0a o1 hW;replace d:=d.trans (hW.mono d.size);obtain⟨p0,p1,p2,p3⟩:=Br.cel4;obtain⟨f0,f1,f2,f3⟩:=Br.frz4
  go_wp2
  refine ThenX.to ⟨Or.inl (by kernel_rfl),?_⟩;refine q3D (by kernel_rfl) ?_
  go_wp2
  have n1:∀k,(Value.slice ub U.length uc).ownBlock=some k→k≠w.heap.size+1:=fun k hk=>by have:=(o4.lt k hk).1;omega
  have n2:∀k,(Value.slice ib R.length ic).ownBlock=some k→k≠w.heap.size+1:=fun k hk=>by have:=(o1.lt k hk).1;omega
  refine bodyPost_ret (v:=.agg #[.int .i64 0,.int .i64 V,.slice ub U.length uc,.slice ib R.length ic]) (by simp[results,Tryz.results161,go_sem,p0,p1,p2,p3]) rfl ⟨_,_,_,_,rfl,⟨OwnS.of (z0o (z0h (z0h (z0h (z0h o4 n1) n1) n1) n1) (by omega)),OwnS.of (z0o (z0h (z0h (z0h (z0h o1 n2) n2) n2) n2) (by omega)),A⟩,?_⟩;repeat' (refine Below.setCell ?_ (by dsimp only;omega) _)
  exact d
end
section
open Go.Maps
theorem q5I{xs:List ItemD}{i s q:Int}{zs:List ActD}(h:itemsF xs=0)(h2:txnF i s q zs=0):exC xs i s q zs=(z0t xs zs).1∧exR xs i s q zs=runR xs zs∧exV xs i s q zs=runV xs zs:=by
 have e:exC xs i s q zs=(z0t xs zs).1:=by simp[exC,h,h2]
 exact⟨e,by unfold exR runR;rw[e],by unfold exV runV;rw[e]⟩
end
end Go.Proofs.YtlkpdgjnhkjpjaaGreatDoor
