import Derived.Test.YtlkpdgjnhkjpjaaGreatDoorSUAF
set_option linter.unusedVariables false
set_option linter.unusedSimpArgs false
set_option maxRecDepth 100000
set_option maxHeartbeats 2000000
namespace Go.Proofs.YtlkpdgjnhkjpjaaGreatDoor
open Go.RowKit Go.BigFrame
open Nat renaming le_refl->Q
open IntKind renaming i64->K
open Value renaming int->S,slice->G
open Go.Proofs.Tryz renaming prog->F
open Go.Proofs.Tryz
structure USP where
 d:List UndoD
 a:Option Addr
 cap:Nat
def USP.sl(p:USP):Value:=G p.a p.d.length p.cap
def z4a(ps:List USP):List Value:=ps.map USP.sl
def q14:USP:=⟨[],none,0⟩
theorem z6a(ps:List USP):(z4a ps).length=ps.length:=by simp[z4a]
theorem z9r(ps:List USP)(i:Nat)(h:i<ps.length):(z4a ps)[i]?=some (ps.getD i q14).sl:=by simp[z4a,List.getD,h]
def UssAt(w:World)(v:Value)(ds:List (List UndoD)):Prop:=
 ∃a cap ps,v=G a ds.length cap∧ps.map USP.d=ds∧Lies w a (z4a ps)∧∀p∈ps,UndoRow w p.a p.d
theorem UssAt.below{w w':World}{v:Value}{ds:List (List UndoD)}(h:UssAt w v ds)(hb:Below w.heap.size w w'):UssAt w' v ds:=by
 obtain⟨a,cap,ps,e,hd,hL,hA⟩:=h;exact⟨a,cap,ps,e,hd,hL.below hb,fun p hp=>(hA p hp).below hb⟩
theorem UssAt.shape{w:World}{v:Value}{ds:List (List UndoD)}(h:UssAt w v ds):∃a cap,v=G a ds.length cap:=by
 obtain⟨a,cap,_,e,_⟩:=h;exact⟨a,cap,e⟩
theorem UssAt.at{w:World}{a:Option Addr}{n cap:Nat}{ds:List (List UndoD)}(h:UssAt w (G a n cap) ds)(i:Nat)(hi:i<ds.length):
  ∃b off aa cc,a=some ⟨b,off,none⟩∧b<w.heap.size∧w.cell? ⟨b,off+i,none⟩=some (.slice aa (ds.getD i []).length cc)∧UndoRow w aa (ds.getD i []):=by
 obtain⟨a',cap',ps,e,hd,hL,hA⟩:=h;simp only[Value.slice.injEq]at e;obtain⟨rfl,_,_⟩:=e;have hl:ps.length=ds.length:=by rw[←hd];simp
 have h1:=z9r ps i (by omega);have hp:(ps.getD i q14).d=ds.getD i []:=by
  rw[←hd];simp[List.getD,show i<ps.length by omega]
 have hm:ps.getD i q14∈ps:=by simp[List.getD,show i<ps.length by omega]
 rcases hL with h|⟨b,off,ha,hlt,hc⟩
 ·have:=z6a ps;rw[h]at this;simp at this;omega
 ·have hAA:=hA _ hm;rw[hp]at hAA;refine⟨b,off,(ps.getD i q14).a,(ps.getD i q14).cap,ha,hlt,?_,hAA⟩;rw[hc _ _ h1];simp only[USP.sl,hp]
def OwnUss(lo hi:Nat)(w:World)(v:Value)(ds:List (List UndoD)):Prop:=
 ∃g cap ps,v=G (some ⟨g,0,none⟩) ds.length cap∧g<hi∧ps.map USP.d=ds∧w.ownsRow lo 160 1 (G (some ⟨g,0,none⟩) ds.length cap) ds.length (z4a ps)∧
  ∀p∈ps,w.ownsRow lo 235 3 p.sl p.d.length (z0n p.d)∧∀k,p.sl.ownBlock=some k→k<hi∧k≠g
theorem OwnUss.row{lo hi:Nat}{w:World}{v:Value}{ds:List (List UndoD)}(h:OwnUss lo hi w v ds):UssAt w v ds:=by
 obtain⟨g,cap,ps,e,_,hd,ho,hp⟩:=h;exact⟨_,cap,ps,e,hd,Lies.own ho,fun p hm=>Lies.own (hp p hm).1⟩
theorem OwnUss.below{lo hi:Nat}{w w':World}{v:Value}{ds:List (List UndoD)}(h:OwnUss lo hi w v ds)(hb:Below w.heap.size w w'):OwnUss lo hi w' v ds:=by
 obtain⟨g,cap,ps,e,hg,hd,ho,hp⟩:=h;exact⟨g,cap,ps,e,hg,hd,z0b ho hb,fun p hm=>⟨z0b (hp p hm).1 hb,(hp p hm).2⟩⟩
theorem OwnUss.only{lo hi lo' hi':Nat}{w w':World}{v:Value}{ds:List (List UndoD)}(h:OwnUss lo hi w v ds)(ho:Only lo' hi' w w')(hh:hi'≤lo):OwnUss lo hi w' v ds:=by
 obtain⟨g,cap,ps,e,hg,hd,o,hp⟩:=h;exact⟨g,cap,ps,e,hg,hd,z2f o ho hh,fun p hm=>⟨z2f (hp p hm).1 ho hh,(hp p hm).2⟩⟩
structure Apart3 (s1 s2 s3:Value):Prop where
 a12:s1.ownBlock=none∨s1.ownBlock≠s2.ownBlock
 a13:s1.ownBlock=none∨s1.ownBlock≠s3.ownBlock
 a23:s2.ownBlock=none∨s2.ownBlock≠s3.ownBlock
theorem z68{s t:Value}(h:s.ownBlock=none∨s.ownBlock≠t.ownBlock):t.ownBlock=none∨t.ownBlock≠s.ownBlock:=by
 rcases h with h|h
 ·cases ht:t.ownBlock with
  |none=>exact Or.inl rfl
  |some g=>right;rw[h];simp
 ·exact Or.inr (fun e=>h e.symm)
structure OwnA (lo hi:Nat) (w:World) (s1 s2 s3:Value) (cs vs:List Int) (ys:List ItemD):Prop where
 o1:OwnS 2 1 lo hi w s1 cs.length (cs.map (Value.int .i64))
 o2:OwnS 2 1 lo hi w s2 vs.length (vs.map (Value.int .i64))
 o3:OwnS 119 2 lo hi w s3 ys.length (z0h ys)
 ap:Apart3 s1 s2 s3
structure RowA (w:World) (a1 a2 a3:Option Addr) (cs vs:List Int) (ys:List ItemD):Prop where
 r1:Row .i64 w a1 cs
 r2:Row .i64 w a2 vs
 r3:ItemRow w a3 ys
theorem OwnA.below{lo hi:Nat}{w w':World}{s1 s2 s3:Value}{cs vs:List Int}{ys:List ItemD}(h:OwnA lo hi w s1 s2 s3 cs vs ys)(hb:Below w.heap.size w w'):OwnA lo hi w' s1 s2 s3 cs vs ys:=⟨h.o1.below hb,h.o2.below hb,h.o3.below hb,h.ap⟩
theorem OwnA.only{lo hi lo' hi':Nat}{w w':World}{s1 s2 s3:Value}{cs vs:List Int}{ys:List ItemD}(h:OwnA lo hi w s1 s2 s3 cs vs ys)(ho:Only lo' hi' w w')(hh:hi'≤lo):OwnA lo hi w' s1 s2 s3 cs vs ys:=⟨h.o1.only ho hh,h.o2.only ho hh,h.o3.only ho hh,h.ap⟩
theorem OwnA.row{lo hi c1 c2 c3:Nat}{w:World}{a1 a2 a3:Option Addr}{cs vs:List Int}{ys:List ItemD}(h:OwnA lo hi w (G a1 cs.length c1) (G a2 vs.length c2) (G a3 ys.length c3) cs vs ys):RowA w a1 a2 a3 cs vs ys:=⟨Row.own h.o1.1,Row.own h.o2.1,Lies.own h.o3.1⟩
theorem RowA.below{w w':World}{a1 a2 a3:Option Addr}{cs vs:List Int}{ys:List ItemD}(h:RowA w a1 a2 a3 cs vs ys)(hb:Below w.heap.size w w'):RowA w' a1 a2 a3 cs vs ys:=⟨h.r1.below hb,h.r2.below hb,h.r3.below hb⟩
structure MarkA (w:World) (a1 a2 a3:Option Addr) (n1 n2 n3:Nat):Prop where
 r1:Row .i64 w a1 (z3y .i64 1 n1)
 r2:Row .i64 w a2 (z3y .i64 (1+(n1:Int)) n2)
 r3:ItemRow w a3 (z0J (1+(n1:Int)+(n2:Int)) n3)
theorem MarkA.below{w w':World}{a1 a2 a3:Option Addr}{n1 n2 n3:Nat}(h:MarkA w a1 a2 a3 n1 n2 n3)(hb:Below w.heap.size w w'):MarkA w' a1 a2 a3 n1 n2 n3:=⟨h.r1.below hb,h.r2.below hb,h.r3.below hb⟩
structure OwnU (lo hi:Nat) (w:World) (s1 s2:Value) (us:List UndoD) (ys:List ItemD):Prop where
 o1:OwnS 235 3 lo hi w s1 us.length (z0n us)
 o2:OwnS 119 2 lo hi w s2 ys.length (z0h ys)
 ap:s1.ownBlock=none∨s1.ownBlock≠s2.ownBlock
structure RowU (w:World) (a1 a2:Option Addr) (us:List UndoD) (ys:List ItemD):Prop where
 r1:UndoRow w a1 us
 r2:ItemRow w a2 ys
theorem OwnU.below{lo hi:Nat}{w w':World}{s1 s2:Value}{us:List UndoD}{ys:List ItemD}(h:OwnU lo hi w s1 s2 us ys)(hb:Below w.heap.size w w'):OwnU lo hi w' s1 s2 us ys:=⟨h.o1.below hb,h.o2.below hb,h.ap⟩
theorem OwnU.only{lo hi lo' hi':Nat}{w w':World}{s1 s2:Value}{us:List UndoD}{ys:List ItemD}(h:OwnU lo hi w s1 s2 us ys)(ho:Only lo' hi' w w')(hh:hi'≤lo):OwnU lo hi w' s1 s2 us ys:=⟨h.o1.only ho hh,h.o2.only ho hh,h.ap⟩
theorem OwnU.row{lo hi c1 c2:Nat}{w:World}{a1 a2:Option Addr}{us:List UndoD}{ys:List ItemD}(h:OwnU lo hi w (G a1 us.length c1) (G a2 ys.length c2) us ys):RowU w a1 a2 us ys:=⟨Lies.own h.o1.1,Lies.own h.o2.1⟩
theorem RowU.below{w w':World}{a1 a2:Option Addr}{us:List UndoD}{ys:List ItemD}(h:RowU w a1 a2 us ys)(hb:Below w.heap.size w w'):RowU w' a1 a2 us ys:=⟨h.r1.below hb,h.r2.below hb⟩
structure MarkU (w:World) (a1 a2:Option Addr) (n1 n2:Nat):Prop where
 r1:UndoRow w a1 (z0Q 1 n1)
 r2:ItemRow w a2 (z0J (1+((n1*3:Nat):Int)) n2)
theorem MarkU.below{w w':World}{a1 a2:Option Addr}{n1 n2:Nat}(h:MarkU w a1 a2 n1 n2)(hb:Below w.heap.size w w'):MarkU w' a1 a2 n1 n2:=⟨h.r1.below hb,h.r2.below hb⟩
def q6U:List Value:=[
 S K 2,S K 0,S K 0,S K 0,.bool true,.bool false,S K 0,
 S K 0,S K 2,S K 1,S K 0,.bool true,.bool false,S K 1,
 S K 1,S K 0,S K 2,S K 0,.bool false,.bool false,S K 0,
 S K 0,S K 1,S K 2,S K 0,.bool false,.bool false,S K 1,
 S K 0,S K 0,S K 2,S K 0,.bool false,.bool true,S K 0]
def Rul(w:World):Prop:=∀i v,q6U[i]?=some v→w.cell? ⟨1,i,none⟩=some v
theorem Rul.below{w w':World}(h:Rul w)(hb:Below w.heap.size w w'):Rul w':=by
 intro i v hv;have h1:=h i v hv;rw[hb.cell (p:=⟨1,i,none⟩) (World.block_lt_of_cell? w ⟨1,i,none⟩ h1)];exact h1
abbrev fl(n:Int):Nat:=floatOfInt FloatKind.f64 n
theorem q45:∀a∈[(0:Int),1,2,3],∀b∈[(0:Int),1,2,3],(FloatKind.f64.format.order (fl a) (fl b)==some .gt||FloatKind.f64.format.order (fl a) (fl b)==some .eq)=decide (b≤a):=by decide+kernel
theorem q46:∀a∈[(0:Int),1,2,3],(FloatKind.f64.format.order (fl a) 0==some .gt)=decide (0<a):=by decide+kernel
theorem q3w{a:Int}(h:0≤a∧a≤3):a∈[(0:Int),1,2,3]:=by
 have:a=0∨a=1∨a=2∨a=3:=by omega
 rcases this with rfl|rfl|rfl|rfl<;>simp
theorem q4t{a b:Int}(ha:0≤a∧a≤3)(hb:0≤b∧b≤3):(FloatKind.f64.format.order (fl a) (fl b)==some .gt||FloatKind.f64.format.order (fl a) (fl b)==some .eq)=decide (b≤a):=q45 a (q3w ha) b (q3w hb)
theorem q4u{a:Int}(ha:0≤a∧a≤3):(FloatKind.f64.format.order (fl a) 0==some .gt)=decide (0<a):=q46 a (q3w ha)
def q50(zi oi pr:Int)(d k:Bool)(vl:Int):Value:=.agg #[S K zi,S K oi,S K pr,S K 0,.bool d,.bool k,S K vl]
theorem q3K(zi oi pr:Int)(d k:Bool)(vl z o:Int)(w:World)(hzi:0≤zi∧zi≤3)(hoi:0≤oi∧oi≤3)(hz:0≤z∧z≤3)(ho:0≤o∧o≤3):
  Calls F 326 #[q50 zi oi pr d k vl,.complex .f64 (fl z) (fl o)] w fun e w'=>e=.returned (.bool (decide (zi≤z) && decide (oi≤o)))∧Below w.heap.size w w':=by
 have f1:=q4t hz hzi;have f2:=q4t ho hoi;unfold q50;generalize fl z=z0 at f1⊢;generalize fl o=o0 at f2⊢;dsimp only[fl]at f1 f2;by_cases h1:zi≤z
 ·have d1:decide (zi≤z)=true:=decide_eq_true h1;rw[d1]at f1⊢;generalize decide (oi≤o)=t at f2⊢;clear h1 d1 hzi hoi hz ho;go_enter func326,ntmps326
  go_wp2
  go_ret;exact⟨by simp[f2],by go_grown⟩
 ·have d1:decide (zi≤z)=false:=decide_eq_false h1;rw[d1]at f1⊢;clear h1 d1 hzi hoi hz ho f2;go_enter func326,ntmps326
  go_wp2
  go_ret;exact⟨by simp,by go_grown⟩
def rz(k:Nat):Int:=[2,0,1,0,0].getD k 0
def ro(k:Nat):Int:=[0,2,0,1,0].getD k 0
def rp(k:Nat):Int:=[0,1,2,2,2].getD k 0
def rd(k:Nat):Bool:=[true,true,false,false,false].getD k false
def rc(k:Nat):Bool:=[false,false,false,false,true].getD k false
def rv(k:Nat):Int:=[0,1,0,1,0].getD k 0
def q6b(k:Nat):Value:=q50 (rz k) (ro k) (rp k) (rd k) (rc k) (rv k)
def q3L(k:Nat)(z o:Int):Bool:=decide (rz k≤z) && decide (ro k≤o)
def pick5(z o:Int):Nat:=if 2≤z then 0 else if 2≤o then 1 else if 1≤z then 2 else if 1≤o then 3 else 4
theorem q6V:∀z∈[(0:Int),1,2,3],∀o∈[(0:Int),1,2,3],pick5 z o≤4∧∀k,k<5→k≤pick5 z o→(q3L k z o=true→k=pick5 z o)∧(q3L k z o=false→k+1≤pick5 z o):=by decide+kernel
theorem q47{z o:Int}(hz:0≤z∧z≤3)(ho:0≤o∧o≤3):pick5 z o≤4∧∀k,k<5→k≤pick5 z o→(q3L k z o=true→k=pick5 z o)∧(q3L k z o=false→k+1≤pick5 z o):=q6V z (q3w hz) o (q3w ho)
theorem q6c{w:World}(h:Rul w)(k:Nat)(hk:k<5):w.cell? ⟨1,k*7,none⟩=some (S K (rz k))∧w.cell? ⟨1,k*7+1,none⟩=some (S K (ro k))∧w.cell? ⟨1,k*7+2,none⟩=some (S K (rp k))∧w.cell? ⟨1,k*7+3,none⟩=some (S K 0)∧
  w.cell? ⟨1,k*7+4,none⟩=some (.bool (rd k))∧w.cell? ⟨1,k*7+5,none⟩=some (.bool (rc k))∧w.cell? ⟨1,k*7+6,none⟩=some (S K (rv k)):=by
 match k,hk with
 |0,_=>exact⟨h _ _ rfl,h _ _ rfl,h _ _ rfl,h _ _ rfl,h _ _ rfl,h _ _ rfl,h _ _ rfl⟩
 |1,_=>exact⟨h _ _ rfl,h _ _ rfl,h _ _ rfl,h _ _ rfl,h _ _ rfl,h _ _ rfl,h _ _ rfl⟩
 |2,_=>exact⟨h _ _ rfl,h _ _ rfl,h _ _ rfl,h _ _ rfl,h _ _ rfl,h _ _ rfl,h _ _ rfl⟩
 |3,_=>exact⟨h _ _ rfl,h _ _ rfl,h _ _ rfl,h _ _ rfl,h _ _ rfl,h _ _ rfl,h _ _ rfl⟩
 |4,_=>exact⟨h _ _ rfl,h _ _ rfl,h _ _ rfl,h _ _ rfl,h _ _ rfl,h _ _ rfl,h _ _ rfl⟩
theorem q7d(k:Nat)(hk:k<5):(0≤rz k∧rz k≤3)∧(0≤ro k∧ro k≤3):=by
 match k,hk with
 |0,_=>decide
 |1,_=>decide
 |2,_=>decide
 |3,_=>decide
 |4,_=>decide
theorem z5p(z o:Int)(w:World)(hG:Rul w)(hz:0≤z∧z≤3)(ho:0≤o∧o≤3):
  Calls F 317 #[.complex .f64 (fl z) (fl o)] w fun e w'=>e=.returned (q6b (pick5 z o))∧Below w.heap.size w w':=by
 obtain⟨hp,D⟩:=q47 hz ho;generalize hE:pick5 z o=E at hp D⊢;clear hE;have x:=fun k (hk:k<5) w=>q3K (rz k) (ro k) (rp k) (rd k) (rc k) (rv k) z o w (q7d k hk).1 (q7d k hk).2 hz ho
 generalize fl z=z0 at x⊢;generalize fl o=o0 at x⊢;go_enter func317,ntmps317
 go_wp2
 have Bx:=Blk.new w 393 #[S K 0,S K 0,S K 0,S K 0,.bool false,.bool false,S K 0];have hB:Below w.heap.size w (w.alloc (.cells #[S K 0,S K 0,S K 0,S K 0,.bool false,.bool false,S K 0] 393)):=by go_grown
 generalize w.alloc (.cells #[S K 0,S K 0,S K 0,S K 0,.bool false,.bool false,S K 0] 393)=W at*;go_loopw[3] (fun i wr=>∃k:Nat,k<5∧k≤E∧i=S K k∧Below W.heap.size W wr) (fun i _=>5-(intOf i).toNat)
 case atStart=>exact⟨0,by omega,Nat.zero_le _,rfl,Below.refl _ _⟩
 case round=>
  obtain⟨k,hk,J,rfl,hb⟩:=hrel;replace hB:=hB.trans (hb.mono hB.size);replace Bx:=Bx.below hb;obtain⟨c0,c1,c2,c3,c4,c5,c6⟩:=q6c (hG.below hB) k hk;obtain⟨hy,hn⟩:=D k hk J;have HY:Hid (q3L k z o=true→k=E):=hy;have HN:Hid (q3L k z o=false→k+1≤E):=hn;have hf:=x k hk wr;rw[show(decide (rz k≤z) && decide (ro k≤o))=q3L k z o from rfl]at hf;clear x D hy hn;unfold q50 at hf;have HV:Hid (q6b k=.agg #[S K (rz k),S K (ro k),S K (rp k),S K 0,.bool (rd k),.bool (rc k),S K (rv k)]):=rfl;generalize rz k=a0 at*;generalize ro k=a1 at*;generalize rp k=a2 at*;generalize rd k=a4 at*;generalize rc k=a5 at*;generalize rv k=a6 at*
  go_wp2_with fail
  refine hf.mono ?_;rintro e w2 ⟨rfl,c⟩;have d:=World.block_lt_of_cell? wr ⟨1,k*7,none⟩ c0;dsimp only at d;replace c0:=(c.cell (p:=⟨1,k*7,none⟩) d).trans c0;replace c1:=(c.cell (p:=⟨1,k*7+1,none⟩) d).trans c1;replace c2:=(c.cell (p:=⟨1,k*7+2,none⟩) d).trans c2;replace c3:=(c.cell (p:=⟨1,k*7+3,none⟩) d).trans c3;replace c4:=(c.cell (p:=⟨1,k*7+4,none⟩) d).trans c4;replace c5:=(c.cell (p:=⟨1,k*7+5,none⟩) d).trans c5;replace c6:=(c.cell (p:=⟨1,k*7+6,none⟩) d).trans c6;replace Bx:=Bx.below c;replace hB:=hB.trans (c.mono hB.size);replace hb:=hb.trans (c.mono hb.size);clear hf c d;by_cases A:q3L k z o=true
  ·have y:=HY.out A;clear HY HN;rw[A];obtain⟨p0,p1,p2,p3,p4,p5,p6⟩:=Bx.cel7;obtain⟨f0,f1,f2,f3,f4,f5,f6⟩:=Bx.frz7;have hV:Hid (q6b E=.agg #[S K a0,S K a1,S K a2,S K 0,.bool a4,.bool a5,S K a6]):=by rw[←y];exact HV.out
   have I:=((((((hB.setCell (p:=⟨w.heap.size,0,none⟩) (Q _) (S K a0)).setCell (p:=⟨w.heap.size,1,none⟩) (Q _) (S K a1)).setCell (p:=⟨w.heap.size,2,none⟩) (Q _) (S K a2)).setCell (p:=⟨w.heap.size,3,none⟩) (Q _) (S K 0)).setCell (p:=⟨w.heap.size,4,none⟩) (Q _) (.bool a4)).setCell (p:=⟨w.heap.size,5,none⟩) (Q _) (.bool a5)).setCell (p:=⟨w.heap.size,6,none⟩) (Q _) (S K a6);have HB:Hid (Below w.heap.size w _):=I;clear Bx hB hb I y HV
   go_wp2
   exact bodyPost_ret (v:=.agg #[S K a0,S K a1,S K a2,S K 0,.bool a4,.bool a5,S K a6]) (by simp[results,results317,go_sem,p0,p1,p2,p3,p4,p5,p6]) rfl ⟨by rw[hV.out],HB.out⟩
  ·have C:q3L k z o=false:=by simpa using A
   have y:=HN.out C;clear HY HN A;rw[C];clear c0 c1 c2 c3 c4 c5 c6 Bx hB
   go_wp2
   go_roundw
   case rel=>exact⟨k+1,by omega,y,by go_num,hb⟩
   case measure=>simp[intOf];omega
def z2w(zs:List Int)(m:Int):Bool:=isQ m && (cnt m zs 3==0)
theorem q15{m:Int}(h:isQ m=true):inB m 0 7=true:=by
 unfold isQ at h;rw[Bool.and_eq_true]at h;exact h.1
theorem z4X{zs:List Int}{m:Int}(h:z2w zs m=true):inB m 0 7=true:=by
 unfold z2w at h;rw[Bool.and_eq_true]at h;exact q15 h.1
theorem q6W(zs:List Int):vfault zs 2=vf zs 2:=by simp[vfault,inB]
theorem q6d(zs:List Int):vfault zs 1=vf zs 1:=by simp[vfault,inB]
theorem z5q(a:Option Addr)(cap:Nat)(zs:List Int)(m:Int)(w:World)(h:Row .i64 w a zs)(hl:zs.length=3):
  Calls F 316 #[G a 3 cap,S K m] w fun e w'=>e=.returned (.bool (z2w zs m))∧w'=w:=by
 have hq:=z7Y m w;have hvo:=z1V a cap zs 3 w h hl;unfold z2w;by_cases h1:isQ m=true
 ·obtain⟨q1,q2,q3⟩:=z9d (q15 h1) zs 3;rw[h1]at hq⊢;rw[←q3];clear q1 q2 q3 h1;generalize vot zs 3=u at*;go_enter func316,ntmps316
  go_wp2_with (first|(go_at_call 325;refine hq.mono ?_;rintro e w' ⟨rfl,rfl⟩)|(go_at_call 294;refine hvo.mono ?_;rintro e w' ⟨rfl,rfl⟩))
  go_ret;exact⟨by simp,rfl⟩
 ·have h1':isQ m=false:=by simpa using h1
  rw[h1']at hq⊢;clear h1 h1';go_enter func316,ntmps316
  go_wp2_with (go_at_call 325;refine hq.mono ?_;rintro e w' ⟨rfl,rfl⟩)
  go_ret;exact⟨by simp,rfl⟩
theorem z2D(a:Option Addr)(cap:Nat)(zs:List Int)(m:Int)(w:World)(h:Row .i64 w a zs)(hl:zs.length=3)(hm:inB m 0 7=true):
  Calls F 315 #[G a 3 cap,S K m] w fun e w'=>e=.returned (.complex .f64 (fl (cnt m zs 0)) (fl (cnt m zs 1)))∧w'=w:=by
 obtain⟨q1,q2,_⟩:=z9d hm zs 0;obtain⟨r1,r2,_⟩:=z9d hm zs 1;have hn0:=z2e _ w q1;have hn1:=z2e _ w r1;rw[q2]at hn0;rw[r2]at hn1;have hv0:=z1V a cap zs 0 w h hl;have hv1:=z1V a cap zs 1 w h hl;clear q1 q2 r1 r2;generalize vot zs 0=u0 at*;generalize vot zs 1=u1 at*;generalize cnt m zs 0=c0 at*;generalize cnt m zs 1=c1 at*;go_enter func315,ntmps315
 go_wp2_with fail
 refine hv0.mono ?_;rintro e w' ⟨rfl,hw⟩;replace hw:=hw.symm;subst hw
 go_wp2_with fail
 refine hn0.mono ?_;rintro e w' ⟨rfl,hw⟩;replace hw:=hw.symm;subst hw
 go_wp2_with fail
 refine hv1.mono ?_;rintro e w' ⟨rfl,hw⟩;replace hw:=hw.symm;subst hw
 go_wp2_with fail
 refine hn1.mono ?_;rintro e w' ⟨rfl,hw⟩;replace hw:=hw.symm;subst hw
 go_wp2
 go_ret;exact⟨rfl,rfl⟩
def pr2(z o:Int):Int:=if 2≤z then 0 else if 2≤o then 1 else 2
def pfC(zs:List Int)(m:Int):Int:=if vf zs 1=0 then(if z2w zs m then 0 else 10)else vf zs 1
def pfV(zs:List Int)(m:Int):Int:=if pfC zs m=0 then pr2 (cnt m zs 0) (cnt m zs 1)else 0
theorem q6e:∀z∈[(0:Int),1,2,3],∀o∈[(0:Int),1,2,3],rp (pick5 z o)=pr2 z o:=by decide+kernel
theorem q48(a0 a1 a2 a3:Int)(a4 a5:Bool)(a6:Int)(w:World):(Instr.field 393 (.agg #[S K a0,S K a1,S K a2,S K a3,.bool a4,.bool a5,S K a6]) 2).run F w=.ok (S K a2) w:=by kernel_rfl
theorem q49(a0 a1 a2 a3:Int)(a4 a5:Bool)(a6:Int)(w:World):(Instr.field 393 (.agg #[S K a0,S K a1,S K a2,S K a3,.bool a4,.bool a5,S K a6]) 3).run F w=.ok (.agg #[S K a3,.bool a4,.bool a5,S K a6]) w:=by kernel_rfl
theorem z8i(a:Option Addr)(cap:Nat)(zs:List Int)(m:Int)(w:World)(hG:Rul w)(h:Row .i64 w a zs)(hm:zs.length≤9223372036854775807):
  Calls F 301 #[G a zs.length cap,S K m] w fun e w'=>e=.returned (.agg #[S K (pfC zs m),S K (pfV zs m)])∧Below w.heap.size w w':=by
 have hB:Below w.heap.size w (w.alloc (.cells #[S K 0,S K 0] 53)):=by go_grown
 have hv:=fun w h=>z0A a cap zs 1 w h hm
 rw[q6d]at hv;by_cases h0:vf zs 1=0
 ·have hl:=z06 h0;rw[h0]at hv;rw[hl]at hv⊢;have hh:=z5q a cap zs m _ (h.below hB) hl;by_cases h1:z2w zs m=true
  ·have e1:pfC zs m=0:=by simp[pfC,h0,h1]
   have e2:pfV zs m=pr2 (cnt m zs 0) (cnt m zs 1):=by simp[pfV,e1]
   have e3:=q6e _ (q3w (z2u m zs 0)) _ (q3w (z2u m zs 1));have hc:=z2D a cap zs m _ (h.below hB) hl (z4X h1);have hr:=z5p _ _ _ (hG.below hB) (z2u m zs 0) (z2u m zs 1);rw[e1,e2,←e3];rw[h1]at hh;clear e1 e2 e3 h0 hl h1;unfold q6b q50 at hr;generalize pick5 (cnt m zs 0) (cnt m zs 1)=E at*;generalize fl (cnt m zs 0)=z0 at*;generalize fl (cnt m zs 1)=o0 at*;generalize rz E=a0 at*;generalize ro E=a1 at*;generalize rp E=a2 at*;generalize rd E=a4 at*;generalize rc E=a5 at*;generalize rv E=a6 at*;have Bx:=Blk.new w 53 #[S K 0,S K 0];have hv1:=hv _ (h.below hB);clear hv;go_enter func301,ntmps301
   go_wp2_with fail
   generalize w.alloc (.cells #[S K 0,S K 0] 53)=W at*;refine hv1.mono ?_;rintro e w' ⟨rfl,hw⟩;replace hw:=hw.symm;subst hw
   go_wp2_with fail
   refine hh.mono ?_;rintro e w' ⟨rfl,hw⟩;replace hw:=hw.symm;subst hw
   go_wp2_with fail
   refine hc.mono ?_;rintro e w' ⟨rfl,hw⟩;replace hw:=hw.symm;subst hw
   go_wp2_with fail
   refine hr.mono ?_;rintro e w' ⟨rfl,hb⟩;replace Bx:=Bx.below hb;replace hB:=hB.trans (hb.mono hB.size);obtain⟨p0,p1⟩:=Bx.cel2;obtain⟨f0,f1⟩:=Bx.frz2;have hfl:=q48 a0 a1 a2 0 a4 a5 a6 w';clear hb hv1 hh hc hr Bx
   go_wp2
   exact bodyPost_ret (v:=.agg #[S K 0,S K a2]) (by simp[results,results301,go_sem,p0,p1]) rfl ⟨rfl,(hB.setCell (p:=⟨w.heap.size,0,none⟩) (Q _) _).setCell (p:=⟨w.heap.size,1,none⟩) (Q _) _⟩
  ·have h1':z2w zs m=false:=by simpa using h1
   have e1:pfC zs m=10:=by simp[pfC,h0,h1']
   have e2:pfV zs m=0:=by simp[pfV,e1]
   rw[e1,e2];rw[h1']at hh;clear e1 e2 h0 hl h1;go_enter func301,ntmps301
   go_wp2_with (first|(go_at_call 274;refine(hv _ (h.below (by go_grown))).mono ?_;rintro e w' ⟨rfl,rfl⟩)|(go_at_call 316;refine hh.mono ?_;rintro e w' ⟨rfl,rfl⟩))
   exact bodyPost_ret (v:=.agg #[S K 10,S K 0]) (by simp[results,results301,go_sem]) rfl ⟨rfl,by go_grown⟩
 ·have e1:pfC zs m=vf zs 1:=by simp[pfC,h0]
  have e2:pfV zs m=0:=by simp[pfV,e1,h0]
  rw[e1,e2];clear e1 e2;have h0':(vf zs 1 !=0)=true:=by simpa using h0
  clear h0;generalize vf zs 1=c at*;go_enter func301,ntmps301
  go_wp2_with (go_at_call 274;refine(hv _ (h.below (by go_grown))).mono ?_;rintro e w' ⟨rfl,rfl⟩)
  exact bodyPost_ret (v:=.agg #[S K c,S K 0]) (by simp[results,results301,go_sem]) rfl ⟨rfl,by go_grown⟩
theorem z5r(a:Option Addr)(cap:Nat)(zs:List Int)(m:Int)(w:World)(h:Row .i64 w a zs)(hl:zs.length=3):
  Calls F 279 #[G a 3 cap,S K m] w fun e w'=>e=.returned (.bool (z2w zs m))∧Below w.heap.size w w':=by
 have hq:=z7Z m w;unfold z2w;by_cases h1:isQ m=true
 ·have hvo:=fun w h=>z0E a cap zs m 3 w h hl (q15 h1)
  rw[h1]at hq⊢;clear h1;generalize cnt m zs 3=u at*;go_enter func279,ntmps279
  go_wp2_with fail
  refine hq.mono ?_;rintro e w1 ⟨rfl,b1⟩;have hv1:=hvo w1 (h.below b1);clear hvo hq
  go_wp2_with fail
  refine hv1.mono ?_;rintro e w2 ⟨rfl,b2⟩;replace b2:=b1.trans (b2.mono b1.size);clear hv1
  go_wp2
  go_ret;exact⟨by simp,b2⟩
 ·have h1':isQ m=false:=by simpa using h1
  rw[h1']at hq⊢;clear h1 h1';go_enter func279,ntmps279
  go_wp2_with (go_at_call 295;refine hq.mono ?_;rintro e w' ⟨rfl,b1⟩)
  go_ret;exact⟨by simp,b1⟩
theorem z6b(a:Option Addr)(cap:Nat)(zs:List Int)(m:Int)(w:World)(h:Row .i64 w a zs)(hl:zs.length=3)(hm:inB m 0 7=true):
  Calls F 280 #[G a 3 cap,S K m] w fun e w'=>e=.returned (S K (pr2 (cnt m zs 0) (cnt m zs 1)))∧Below w.heap.size w w':=by
 have hc0:=fun w h=>z0E a cap zs m 0 w h hl hm
 have hc1:=fun w h=>z0E a cap zs m 1 w h hl hm
 generalize cnt m zs 0=z at*;generalize cnt m zs 1=o at*;generalize hE:pr2 z o=E;unfold pr2 at hE;have h0:=hc0 w h;clear hc0;by_cases hz:2≤z
 ·rw[if_pos hz]at hE;have HE:Hid (E=0):=hE.symm;clear hc1 hE;go_enter func280,ntmps280
  go_wp2
  refine wp_loop_rounds 1 ?_;rw[rounds_succ]
  go_wp2_with fail
  refine h0.mono ?_;rintro e w1 ⟨rfl,b1⟩;clear h0
  go_wp2
  go_ret;exact⟨by rw[HE.out];rfl,b1⟩
 ·rw[if_neg hz]at hE;have HE:Hid (E=if 2≤o then 1 else 2):=hE.symm;clear hE;go_enter func280,ntmps280
  go_wp2
  refine wp_loop_rounds 3 ?_;rw[rounds_succ]
  go_wp2_with fail
  refine h0.mono ?_;rintro e w1 ⟨rfl,b1⟩;have h1:=hc1 w1 (h.below b1);clear h0 hc1;by_cases ho:2≤o
  ·have HE2:Hid (E=1):=HE.out.trans (if_pos ho);clear HE
   go_wp2_with fail
   rw[rounds_succ]
   go_wp2_with fail
   refine h1.mono ?_;rintro e w2 ⟨rfl,b2⟩;replace b2:=b1.trans (b2.mono b1.size);clear h1
   go_wp2
   go_ret;exact⟨by rw[HE2.out];rfl,b2⟩
  ·have HE2:Hid (E=2):=HE.out.trans (if_neg ho);clear HE
   go_wp2_with fail
   rw[rounds_succ]
   go_wp2_with fail
   refine h1.mono ?_;rintro e w2 ⟨rfl,b2⟩;replace b2:=b1.trans (b2.mono b1.size);clear h1
   go_wp2
   rw[rounds_succ]
   go_wp2
   go_ret;exact⟨by rw[HE2.out];rfl,b2⟩
theorem z8j(a:Option Addr)(cap:Nat)(zs:List Int)(m:Int)(w:World)(h:Row .i64 w a zs)(hm:zs.length≤9223372036854775807):
  Calls F 254 #[G a zs.length cap,S K m] w fun e w'=>e=.returned (.agg #[S K (pfC zs m),S K (pfV zs m)])∧Below w.heap.size w w':=by
 obtain⟨C,hC⟩:∃C,pfC zs m=C:=⟨_,rfl⟩
 obtain⟨V,hV⟩:∃V,pfV zs m=V:=⟨_,rfl⟩
 have HC:Hid (pfC zs m=C∧pfV zs m=V):=And.intro hC hV;rw[hC,hV];clear hC hV;have hB:Below w.heap.size w (w.alloc (.cells #[S K 0,S K 0] 53)):=by go_grown
 have Bx:=Blk.new w 53 #[S K 0,S K 0];have hv:=z07 a cap zs 1 _ (h.below hB) hm;go_enter func254,ntmps254
 go_wp2_with fail
 generalize w.alloc (.cells #[S K 0,S K 0] 53)=W at*;refine hv.mono ?_;rintro e w1 ⟨rfl,hb⟩;replace Bx:=Bx.below hb;replace hB:=hB.trans (hb.mono hB.size);clear hv hb;by_cases h0:vf zs 1=0
 ·have hl:=z06 h0;have hh:=z5r a cap zs m w1 (h.below hB) hl;rw[h0,hl];by_cases h1:z2w zs m=true
  ·have HE:Hid (C=0∧V=pr2 (cnt m zs 0) (cnt m zs 1)):=by
    obtain⟨e1,e2⟩:=HC.out;have e3:pfC zs m=0:=by simp[pfC,h0,h1]
    exact⟨e1.symm.trans e3,e2.symm.trans (by simp[pfV,e3])⟩
   have hp:=fun w h=>z6b a cap zs m w h hl (z4X h1)
   rw[h1]at hh;clear h0 hl h1 HC;generalize pr2 (cnt m zs 0) (cnt m zs 1)=P at*
   go_wp2_with fail
   refine hh.mono ?_;rintro e w2 ⟨rfl,hb⟩;replace Bx:=Bx.below hb;replace hB:=hB.trans (hb.mono hB.size);have hp2:=hp w2 (h.below hB);clear hh hb hp
   go_wp2_with fail
   refine hp2.mono ?_;rintro e w3 ⟨rfl,hb⟩;replace Bx:=Bx.below hb;replace hB:=hB.trans (hb.mono hB.size);obtain⟨p0,p1⟩:=Bx.cel2;obtain⟨f0,f1⟩:=Bx.frz2;clear hp2 hb Bx
   go_wp2
   exact bodyPost_ret (v:=.agg #[S K 0,S K P]) (by simp[results,results254,go_sem,p0,p1]) rfl ⟨by rw[HE.out.1,HE.out.2],(hB.setCell (p:=⟨w.heap.size,0,none⟩) (Q _) _).setCell (p:=⟨w.heap.size,1,none⟩) (Q _) _⟩
  ·have h1':z2w zs m=false:=by simpa using h1
   have HE:Hid (C=10∧V=0):=by
    obtain⟨e1,e2⟩:=HC.out;have e3:pfC zs m=10:=by simp[pfC,h0,h1']
    exact⟨e1.symm.trans e3,e2.symm.trans (by simp[pfV,e3])⟩
   rw[h1']at hh;clear h0 hl h1 HC
   go_wp2_with fail
   refine hh.mono ?_;rintro e w2 ⟨rfl,hb⟩;replace Bx:=Bx.below hb;replace hB:=hB.trans (hb.mono hB.size);obtain⟨p0,p1⟩:=Bx.cel2;obtain⟨f0,f1⟩:=Bx.frz2;clear hh hb Bx
   go_wp2
   exact bodyPost_ret (v:=.agg #[S K 10,S K 0]) (by simp[results,results254,go_sem,p0,p1]) rfl ⟨by rw[HE.out.1,HE.out.2],(hB.setCell (p:=⟨w.heap.size,0,none⟩) (Q _) _).setCell (p:=⟨w.heap.size,1,none⟩) (Q _) _⟩
 ·have HE:Hid (C=vf zs 1∧V=0):=by
   obtain⟨e1,e2⟩:=HC.out;have e3:pfC zs m=vf zs 1:=by simp[pfC,h0]
   exact⟨e1.symm.trans e3,e2.symm.trans (by simp[pfV,e3,h0])⟩
  have h0':(vf zs 1 !=0)=true:=by simpa using h0
  clear h0 HC;generalize vf zs 1=c at*;obtain⟨p0,p1⟩:=Bx.cel2;obtain⟨f0,f1⟩:=Bx.frz2;clear Bx
  go_wp2
  exact bodyPost_ret (v:=.agg #[S K c,S K 0]) (by simp[results,results254,go_sem,p0,p1]) rfl ⟨by rw[HE.out.1,HE.out.2],(hB.setCell (p:=⟨w.heap.size,0,none⟩) (Q _) _).setCell (p:=⟨w.heap.size,1,none⟩) (Q _) _⟩
def q16(zs:List Int):Bool:=decide (0<cnt 7 zs 0) && decide (0<cnt 7 zs 1)
def chC(zs:List Int)(m c:Int):Int:=if vf zs 2=0 then(if inB c 0 1 then(if q16 zs then 1 else if z2w zs m then 0 else 10)else 3)else vf zs 2
def chD(z o:Int):Bool:=if 0<z then decide (2≤z)else decide (2≤o)
def chK(z o:Int):Bool:=!decide (0<z) && !decide (0<o)
def chV(z o c:Int):Int:=if 0<z then 0 else if 0<o then 1 else c
def cfD(zs:List Int)(m c:Int):Bool:=if chC zs m c=0 then chD (cnt m zs 0) (cnt m zs 1)else false
def cfK(zs:List Int)(m c:Int):Bool:=if chC zs m c=0 then chK (cnt m zs 0) (cnt m zs 1)else false
def cfV(zs:List Int)(m c:Int):Int:=if chC zs m c=0 then chV (cnt m zs 0) (cnt m zs 1) c else 0
theorem q5a(a b c p q r:Bool):q1B (a && p) (b && q) (c && r)≤q1B p q r:=by
 cases a<;>cases b<;>cases c<;>cases p<;>cases q<;>cases r<;>decide
theorem bit7:bitB 7 0=true∧bitB 7 1=true∧bitB 7 2=true:=by decide+kernel
theorem q4v(m:Int)(zs:List Int)(v:Int):cnt m zs v≤cnt 7 zs v:=by
 unfold cnt;rw[bit7.1,bit7.2.1,bit7.2.2,Bool.true_and,Bool.true_and,Bool.true_and];exact q5a _ _ _ _ _ _
theorem ch4:∀z∈[(0:Int),1,2,3],∀o∈[(0:Int),1,2,3],(decide (0<z) && decide (0<o))=false→rd (pick5 z o)=chD z o∧rc (pick5 z o)=chK z o∧(rc (pick5 z o)=true→¬0<z∧¬0<o)∧(rc (pick5 z o)=false→(0<z∧rv (pick5 z o)=0)∨(¬0<z∧0<o∧rv (pick5 z o)=1)):=by decide+kernel
theorem q6X{zs:List Int}(m:Int)(h:q16 zs=false):(decide (0<cnt m zs 0) && decide (0<cnt m zs 1))=false:=by
 have h0:=q4v m zs 0;have h1:=q4v m zs 1;unfold q16 at h;rw[Bool.and_eq_false_iff,decide_eq_false_iff_not,decide_eq_false_iff_not]at h⊢;omega
theorem z6c(a:Option Addr)(cap:Nat)(zs:List Int)(m c:Int)(w:World)(hG:Rul w)(h:Row .i64 w a zs)(hm:zs.length≤9223372036854775807):
  Calls F 299 #[G a zs.length cap,S K m,S K c] w fun e w'=>e=.returned (.agg #[S K (chC zs m c),.bool (cfD zs m c),.bool (cfK zs m c),S K (cfV zs m c)])∧Below w.heap.size w w':=by
 have hB:Below w.heap.size w (w.alloc (.cells #[S K 0,.bool false,.bool false,S K 0] 277)):=by go_grown
 have hv:=fun w h=>z0A a cap zs 2 w h hm
 rw[q6W]at hv;by_cases h0:vf zs 2=0
 ·have hl:=z06 h0;rw[h0]at hv;rw[hl]at hv⊢;by_cases A:inB c 0 1=true
  ·have J:=fun w h=>z2D a cap zs 7 w h hl (by decide)
   have g0:=q4u (z2u 7 zs 0);have g1:=q4u (z2u 7 zs 1);by_cases C:q16 zs=true
   ·have e1:chC zs m c=1:=by simp[chC,h0,A,C]
    have e2:cfD zs m c=false:=by simp[cfD,e1]
    have e3:cfK zs m c=false:=by simp[cfK,e1]
    have e4:cfV zs m c=0:=by simp[cfV,e1]
    rw[e1,e2,e3,e4];unfold q16 at C;rw[Bool.and_eq_true]at C;rw[C.1]at g0;rw[C.2]at g1;generalize fl (cnt 7 zs 0)=z7 at*;generalize fl (cnt 7 zs 1)=o7 at*;clear e1 e2 e3 e4 h0 hl C;go_enter func299,ntmps299
    go_wp2_with (first|(go_at_call 274;refine(hv _ (h.below (by go_grown))).mono ?_;rintro e w' ⟨rfl,rfl⟩)|(go_at_call 62;refine(z0P _ _ _ _).mono ?_;rintro e w' ⟨rfl,rfl⟩)|(go_at_call 315;refine(J _ (h.below (by go_grown))).mono ?_;rintro e w' ⟨rfl,rfl⟩))
    exact bodyPost_ret (v:=.agg #[S K 1,.bool false,.bool false,S K 0]) (by simp[results,results299,go_sem]) rfl ⟨rfl,by go_grown⟩
   ·have d:q16 zs=false:=by simpa using C
    clear C;have D:=d;unfold q16 at D;have hh:=fun w h=>z5q a cap zs m w h hl
    by_cases h1:z2w zs m=true
    ·obtain⟨q1,q2,q3,q4⟩:=ch4 _ (q3w (z2u m zs 0)) _ (q3w (z2u m zs 1)) (q6X m d);have e1:chC zs m c=0:=by simp[chC,h0,A,d,h1]
     have e2:cfD zs m c=rd (pick5 (cnt m zs 0) (cnt m zs 1)):=by simp[cfD,e1,q1]
     have e3:cfK zs m c=rc (pick5 (cnt m zs 0) (cnt m zs 1)):=by simp[cfK,e1,q2]
     have e4:cfV zs m c=if rc (pick5 (cnt m zs 0) (cnt m zs 1))=true then c else rv (pick5 (cnt m zs 0) (cnt m zs 1)):=by
      simp only[cfV,e1,if_true,chV];by_cases hk:rc (pick5 (cnt m zs 0) (cnt m zs 1))=true
      ·have:=q3 hk;rw[if_pos hk,if_neg this.1,if_neg this.2]
      ·rw[if_neg hk];rcases q4 (by simpa using hk)with⟨x,y⟩|⟨x,y,z⟩
       ·rw[if_pos x,y]
       ·rw[if_neg x,if_pos y,z]
     rw[e1,e2,e3,e4];rw[h1]at hh;have hc:=fun w h=>z2D a cap zs m w h hl (z4X h1)
     have hr:=fun w h=>z5p _ _ w h (z2u m zs 0) (z2u m zs 1)
     clear q1 q2 q3 q4 e1 e2 e3 e4 h0 hl h1 d;unfold q6b q50 at hr;generalize pick5 (cnt m zs 0) (cnt m zs 1)=E at*;generalize fl (cnt m zs 0)=z0 at*;generalize fl (cnt m zs 1)=o0 at*;generalize rz E=a0 at*;generalize ro E=a1 at*;generalize rp E=a2 at*;generalize rd E=a4 at*;generalize rc E=a5 at*;generalize rv E=a6 at*;have Bx:=Blk.new w 277 #[S K 0,.bool false,.bool false,S K 0];have V:=hr _ (hG.below hB);have T:=hc _ (h.below hB);have U:=hh _ (h.below hB);have M:=J _ (h.below hB);have X:=hv _ (h.below hB);clear hr hc hh J hv;have I:decide (0<cnt 7 zs 0)=false∨decide (0<cnt 7 zs 0)=true∧decide (0<cnt 7 zs 1)=false:=by
      revert D
      cases decide (0<cnt 7 zs 0)<;>cases decide (0<cnt 7 zs 1)<;>simp
     clear D;generalize fl (cnt 7 zs 0)=z7 at*;generalize fl (cnt 7 zs 1)=o7 at*;generalize decide (0<cnt 7 zs 0)=t0 at*;generalize decide (0<cnt 7 zs 1)=t1 at*;have hg:Hid ((FloatKind.f64.format.order z7 0==some .gt)=t0∧(FloatKind.f64.format.order o7 0==some .gt)=t1):=⟨g0,g1⟩
     clear g0 g1;go_enter func299,ntmps299
     go_wp2_with fail
     generalize w.alloc (.cells #[S K 0,.bool false,.bool false,S K 0] 277)=W at*;refine X.mono ?_;rintro e w' ⟨rfl,hw⟩;replace hw:=hw.symm;subst hw
     go_wp2_with fail
     refine(z0P _ _ _ _).mono ?_;rintro e w' ⟨rfl,hw⟩;replace hw:=hw.symm;subst hw;rw[A]
     go_wp2_with fail
     refine M.mono ?_;rintro e w' ⟨rfl,hw⟩;replace hw:=hw.symm;subst hw;clear X M;obtain⟨g0,g1⟩:=hg.out;clear hg;rcases I with rfl|⟨rfl,rfl⟩
     all_goals
      go_wp2_with fail
      refine U.mono ?_;rintro e w' ⟨rfl,hw⟩;replace hw:=hw.symm;subst hw
      go_wp2_with fail
      refine T.mono ?_;rintro e w' ⟨rfl,hw⟩;replace hw:=hw.symm;subst hw
      go_wp2_with fail
      refine V.mono ?_;rintro e w3 ⟨rfl,hb⟩;replace Bx:=Bx.below hb;replace hB:=hB.trans (hb.mono hB.size);have Z:=q49 a0 a1 a2 0 a4 a5 a6 w3;obtain⟨p0,p1,p2,p3⟩:=Bx.cel4;obtain⟨f0,f1,f2,f3⟩:=Bx.frz4;have L:=Bx.lt;clear U T V hb Bx
      cases a5
      ·go_wp2
       exact bodyPost_ret (v:=.agg #[S K 0,.bool a4,.bool false,S K a6]) (by simp[results,results299,go_sem,p0,p1,p2,p3,L,Nat.ne_of_lt L]) rfl ⟨rfl,by repeat first|exact hB|refine Below.setCell ?_ (by first|exact Q _|(have:=hB.size;simp;omega)) _|refine Below.alloc ?_ (by have:=hB.size;simp;omega) _⟩
      ·go_wp2
       exact bodyPost_ret (v:=.agg #[S K 0,.bool a4,.bool true,S K c]) (by simp[results,results299,go_sem,p0,p1,p2,p3,L,Nat.ne_of_lt L]) rfl ⟨rfl,by repeat first|exact hB|refine Below.setCell ?_ (by first|exact Q _|(have:=hB.size;simp;omega)) _|refine Below.alloc ?_ (by have:=hB.size;simp;omega) _⟩
    ·have O:z2w zs m=false:=by simpa using h1
     have e1:chC zs m c=10:=by simp[chC,h0,A,d,O]
     have e2:cfD zs m c=false:=by simp[cfD,e1]
     have e3:cfK zs m c=false:=by simp[cfK,e1]
     have e4:cfV zs m c=0:=by simp[cfV,e1]
     rw[e1,e2,e3,e4];rw[O]at hh;have I:decide (0<cnt 7 zs 0)=false∨decide (0<cnt 7 zs 0)=true∧decide (0<cnt 7 zs 1)=false:=by
      revert D
      cases decide (0<cnt 7 zs 0)<;>cases decide (0<cnt 7 zs 1)<;>simp
     clear e1 e2 e3 e4 h0 hl h1 D d hB;generalize fl (cnt 7 zs 0)=z7 at*;generalize fl (cnt 7 zs 1)=o7 at*;generalize decide (0<cnt 7 zs 0)=t0 at*;generalize decide (0<cnt 7 zs 1)=t1 at*;rcases I with rfl|⟨rfl,rfl⟩
     all_goals
      go_enter func299,ntmps299
      go_wp2_with (first|(go_at_call 274;refine(hv _ (h.below (by go_grown))).mono ?_;rintro e w' ⟨rfl,rfl⟩)|(go_at_call 62;refine(z0P _ _ _ _).mono ?_;rintro e w' ⟨rfl,rfl⟩)|(go_at_call 315;refine(J _ (h.below (by go_grown))).mono ?_;rintro e w' ⟨rfl,rfl⟩)|(go_at_call 316;refine(hh _ (h.below (by go_grown))).mono ?_;rintro e w' ⟨rfl,rfl⟩))
      exact bodyPost_ret (v:=.agg #[S K 10,.bool false,.bool false,S K 0]) (by simp[results,results299,go_sem]) rfl ⟨rfl,by go_grown⟩
  ·have N:inB c 0 1=false:=by simpa using A
   have e1:chC zs m c=3:=by simp[chC,h0,N]
   have e2:cfD zs m c=false:=by simp[cfD,e1]
   have e3:cfK zs m c=false:=by simp[cfK,e1]
   have e4:cfV zs m c=0:=by simp[cfV,e1]
   rw[e1,e2,e3,e4];clear e1 e2 e3 e4 h0 hl A hB;go_enter func299,ntmps299
   go_wp2_with (first|(go_at_call 274;refine(hv _ (h.below (by go_grown))).mono ?_;rintro e w' ⟨rfl,rfl⟩)|(go_at_call 62;refine(z0P _ _ _ _).mono ?_;rintro e w' ⟨rfl,rfl⟩))
   exact bodyPost_ret (v:=.agg #[S K 3,.bool false,.bool false,S K 0]) (by simp[results,results299,go_sem]) rfl ⟨rfl,by go_grown⟩
 ·have e1:chC zs m c=vf zs 2:=by simp[chC,h0]
  have e2:cfD zs m c=false:=by simp[cfD,e1,h0]
  have e3:cfK zs m c=false:=by simp[cfK,e1,h0]
  have e4:cfV zs m c=0:=by simp[cfV,e1,h0]
  rw[e1,e2,e3,e4];have Y:(vf zs 2 !=0)=true:=by simpa using h0
  clear e1 e2 e3 e4 h0 hB;generalize vf zs 2=x at*;go_enter func299,ntmps299
  go_wp2_with (go_at_call 274;refine(hv _ (h.below (by go_grown))).mono ?_;rintro e w' ⟨rfl,rfl⟩)
  exact bodyPost_ret (v:=.agg #[S K x,.bool false,.bool false,S K 0]) (by simp[results,results299,go_sem]) rfl ⟨rfl,by go_grown⟩
end Go.Proofs.YtlkpdgjnhkjpjaaGreatDoor
