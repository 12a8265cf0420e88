/- Texts joined,with what the laws reach alone. -/
import Derived.Test.YtgdedpgldhbfhaaGreatDoorQAAP
import Derived.Test.YtgdedpgldhbfhaaGreatDoorQAAO
import Derived.Test.YtgdedpgldhbfhaaGreatDoorQAAV
set_option linter.unusedVariables false
set_option linter.unusedSimpArgs false
set_option maxRecDepth 100000
set_option maxHeartbeats 8000000
namespace Go.Proofs.YtgdedpgldhbfhaaGreatDoor
open Go.RowKit Go.BigFrame
theorem q38{r:RepE}(h:repF r=0):(r.done.length≤16∧r.tent.length≤8)∧lstF (r.done++r.tent)=0∧sameRep (mkR r.done r.tent) r=true:=by
 by_cases h1:16<r.done.length∨8<r.tent.length
 ·rw[z7w h1]at h;exact absurd h (by decide)
 ·by_cases h2:lstF (r.done++r.tent)=0
  ·rw[z7y h1 h2]at h;refine⟨by omega,h2,?_⟩;split at h
   ·assumption
   ·exact absurd h (by decide)
  ·rw[z7x h1 h2]at h;exact absurd h h2
def lsF(z:Int)(ns:List NodeE):Int:=ns.foldl (fun m n=>min m (n.rep.done.length:Int)) z
def tnF(ns:List NodeE):Int:=ns.foldl (fun m n=>m+(n.rep.tent.length:Int)) 0
def auD(c:CluE):Int:=if cluF c=0 then(decN c.ord:Int)else 0
def auN(c:CluE):Int:=if cluF c=0 then((defL c.ord (decN c.ord)).length:Int)else 0
def auL(c:CluE):Int:=if cluF c=0 then lsF ((defL c.ord (decN c.ord)).length:Int) c.mem else 0
def auT(c:CluE):Int:=if cluF c=0 then tnF c.mem else 0
theorem q21(z:Int)(ns:List NodeE)(k:Nat)(hk:k<ns.length):lsF z (ns.take (k+1))=min (lsF z (ns.take k)) (ns[k].rep.done.length:Int):=by
 unfold lsF;rw[List.take_succ_eq_append_getElem hk,List.foldl_append];rfl
theorem q22(ns:List NodeE)(k:Nat)(hk:k<ns.length):tnF (ns.take (k+1))=tnF (ns.take k)+(ns[k].rep.tent.length:Int):=by
 unfold tnF;rw[List.take_succ_eq_append_getElem hk,List.foldl_append];rfl
theorem z8N{c:CluE}(h:cluF c=0){n:NodeE}(hn:n∈c.mem):n.rep.done.length≤(defL c.ord (decN c.ord)).length∧(defL c.ord (decN c.ord)).length≤16∧n.rep.tent.length≤8:=by
 obtain⟨h0,_,ha⟩:=z0R h;obtain⟨_,hk,_,hr,e1⟩:=z40 (ha n hn);obtain⟨zs,hz⟩:=z9A c.ord n.kn.toNat (decN c.ord) (by omega);refine⟨?_,z9z h0 _,(q38 hr).1.2⟩;rw[e1,hz,List.length_append];omega
theorem q5z{c:CluE}(h:cluF c=0):lsF 99 c.mem=lsF ((defL c.ord (decN c.ord)).length:Int) c.mem:=by
 obtain⟨_,h3,_⟩:=z0R h;have hd:=fun n hn=>z8N h (n:=n) hn
 generalize (defL c.ord (decN c.ord)).length=L at*
 cases hm:c.mem with
 |nil=>rw[hm]at h3;simp at h3
 |cons a r=>
  have:=hd a (by rw[hm];simp);unfold lsF;simp only[List.foldl_cons];rw[Int.min_eq_right (by omega),Int.min_eq_right (by omega)]
theorem q6I{c:CluE}(h:cluF c=0):∀k,k≤c.mem.length→0≤tnF (c.mem.take k)∧tnF (c.mem.take k)≤8*k:=by
 intro k;induction k with
 |zero=>intro _;exact⟨by simp[tnF],by simp[tnF]⟩
 |succ k ih=>
  intro hk;have h1:=ih (by omega);have h2:=(z8N h (List.getElem_mem (show k<c.mem.length by omega))).2.2;rw[q22 c.mem k (by omega)];omega
theorem q6J{c:CluE}(h:cluF c=0)(z:Int)(hz:0≤z∧z≤99):∀k,k≤c.mem.length→0≤lsF z (c.mem.take k)∧lsF z (c.mem.take k)≤99:=by
 intro k;induction k with
 |zero=>intro _;simpa[lsF]using hz
 |succ k ih=>
  intro hk;have h1:=ih (by omega);rw[q21 z c.mem k (by omega)];omega
theorem q39{ds:List InstE}(h:ordF ds=0):diV ds=(decN ds:Int)∧dfT ds (diV ds)=defL ds (decN ds):=by
 have e:diV ds=(decN ds:Int):=if_pos h;refine⟨e,?_⟩;rw[e];unfold dfT;rw[if_pos (by unfold dfC;rw[if_pos h,if_pos ⟨by omega,by omega⟩]),Int.toNat_natCast]
theorem z5Y(p:CluQ)(w:World)(hG:Rul w)(h:instK.At w p.vo p.ord)(h':nodeK.At w p.vm p.mem)(hl:p.n≤1048576):
  Calls Tryz.prog 36 #[.agg #[p.vo,p.vm]] w fun e w'=>e=.returned (.int .i64 (diV (p.ord.map InstQ.e)))∧Below w.heap.size w w':=by
 have hd:=fun w hG h=>z1u p.vo p.ord w hG h (by unfold CluQ.n at hl;omega)
 obtain⟨vo,ord,vm,mem⟩:=p;dsimp only at h h' hd;obtain⟨a0,k0,rfl⟩:=h.shape;obtain⟨a1,k1,rfl⟩:=h'.shape;generalize ordF (ord.map InstQ.e)=C at*;generalize diV (ord.map InstQ.e)=V at*;have b0:Below w.heap.size w (w.alloc (.cells #[.slice a0 ord.length k0,.slice a1 mem.length k1] 33)):=by go_grown
 have A0:=Blk.new w 33 #[.slice a0 ord.length k0,.slice a1 mem.length k1];have c0:=A0.cell 0 _ rfl;go_enter Tryz.func36,Tryz.ntmps36
 go_wp2_with fail
 refine(hd _ (hG.below b0) (h.below b0)).mono ?_;rintro e w2 ⟨rfl,hb⟩;replace b0:=b0.trans (hb.mono b0.size);clear hb hd c0 A0;have hff:∀w,(Instr.field 114 (.agg #[.int .i64 C,.int .i64 V]) 1).run Tryz.prog w=.ok (.int .i64 V) w:=fun w=>by kernel_rfl
 go_wp2
 go_ret;exact⟨rfl,b0⟩
theorem z8O(p:CluQ)(w:World)(hG:Rul w)(h:cluK.own w p)(hl:p.n≤1048576):
  Calls Tryz.prog 35 #[.agg #[p.vo,p.vm]] w fun e w'=>∃ (a:Option Addr) (c:Nat),e=.returned (.slice a (dfT (p.ord.map InstQ.e) (diV (p.ord.map InstQ.e))).length c)∧Below w.heap.size w w':=by
 have hc:=fun w hG h h'=>z5Y p w hG h h' hl
 have J:p.ord.length+nmL InstQ.n p.ord≤1048576:=by unfold CluQ.n at hl;omega
 have z:=fun(w':World) (hb:Below w.heap.size w w')=>cluK.own_out (F:=[]) (w':=w') h (Out.of_below hb) (fun _ _=>by simp)
 obtain⟨vo,d,vm,y⟩:=p;dsimp only at hc J z;obtain⟨a0,k0,rfl⟩:∃a c,vo=.slice a d.length c:=h.1.shape;obtain⟨a1,k1,rfl⟩:∃a c,vm=.slice a y.length c:=h.2.shape;have E:z67 (.slice a0 d.length k0):=z7o (show instK.Own w (.slice a0 d.length k0) d from h.1).1;have I:=fun n w hG hA=>z1V (.slice a0 d.length k0) d n w hG hA E J
 dsimp only;generalize hV:diV (d.map InstQ.e)=V at*;generalize hT:dfT (d.map InstQ.e) V=T at*;have HT:Hid (dfT (d.map InstQ.e) V=T):=hT;clear hT hV;have b0:Below w.heap.size w (w.alloc (.cells #[.slice a0 d.length k0,.slice a1 y.length k1] 33)):=by go_grown
 have A0:=Blk.new w 33 #[.slice a0 d.length k0,.slice a1 y.length k1];go_enter Tryz.func35,Tryz.ntmps35
 go_wp2_with fail
 generalize w.alloc (.cells #[.slice a0 d.length k0,.slice a1 y.length k1] 33)=W at*;have hW:Below W.heap.size W W.drew:=(Below.refl _ _).drew;have L:Nonempty (Lat W):=⟨⟨W,Below.refl _ _⟩⟩
 obtain⟨c0,c1⟩:=A0.lts2;refine z0d (S:=fun w'=>∃u:Lat W,w'=u.val) (by kernel_rfl) ?_;refine sgr [(0,3)] 4 (by kernel_rfl) ⟨⟨_,hW⟩,rfl⟩ ?_;simp only[pkE];repeat go_big_quiet_step (fail)
 refine wpQuiet_nil ?_;refine cla 3 (some 6) 36 #[.agg #[.slice a0 d.length k0,.slice a1 y.length k1]] 3 (by kernel_rfl) ?_;have x:=b0.trans (hW.mono b0.size);refine(hc _ (hG.below x) (z _ x).1.at (z _ x).2.at).mono ?_;rintro e w8 ⟨rfl,C⟩;replace hW:=hW.trans (C.mono hW.size);clear C x hc;refine⟨_,rfl,⟨⟨_,hW⟩,rfl⟩,?_⟩;simp only[Act.put,pjE];refine cla 4 (some 7) 65 #[.slice a0 d.length k0,.int .i64 V] 2 (by kernel_rfl) ?_;have x:=b0.trans (hW.mono b0.size);refine(I V _ (hG.below x) (z _ x).1.at).mono ?_;rintro e w9 ⟨v',qs,rfl,eq,on,_,_,D⟩;obtain⟨za,zc,rfl⟩:=on.shape;have A:qs.length=T.length:=by
  have:=congrArg List.length eq;rw[List.length_map,HT.out]at this;exact this
 rw[A];replace hW:=hW.trans (D.mono hW.size);clear D x I on eq A HT;generalize dfC (d.map InstQ.e) V=DC at*;refine⟨_,rfl,⟨⟨_,hW⟩,rfl⟩,?_⟩;simp only[Act.put,pjE];refine qta 5 (some 8) (.slice za T.length zc) 1 (by kernel_rfl) (fun u _=>by kernel_rfl) ⟨⟨_,hW⟩,rfl⟩ ?_;simp only[Act.put,pjE];refine sgr [(6,1)] 0 (by kernel_rfl) ⟨⟨_,hW⟩,rfl⟩ ?_;simp only[pkE];repeat go_big_quiet_step (fail)
 refine wpQuiet_nil ?_;refine z0h (by kernel_rfl) ?_;replace b0:=b0.trans (hW.mono b0.size)
 go_wp2
 go_ret;exact⟨za,zc,rfl,b0⟩
theorem q5A(x y:Int)(w:World):Calls Tryz.prog 31 #[.int .i64 x,.int .i64 y] w fun e w'=>e=.returned (.int .i64 (min x y))∧w'=w:=by
 by_cases h:x<y
 ·have hm:min x y=x:=by omega
  go_enter Tryz.func31,Tryz.ntmps31
  go_wp2
  go_ret;exact⟨by first|rfl|(rw[hm];rfl),rfl⟩
 ·have hm:min x y=y:=by omega
  go_enter Tryz.func31,Tryz.ntmps31
  go_wp2
  go_ret;exact⟨by first|rfl|(rw[hm];rfl),rfl⟩
theorem q0g(p:CluQ)(h:cluF p.e=0)(z:Int)(hz:0≤z∧z≤99):∃LS TN:Nat→Int,LS 0=z∧TN 0=0∧LS p.mem.length=lsF z p.e.mem∧TN p.mem.length=tnF p.e.mem∧(∀k,(hk:k<p.mem.length)→LS (k+1)=min (LS k) (p.mem[k].done.length:Int)∧TN (k+1)=TN k+(p.mem[k].tent.length:Int))∧∀k,k≤p.mem.length→(0≤LS k∧LS k≤99)∧0≤TN k∧TN k≤8*k:=by
 have hl:p.e.mem.length=p.mem.length:=by simp[CluQ.e]
 refine⟨fun k=>lsF z (p.e.mem.take k),fun k=>tnF (p.e.mem.take k),by simp[lsF],by simp[tnF],?_,?_,?_,?_⟩
 ·show lsF z (p.e.mem.take p.mem.length)=_;rw[←hl,List.take_length]
 ·show tnF (p.e.mem.take p.mem.length)=_;rw[←hl,List.take_length]
 ·intro k hk;have hk':k<p.e.mem.length:=by omega
  have e:p.e.mem[k]=NodeQ.e p.mem[k]:=by simp[CluQ.e]
  have e1:(NodeQ.e p.mem[k]).rep.done.length=p.mem[k].done.length:=by simp[NodeQ.e,NodeQ.r,RepQ.e]
  have e2:(NodeQ.e p.mem[k]).rep.tent.length=p.mem[k].tent.length:=by simp[NodeQ.e,NodeQ.r,RepQ.e]
  refine⟨?_,?_⟩
  ·show lsF z (p.e.mem.take (k+1))=_;rw[q21 z p.e.mem k hk',e,e1]
  ·show tnF (p.e.mem.take (k+1))=_;rw[q22 p.e.mem k hk',e,e2]
 ·intro k hk;exact⟨q6J h z hz k (by omega),q6I h k (by omega)⟩
theorem q4y{c:CluE}(h:cluF c≠0):auD c=0∧auN c=0∧auL c=0∧auT c=0:=⟨if_neg h,if_neg h,if_neg h,if_neg h⟩
theorem q4a{c:CluE}(h:cluF c=0):ordF c.ord=0∧auD c=(decN c.ord:Int)∧auN c=((defL c.ord (decN c.ord)).length:Int)∧auL c=lsF (auN c) c.mem∧auT c=tnF c.mem∧(0≤auN c∧auN c≤16)∧lsF 99 c.mem=auL c:=by
 have e2:auN c=((defL c.ord (decN c.ord)).length:Int):=if_pos h;have e3:auL c=lsF ((defL c.ord (decN c.ord)).length:Int) c.mem:=if_pos h;have h0:=(z0R h).1;have:=z9z h0 (decN c.ord);exact⟨h0,if_pos h,e2,by rw[e3,e2],if_pos h,by omega,by rw[e3];exact q5z h⟩
theorem z3b(p:CluQ)(w:World)(hG:Rul w)(hT:ErrT w)(h:cluK.own w p)(hl:p.n≤1048576):
  Calls Tryz.prog 10 #[.agg #[p.vo,p.vm]] w fun e w'=>e=.returned (.agg #[.int .i64 (cluF p.e),.int .i64 (auD p.e),.int .i64 (auN p.e),.int .i64 (auL p.e),.int .i64 (auT p.e)])∧Below w.heap.size w w':=by
 have hf:=fun w hG hT h=>z1e p w hG hT h hl
 have V:=fun w hG h=>z8O p w hG h hl
 have T:=fun w hG h h'=>z5Y p w hG h h' hl
 have I:=fun(w':World) (hb:Below w.heap.size w w')=>cluK.own_out (F:=[]) (w':=w') h (Out.of_below hb) (fun _ _=>by simp)
 have HB:Hid (cluF p.e≠0→auD p.e=0∧auN p.e=0∧auL p.e=0∧auT p.e=0):=fun h0=>q4y h0
 have HO:Hid (cluF p.e=0→diV (p.ord.map InstQ.e)=auD p.e∧((dfT (p.ord.map InstQ.e) (diV (p.ord.map InstQ.e))).length:Int)=auN p.e∧(0≤auN p.e∧auN p.e≤16)):=fun h0=>by
  obtain⟨a,b,c,_,_,d,_⟩:=q4a h0;obtain⟨e1,e2⟩:=q39 a;exact⟨by rw[b];exact e1,by rw[c];exact congrArg (fun l:List TxnD=>(l.length:Int)) e2,d⟩
 have HS:Hid (cluF p.e=0→∃LS TN:Nat→Int,LS 0=(auN p.e)∧TN 0=0∧LS p.mem.length=auL p.e∧TN p.mem.length=auT p.e∧(∀k,(hk:k<p.mem.length)→LS (k+1)=min (LS k) (p.mem[k].done.length:Int)∧TN (k+1)=TN k+(p.mem[k].tent.length:Int))∧∀k,k≤p.mem.length→(0≤LS k∧LS k≤99)∧0≤TN k∧TN k≤8*k):=fun h0=>by
  obtain⟨_,_,_,e4,e5,e6,e7⟩:=q4a h0;obtain⟨LS,TN,a,b,c,d,e,f⟩:=q0g p h0 (auN p.e) ⟨e6.1,by omega⟩;exact⟨LS,TN,a,b,by rw[c,e4],by rw[d,e5],e,f⟩
 have HM:Hid (cluF p.e=0→p.mem.length=3):=fun h0=>by have:=(z0R h0).2.1;simpa[CluQ.e]using this
 obtain⟨vo,z,vm,x⟩:=p;obtain⟨a0,k0,rfl⟩:∃a c,vo=.slice a z.length c:=h.1.shape;obtain⟨a1,k1,rfl⟩:∃a c,vm=.slice a x.length c:=h.2.shape;have aM:x.length+nmL NodeQ.n x≤1048576:=by dsimp only[CluQ.n]at hl;omega
 clear hl;obtain⟨ho,hm⟩:instK.Own w (.slice a0 z.length k0) z∧nodeK.Own w (.slice a1 x.length k1) x:=h;dsimp only at hf V I HB HO HS HM T;generalize auD _=dD at*;generalize auN _=dN at*;generalize auL _=dL at*;generalize auT _=dT at*;generalize cluF _=D at*;have b0:Below w.heap.size w ((w.alloc (.cells #[.slice a0 z.length k0,.slice a1 x.length k1] 33)).alloc (.cells #[.int .i64 0,.int .i64 0,.int .i64 0,.int .i64 0,.int .i64 0] 28)):=by go_grown
 have A0:=(Blk.new w 33 #[.slice a0 z.length k0,.slice a1 x.length k1]).below (w':=(w.alloc (.cells #[.slice a0 z.length k0,.slice a1 x.length k1] 33)).alloc (.cells #[.int .i64 0,.int .i64 0,.int .i64 0,.int .i64 0,.int .i64 0] 28)) (by go_grown);have Rb:=Blk.new (w.alloc (.cells #[.slice a0 z.length k0,.slice a1 x.length k1] 33)) 28 #[.int .i64 0,.int .i64 0,.int .i64 0,.int .i64 0,.int .i64 0];simp only[World.size_alloc]at Rb;have aN:w.heap.size+2≤((w.alloc (.cells #[.slice a0 z.length k0,.slice a1 x.length k1] 33)).alloc (.cells #[.int .i64 0,.int .i64 0,.int .i64 0,.int .i64 0,.int .i64 0] 28)).heap.size:=by simp only[World.size_alloc];omega
 obtain⟨c0,c1⟩:=A0.cel2;go_enter Tryz.func10,Tryz.ntmps10
 go_wp2_with fail
 clear c0 c1;generalize (w.alloc (.cells #[.slice a0 z.length k0,.slice a1 x.length k1] 33)).alloc (.cells #[.int .i64 0,.int .i64 0,.int .i64 0,.int .i64 0,.int .i64 0] 28)=W at*;refine(hf W (hG.below b0) (hT.below b0) (I W b0)).mono ?_;rintro e w1 ⟨rfl,hb⟩;replace A0:=A0.below hb;replace Rb:=Rb.below hb;have ah:=hb.size;replace b0:=b0.trans (hb.mono b0.size);clear hb hf;by_cases hD:D=0
 case neg=>
  have aJ:(D !=0)=true:=by simpa using hD
  have O:Hid _:=HB.out hD;clear HB HO HS HM hD I;have Rr:=Rb.row #[.int .i64 D,.int .i64 0,.int .i64 0,.int .i64 0,.int .i64 0];have U:=z0y w1 (w.heap.size+1) #[.int .i64 D,.int .i64 0,.int .i64 0,.int .i64 0,.int .i64 0];have b3:=Out.keep b0 U b0.size (fun k hk=>by simp only[List.mem_singleton]at hk;omega);have ai:(Tryz.prog.info? 28).map (·.size)=some (#[.int .i64 D,.int .i64 0,.int .i64 0,.int .i64 0,.int .i64 0]:Array Value).size:=by kernel_rfl
  go_wp2_with (refine z0C (by kernel_rfl) 28 _ _ rfl _ #[.int .i64 D,.int .i64 0,.int .i64 0,.int .i64 0,.int .i64 0] rfl rfl 28 _ Rb ai rfl (by simp[Value.oneCell']) ?_)
  obtain⟨r0,r1,r2,r3,r4⟩:=Rr.cel5;exact bodyPost_ret (v:=.agg #[.int .i64 D,.int .i64 0,.int .i64 0,.int .i64 0,.int .i64 0]) (by simp[results,Tryz.results10,go_sem,r0,r1,r2,r3,r4]) rfl ⟨by rw[O.out.1,O.out.2.1,O.out.2.2.1,O.out.2.2.2],b3⟩
 have hO:=HO.out hD;obtain⟨LS,TN,ao,ap,M,N,av,aq⟩:=HS.out hD;have az:Hid _:=HM.out hD;have an:Hid _:=av;have Z:Hid _:=aq;have HE:Hid (LS 0=dN∧TN 0=0∧LS x.length=dL∧TN x.length=dT):=⟨ao,ap,M,N⟩
 subst hD;clear HB HO HS HM av aq ao ap M N;obtain⟨ad,ae,aA⟩:=hO;rw[ad]at T V;rw[ad]at ae;obtain⟨c0,c1⟩:=A0.cel2
 go_wp2_with fail
 clear c0 c1;have ak:Hid _:=T;clear T;refine(V w1 (hG.below b0) (I w1 b0)).mono ?_;rintro e w2 ⟨da,dc,rfl,hb⟩;have am:Hid _:=ae;clear ad ae V;generalize (dfT (z.map InstQ.e) dD).length=nD at*;have aD:(nD:Int)=dN:=am.out;clear am;replace A0:=A0.below hb;replace Rb:=Rb.below hb;replace b0:=b0.trans (hb.mono b0.size);clear hb;obtain⟨c0,c1⟩:=A0.cel2
 go_wp2_with fail
 clear c0 c1;refine(ak.out w2 (hG.below b0) (I w2 b0).1.at (I w2 b0).2.at).mono ?_;rintro e w3 ⟨rfl,hb⟩;replace A0:=A0.below hb;replace Rb:=Rb.below hb;replace b0:=b0.trans (hb.mono b0.size);clear hb ak I ho;subst aD;have h3:0<x.length:=by
  have:=az.out;omega
 obtain⟨g,aE,rfl,_,_,_⟩:=hm.at.cell (by decide) 0 h3;have B5:=Blk.new w3 28 #[.int .i64 0,.int .i64 dD,.int .i64 (nD:Int),.int .i64 (nD:Int),.int .i64 0];have hX:Below w3.heap.size w3 (w3.alloc (.cells #[.int .i64 0,.int .i64 dD,.int .i64 (nD:Int),.int .i64 (nD:Int),.int .i64 0] 28)):=by go_grown
 replace A0:=A0.below hX;have aB:=Rb.lt;replace Rb:=Rb.below hX;replace b0:=b0.trans (hX.mono b0.size);have c1:=A0.cell 1 _ rfl;have aH:w3.heap.size≠w.heap.size+1∧w3.heap.size≠w.heap.size:=by omega
 clear hX
 go_wp2_with fail
 clear c1;generalize w3.alloc (.cells #[.int .i64 0,.int .i64 dD,.int .i64 (nD:Int),.int .i64 (nD:Int),.int .i64 0] 28)=W3 at*;generalize w3.heap.size=b5 at*;obtain⟨dN,af⟩:∃dN:Int,dN=(nD:Int):=⟨_,rfl⟩
 rw[←af]at HE aA B5⊢;have al:Hid (dN=(nD:Int)):=af;clear af;go_loopw[25] (fun i wr=>∃k:Nat,k≤x.length∧i=.int .i64 k∧Blk wr w.heap.size 33 #[.slice a0 z.length k0,.slice (some ⟨g,aE,none⟩) x.length k1]∧Blk wr (w.heap.size+1) 28 #[.int .i64 0,.int .i64 0,.int .i64 0,.int .i64 0,.int .i64 0]∧Blk wr b5 28 #[.int .i64 0,.int .i64 dD,.int .i64 dN,.int .i64 (LS k),.int .i64 (TN k)]∧Below w.heap.size w wr) (fun i _=>x.length-(intOf i).toNat)
 case atStart=>
  have e1:LS 0=dN:=HE.out.1;have e2:TN 0=0:=HE.out.2.1;exact⟨0,Nat.zero_le _,rfl,A0,Rb,by rw[e1,e2];exact B5,b0⟩
 case round=>
  clear A0 Rb B5 b0;obtain⟨k,hk,rfl,A0,Rb,B5,b0⟩:=hrel;by_cases X:k<x.length
  ·have E:=z01 (hm.at.below b0) k X;have oq:repK.own w x[k].r:=z2m hm k X;have C:=an.out k X;have aK:=Z.out k hk;have Y:=Z.out (k+1) X;have q0:=E 0 (.int .i64 x[k].kn) rfl;have q1:=E 1 (.int .i64 x[k].sf) rfl;have q2:=E 2 x[k].vd rfl;have q3:=E 3 x[k].vb rfl;have q4:=E 4 x[k].vt rfl;have q5:=E 5 x[k].vu rfl;have q6:=E 6 x[k].vn rfl;rw[Nat.add_zero]at q0;clear E;generalize x[k]=q at*;obtain⟨kn,sf,vd,done,vb,base,vt,A,vu,y,vn,J⟩:=q;obtain⟨x0,y0,rfl⟩:∃a c,vd=.slice a done.length c:=oq.1.shape;obtain⟨x1,y1,rfl⟩:∃a c,vb=.slice a base.length c:=oq.2.1.shape;obtain⟨x2,y2,rfl⟩:∃a c,vt=.slice a A.length c:=oq.2.2.1.shape;obtain⟨x3,y3,rfl⟩:∃a c,vu=.slice a y.length c:=oq.2.2.2.1.shape;obtain⟨x4,y4,rfl⟩:∃a c,vn=.slice a J.length c:=oq.2.2.2.2.shape;clear oq;dsimp only at q0 q1 q2 q3 q4 q5 q6 C;generalize LS k=l at*;obtain⟨l',ag⟩:∃l',LS (k+1)=l':=⟨_,rfl⟩
   generalize TN k=t at*;obtain⟨t',aj⟩:∃t',TN (k+1)=t':=⟨_,rfl⟩
   have ax:Hid (LS (k+1)=l'):=ag;have ay:Hid (TN (k+1)=t'):=aj;rw[ag]at C Y;rw[aj]at C Y;clear ag aj;obtain⟨ar,aw⟩:=C;have aG:min l (done.length:Int)=l':=ar.symm;have aF:wrap64 (t+(A.length:Int))=t':=by
    rw[←aw];unfold wrap64;omega
   clear ar aw;have aa:Below wr.heap.size wr (wr.alloc (.cells #[.int .i64 kn,.int .i64 sf,.slice x0 done.length y0,.slice x1 base.length y1,.slice x2 A.length y2,.slice x3 y.length y3,.slice x4 J.length y4] 64)):=by go_grown
   have X0:=Blk.new wr 64 #[.int .i64 kn,.int .i64 sf,.slice x0 done.length y0,.slice x1 base.length y1,.slice x2 A.length y2,.slice x3 y.length y3,.slice x4 J.length y4];have aI:=B5.lt;have aL:=aB;have t3:=(B5.below aa).cell 3 _ rfl;have f3:=(B5.below aa).frozen 3;have e2:=X0.cell 2 _ rfl;have B6:=B5.set 3 (.int .i64 l');simp only[pjE]at B6;have ah:(wr.setCell ⟨b5,3,none⟩ (.int .i64 l')).heap.size=wr.heap.size:=by simp
   have ab:Below (wr.setCell ⟨b5,3,none⟩ (.int .i64 l')).heap.size (wr.setCell ⟨b5,3,none⟩ (.int .i64 l')) ((wr.setCell ⟨b5,3,none⟩ (.int .i64 l')).alloc (.cells #[.int .i64 kn,.int .i64 sf,.slice x0 done.length y0,.slice x1 base.length y1,.slice x2 A.length y2,.slice x3 y.length y3,.slice x4 J.length y4] 64)):=by go_grown
   have X1:=Blk.new (wr.setCell ⟨b5,3,none⟩ (.int .i64 l')) 64 #[.int .i64 kn,.int .i64 sf,.slice x0 done.length y0,.slice x1 base.length y1,.slice x2 A.length y2,.slice x3 y.length y3,.slice x4 J.length y4];rw[ah]at X1;have t4:=(B6.below ab).cell 4 _ rfl;have f4:=(B6.below ab).frozen 4;have e4:=X1.cell 4 _ rfl;have B7:=B6.set 4 (.int .i64 t');simp only[pjE]at B7;have L:Below ((wr.setCell ⟨b5,3,none⟩ (.int .i64 l')).setCell ⟨b5,4,none⟩ (.int .i64 t')).heap.size ((wr.setCell ⟨b5,3,none⟩ (.int .i64 l')).setCell ⟨b5,4,none⟩ (.int .i64 t')) (((wr.setCell ⟨b5,3,none⟩ (.int .i64 l')).setCell ⟨b5,4,none⟩ (.int .i64 t')).alloc (.cells #[.int .i64 kn,.int .i64 sf,.slice x0 done.length y0,.slice x1 base.length y1,.slice x2 A.length y2,.slice x3 y.length y3,.slice x4 J.length y4] 64)):=by go_grown
   have A7:=((A0.other (b':=b5) (by omega) 3 (.int .i64 l')).other (b':=b5) (by omega) 4 (.int .i64 t')).below L;have R7:=((Rb.other (b':=b5) (by omega) 3 (.int .i64 l')).other (b':=b5) (by omega) 4 (.int .i64 t')).below L;have b6:=(b0.setCell (p:=⟨b5,3,none⟩) (by show w.heap.size≤b5;omega) (.int .i64 l')).setCell (p:=⟨b5,4,none⟩) (by show w.heap.size≤b5;omega) (.int .i64 t');have b7:=b6.trans (L.mono b6.size);replace B7:=B7.below L;have aO:¬wr.heap.size=b5:=by omega
   have aP:¬b5=wr.heap.size:=by omega
   have au:(k:Int)<(x.length:Int):=by omega
   clear A0 Rb B5 B6 b0 aa ab L X0 X1 b6 ah
   go_wp2
   go_roundw
   case rel=>exact⟨k+1,by omega,by go_num,A7,R7,by rw[show LS (k+1)=l' from ax.out,show TN (k+1)=t' from ay.out];exact B7,b7⟩
   case measure=>simp[intOf];omega
  ·have aC:k=x.length:=by omega
   subst aC;have au:¬(x.length:Int)<(x.length:Int):=by omega
   have M:LS x.length=dL:=HE.out.2.2.1;have N:TN x.length=dT:=HE.out.2.2.2;rw[M,N]at B5;clear M N HE an Z;obtain⟨t0,t1,t2,t3,t4⟩:=B5.cel5;have Rr:=Rb.row #[.int .i64 0,.int .i64 dD,.int .i64 dN,.int .i64 dL,.int .i64 dT];have U:=z0y wr (w.heap.size+1) #[.int .i64 0,.int .i64 dD,.int .i64 dN,.int .i64 dL,.int .i64 dT];have b3:=Out.keep b0 U b0.size (fun k hk=>by simp only[List.mem_singleton]at hk;omega);have ai:(Tryz.prog.info? 28).map (·.size)=some (#[.int .i64 0,.int .i64 dD,.int .i64 dN,.int .i64 dL,.int .i64 dT]:Array Value).size:=by kernel_rfl
   go_wp2_with (refine z0C (by kernel_rfl) 28 _ _ rfl _ #[.int .i64 0,.int .i64 dD,.int .i64 dN,.int .i64 dL,.int .i64 dT] rfl rfl 28 _ Rb ai rfl (by simp[Value.oneCell']) ?_)
   obtain⟨r0,r1,r2,r3,r4⟩:=Rr.cel5;exact bodyPost_ret (v:=.agg #[.int .i64 0,.int .i64 dD,.int .i64 dN,.int .i64 dL,.int .i64 dT]) (by simp[results,Tryz.results10,go_sem,r0,r1,r2,r3,r4]) rfl ⟨by first|rfl|(rw[al.out];done)|(rw[al.out];rfl),b3⟩
theorem z3c(p:CluQ)(w:World)(h:cluK.own w p)(hl:p.n≤1048576):
  Calls Tryz.prog 8 #[.agg #[p.vo,p.vm]] w fun e w'=>e=.returned (.agg #[.int .i64 (cluF p.e),.int .i64 (auD p.e),.int .i64 (auN p.e),.int .i64 (auL p.e),.int .i64 (auT p.e)])∧Below w.heap.size w w':=by
 have hf:=fun b w hB h=>z1W b p w hB h hl
 have M:p.ord.length+nmL InstQ.n p.ord≤1048576:=by unfold CluQ.n at hl;omega
 have ab:=fun w h h0=>q2P p.vo p.ord w h M h0
 have ad:=fun n w h h0 hn=>q2Q p.vo p.ord n w h M h0 hn
 have C:=fun(w':World) (hb:Below w.heap.size w w')=>cluK.own_out (F:=[]) (w':=w') h (Out.of_below hb) (fun _ _=>by simp)
 have HB:Hid (cluF p.e≠0→auD p.e=0∧auN p.e=0∧auL p.e=0∧auT p.e=0):=fun h0=>q4y h0
 have HO:Hid (cluF p.e=0→ordF (p.ord.map InstQ.e)=0∧(decN (p.ord.map InstQ.e):Int)=auD p.e∧((defL (p.ord.map InstQ.e) (decN (p.ord.map InstQ.e))).length:Int)=auN p.e):=fun h0=>by
  obtain⟨a,b,c,_,_,d,_⟩:=q4a h0;exact⟨a,b.symm,c.symm⟩
 have HS:Hid (cluF p.e=0→∃LS TN:Nat→Int,LS 0=99∧TN 0=0∧LS p.mem.length=auL p.e∧TN p.mem.length=auT p.e∧(∀k,(hk:k<p.mem.length)→LS (k+1)=min (LS k) (p.mem[k].done.length:Int)∧TN (k+1)=TN k+(p.mem[k].tent.length:Int))∧∀k,k≤p.mem.length→(0≤LS k∧LS k≤99)∧0≤TN k∧TN k≤8*k):=fun h0=>by
  obtain⟨_,_,_,e4,e5,e6,e7⟩:=q4a h0;obtain⟨LS,TN,a,b,c,d,e,f⟩:=q0g p h0 99 (by omega);exact⟨LS,TN,a,b,by rw[c,e7],by rw[d,e5],e,f⟩
 have HM:Hid (cluF p.e=0→p.mem.length=3):=fun h0=>by have:=(z0R h0).2.1;simpa[CluQ.e]using this
 obtain⟨vo,y,vm,x⟩:=p;obtain⟨a0,k0,rfl⟩:∃a c,vo=.slice a y.length c:=h.1.shape;obtain⟨a1,k1,rfl⟩:∃a c,vm=.slice a x.length c:=h.2.shape;have aM:x.length+nmL NodeQ.n x≤1048576:=by dsimp only[CluQ.n]at hl;omega
 clear hl;obtain⟨ho,hm⟩:instK.Own w (.slice a0 y.length k0) y∧nodeK.Own w (.slice a1 x.length k1) x:=h;dsimp only at hf ad C HB HO HS HM M ab;generalize auD _=dD at*;generalize auN _=dN at*;generalize auL _=dL at*;generalize auT _=dT at*;generalize cluF _=D at*;have b0:Below w.heap.size w ((w.alloc (.cells #[.slice a0 y.length k0,.slice a1 x.length k1] 33)).alloc (.cells #[.int .i64 0,.int .i64 0,.int .i64 0,.int .i64 0,.int .i64 0] 28)):=by go_grown
 have A0:=(Blk.new w 33 #[.slice a0 y.length k0,.slice a1 x.length k1]).below (w':=(w.alloc (.cells #[.slice a0 y.length k0,.slice a1 x.length k1] 33)).alloc (.cells #[.int .i64 0,.int .i64 0,.int .i64 0,.int .i64 0,.int .i64 0] 28)) (by go_grown);have Rb:=Blk.new (w.alloc (.cells #[.slice a0 y.length k0,.slice a1 x.length k1] 33)) 28 #[.int .i64 0,.int .i64 0,.int .i64 0,.int .i64 0,.int .i64 0];simp only[World.size_alloc]at Rb;have aO:w.heap.size+2≤((w.alloc (.cells #[.slice a0 y.length k0,.slice a1 x.length k1] 33)).alloc (.cells #[.int .i64 0,.int .i64 0,.int .i64 0,.int .i64 0,.int .i64 0] 28)).heap.size:=by simp only[World.size_alloc];omega
 go_enter Tryz.func8,Tryz.ntmps8
 go_wp2_with fail
 generalize (w.alloc (.cells #[.slice a0 y.length k0,.slice a1 x.length k1] 33)).alloc (.cells #[.int .i64 0,.int .i64 0,.int .i64 0,.int .i64 0,.int .i64 0] 28)=W at*;refine(hf _ W A0 (C W b0)).mono ?_;rintro e w1 ⟨rfl,hb⟩;replace A0:=A0.below hb;replace Rb:=Rb.below hb;have aN:=hb.size;replace b0:=b0.trans (hb.mono b0.size);clear hb hf;by_cases hD:D=0
 case neg=>
  have aJ:(D !=0)=true:=by simpa using hD
  have L:Hid _:=HB.out hD;clear HB HO HS HM hD C;have Rr:=Rb.row #[.int .i64 D,.int .i64 0,.int .i64 0,.int .i64 0,.int .i64 0];have U:=z0y w1 (w.heap.size+1) #[.int .i64 D,.int .i64 0,.int .i64 0,.int .i64 0,.int .i64 0];have b3:=Out.keep b0 U b0.size (fun k hk=>by simp only[List.mem_singleton]at hk;omega);have ag:(Tryz.prog.info? 28).map (·.size)=some (#[.int .i64 D,.int .i64 0,.int .i64 0,.int .i64 0,.int .i64 0]:Array Value).size:=by kernel_rfl
  go_wp2_with (refine z0C (by kernel_rfl) 28 _ _ rfl _ #[.int .i64 D,.int .i64 0,.int .i64 0,.int .i64 0,.int .i64 0] rfl rfl 28 _ Rb ag rfl (by simp[Value.oneCell']) ?_)
  obtain⟨r0,r1,r2,r3,r4⟩:=Rr.cel5;exact bodyPost_ret (v:=.agg #[.int .i64 D,.int .i64 0,.int .i64 0,.int .i64 0,.int .i64 0]) (by simp[results,Tryz.results8,go_sem,r0,r1,r2,r3,r4]) rfl ⟨by rw[L.out.1,L.out.2.1,L.out.2.2.1,L.out.2.2.2],b3⟩
 have hO:=HO.out hD;obtain⟨LS,TN,am,ap,E,I,aw,aq⟩:=HS.out hD;have aC:Hid _:=HM.out hD;have al:Hid _:=aw;have T:Hid _:=aq;have HE:Hid (LS 0=99∧TN 0=0∧LS x.length=dL∧TN x.length=dT):=⟨am,ap,E,I⟩
 subst hD;clear HB HO HS HM aw aq am ap E I;obtain⟨Y,an,ao⟩:=hO;have c0:=A0.cell 0 _ rfl
 go_wp2_with fail
 refine(ab w1 (C w1 b0).1.at Y).mono ?_;rintro e w2 ⟨rfl,hb⟩;replace A0:=A0.below hb;replace Rb:=Rb.below hb;replace b0:=b0.trans (hb.mono b0.size);clear hb ab c0;have A:=ad (decN (y.map InstQ.e):Int) w2 (C w2 b0).1.at Y (by omega);rw[Int.toNat_natCast]at A;rw[an]at A⊢;have c0:=A0.cell 0 _ rfl;have ak:Hid _:=ao;clear ad ao an Y M
 go_wp2_with fail
 clear c0;refine A.mono ?_;rintro e w3 ⟨v',qs,rfl,eq,on,_,_,hb⟩;obtain⟨za,zc,rfl⟩:=on.shape;have aF:(qs.length:Int)=dN:=by
  have:=congrArg List.length eq;rw[List.length_map]at this;rw[this];exact ak.out
 replace A0:=A0.below hb;replace Rb:=Rb.below hb;replace b0:=b0.trans (hb.mono b0.size);clear hb C ho on eq ak A;have h3:0<x.length:=by
  have:=aC.out;omega
 obtain⟨g,ay,rfl,_,_,_⟩:=hm.at.cell (by decide) 0 h3;have B5:=Blk.new w3 28 #[.int .i64 0,.int .i64 dD,.int .i64 dN,.int .i64 99,.int .i64 0];have hX:Below w3.heap.size w3 (w3.alloc (.cells #[.int .i64 0,.int .i64 dD,.int .i64 dN,.int .i64 99,.int .i64 0] 28)):=by go_grown
 replace A0:=A0.below hX;have aK:=Rb.lt;replace Rb:=Rb.below hX;replace b0:=b0.trans (hX.mono b0.size);have aI:w3.heap.size≠w.heap.size+1∧w3.heap.size≠w.heap.size:=by omega
 clear hX
 go_wp2_with fail
 first|rw[aF]|skip
 generalize w3.alloc (.cells #[.int .i64 0,.int .i64 dD,.int .i64 dN,.int .i64 99,.int .i64 0] 28)=W3 at*;generalize w3.heap.size=b5 at*;go_loopw[6] (fun i wr=>∃k:Nat,k≤x.length∧i=.int .i64 k∧Blk wr w.heap.size 33 #[.slice a0 y.length k0,.slice (some ⟨g,ay,none⟩) x.length k1]∧Blk wr (w.heap.size+1) 28 #[.int .i64 0,.int .i64 0,.int .i64 0,.int .i64 0,.int .i64 0]∧Blk wr b5 28 #[.int .i64 0,.int .i64 dD,.int .i64 dN,.int .i64 (LS k),.int .i64 (TN k)]∧Below w.heap.size w wr) (fun i _=>x.length-(intOf i).toNat)
 case atStart=>
  have e1:LS 0=99:=HE.out.1;have e2:TN 0=0:=HE.out.2.1;exact⟨0,Nat.zero_le _,rfl,A0,Rb,by rw[e1,e2];exact B5,b0⟩
 case round=>
  clear A0 Rb B5 b0;obtain⟨k,hk,rfl,A0,Rb,B5,b0⟩:=hrel;by_cases J:k<x.length
  ·have aa:=z01 (hm.at.below b0) k J;have oq:repK.own w x[k].r:=z2m hm k J;have z:=al.out k J;have aL:=T.out k hk;have N:=T.out (k+1) J;have q2:=aa 2 x[k].vd rfl;have q4:=aa 4 x[k].vt rfl;have V:Hid (∀w',Below w.heap.size w w'→w'.cell? ⟨g,ay+k*7+4,none⟩=some x[k].vt):=fun w' aD=>z01 (hm.at.below aD) k J 4 x[k].vt rfl
   clear aa;generalize x[k]=q at*;obtain⟨kn,sf,vd,done,vb,base,vt,O,vu,aj,vn,aG⟩:=q;obtain⟨x0,y0,rfl⟩:∃a c,vd=.slice a done.length c:=oq.1.shape;obtain⟨x1,y1,rfl⟩:∃a c,vb=.slice a base.length c:=oq.2.1.shape;obtain⟨x2,y2,rfl⟩:∃a c,vt=.slice a O.length c:=oq.2.2.1.shape;obtain⟨x3,y3,rfl⟩:∃a c,vu=.slice a aj.length c:=oq.2.2.2.1.shape;obtain⟨x4,y4,rfl⟩:∃a c,vn=.slice a aG.length c:=oq.2.2.2.2.shape;clear oq;dsimp only at q2 q4 z V;generalize LS k=l at*;obtain⟨l',ae⟩:∃l',LS (k+1)=l':=⟨_,rfl⟩
   generalize TN k=t at*;obtain⟨t',ah⟩:∃t',TN (k+1)=t':=⟨_,rfl⟩
   have aA:Hid (LS (k+1)=l'):=ae;have aB:Hid (TN (k+1)=t'):=ah;rw[ae]at z N;rw[ah]at z N;clear ae ah;obtain⟨ar,ax⟩:=z;have av:min l (done.length:Int)=l':=ar.symm;have aH:wrap64 (t+(O.length:Int))=t':=by
    rw[←ax];unfold wrap64;omega
   clear ar ax;have au:(k:Int)<(x.length:Int):=by omega
   have c1:=A0.cell 1 _ rfl
   go_wp2_with fail
   have hW:Below wr.heap.size wr wr.drew:=(Below.refl _ _).drew;have af:Nonempty (Lat wr):=⟨⟨wr,Below.refl _ _⟩⟩
   have m1:=A0.lat 1 _ rfl;have m3:=B5.lat 3 _ rfl;have m2:=z0a q2;refine z5q (S:=fun w'=>∃u:Lat wr,w'=u.val) (R:=fun _ _=>False) 12 (by kernel_rfl) (fun _ _ _ _ h=>h.elim) ?_;refine sgX [(0,9)] 4 (by kernel_rfl) ⟨⟨_,hW⟩,rfl⟩ ?_;simp only[pkE];repeat go_big_quiet_step (fail)
   refine wpQuiet_nil ?_;generalize wr.drew=wd at*;refine onX 9 3 rfl (by kernel_rfl) ?_
   go_wp2
   refine ThenX.to ⟨Or.inr ⟨⟨_,hW⟩,rfl⟩,?_⟩;try simp only[Act.put,pgE,pjE]
   refine clX 10 (some 39) 31 #[.int .i64 l,.int .i64 done.length] 2 (by kernel_rfl) rfl ?_;refine(q5A _ _ _).mono ?_;rintro e w9 ⟨rfl,ai⟩;replace ai:=ai.symm;subst ai;rw[av];refine Or.inl ⟨_,rfl,⟨⟨_,hW⟩,rfl⟩,?_⟩;try simp only[Act.put,pgE,pjE]
   refine onX 11 1 rfl (by kernel_rfl) ?_
   go_wp2
   refine ThenX.to ⟨Or.inr ⟨⟨_,hW⟩,rfl⟩,?_⟩;try simp only[Act.put,pgE,pjE]
   refine onX 12 0 rfl (by kernel_rfl) ?_;replace A0:=A0.below hW;replace Rb:=Rb.below hW;replace B5:=B5.below hW;replace b0:=b0.trans (hW.mono b0.size);have t3:=B5.cell 3 _ rfl;have f3:=B5.frozen 3;replace A0:=A0.other (b':=b5) (by omega) 3 (.int .i64 l');replace Rb:=Rb.other (b':=b5) (by omega) 3 (.int .i64 l');replace b0:=b0.setCell (p:=⟨b5,3,none⟩) (by show w.heap.size≤b5;omega) (.int .i64 l');have az:=V.out _ b0;replace B5:=B5.set 3 (.int .i64 l');simp only[pjE]at B5
   go_wp2
   refine ThenX.to ⟨Or.inl (by kernel_rfl),?_⟩;refine q5a (by kernel_rfl) ?_;clear t3 f3 m1 m2 m3 af hW q2 q4 c1 V;generalize wd.setCell ⟨b5,3,none⟩ (.int .i64 l')=X at*
   go_wp2_with fail
   have hW:Below X.heap.size X X.drew:=(Below.refl _ _).drew;have af:Nonempty (Lat X):=⟨⟨X,Below.refl _ _⟩⟩
   have m1:=A0.lat 1 _ rfl;have m3:=B5.lat 4 _ rfl;have m2:=z0a az;refine z5q (S:=fun w'=>∃u:Lat X,w'=u.val) (R:=fun _ _=>False) 12 (by kernel_rfl) (fun _ _ _ _ h=>h.elim) ?_;refine sgX [(0,9)] 4 (by kernel_rfl) ⟨⟨_,hW⟩,rfl⟩ ?_;simp only[pkE];repeat go_big_quiet_step (fail)
   refine wpQuiet_nil ?_;generalize X.drew=xd at*;refine onX 9 3 rfl (by kernel_rfl) ?_
   go_wp2
   refine ThenX.to ⟨Or.inr ⟨⟨_,hW⟩,rfl⟩,?_⟩;try simp only[Act.put,pgE,pjE]
   refine onX 10 2 rfl (by kernel_rfl) ?_
   go_wp2
   refine ThenX.to ⟨Or.inr ⟨⟨_,hW⟩,rfl⟩,?_⟩;try simp only[Act.put,pgE,pjE]
   refine onX 11 1 rfl (by kernel_rfl) ?_
   go_wp2
   refine ThenX.to ⟨Or.inr ⟨⟨_,hW⟩,rfl⟩,?_⟩;try simp only[Act.put,pgE,pjE]
   refine onX 12 0 rfl (by kernel_rfl) ?_;replace A0:=A0.below hW;replace Rb:=Rb.below hW;replace B5:=B5.below hW;replace b0:=b0.trans (hW.mono b0.size);have t4:=B5.cell 4 _ rfl;have f4:=B5.frozen 4;replace A0:=A0.other (b':=b5) (by omega) 4 (.int .i64 t');replace Rb:=Rb.other (b':=b5) (by omega) 4 (.int .i64 t');replace b0:=b0.setCell (p:=⟨b5,4,none⟩) (by show w.heap.size≤b5;omega) (.int .i64 t');replace B5:=B5.set 4 (.int .i64 t');simp only[pjE]at B5
   go_wp2
   refine ThenX.to ⟨Or.inl (by kernel_rfl),?_⟩;refine q5a (by kernel_rfl) ?_;clear t4 f4 m1 m2 m3 af hW az;generalize xd.setCell ⟨b5,4,none⟩ (.int .i64 t')=Z at*
   go_wp2
   go_roundw
   case rel=>exact⟨k+1,by omega,by go_num,A0,Rb,by rw[show LS (k+1)=l' from aA.out,show TN (k+1)=t' from aB.out];exact B5,b0⟩
   case measure=>simp[intOf];omega
  ·have aE:k=x.length:=by omega
   subst aE;have au:¬(x.length:Int)<(x.length:Int):=by omega
   have E:LS x.length=dL:=HE.out.2.2.1;have I:TN x.length=dT:=HE.out.2.2.2;rw[E,I]at B5;clear E I HE al T;obtain⟨t0,t1,t2,t3,t4⟩:=B5.cel5;have c1:=A0.cell 1 _ rfl;have Rr:=Rb.row #[.int .i64 0,.int .i64 dD,.int .i64 dN,.int .i64 dL,.int .i64 dT];have U:=z0y wr (w.heap.size+1) #[.int .i64 0,.int .i64 dD,.int .i64 dN,.int .i64 dL,.int .i64 dT];have b3:=Out.keep b0 U b0.size (fun k hk=>by simp only[List.mem_singleton]at hk;omega);have ag:(Tryz.prog.info? 28).map (·.size)=some (#[.int .i64 0,.int .i64 dD,.int .i64 dN,.int .i64 dL,.int .i64 dT]:Array Value).size:=by kernel_rfl
   go_wp2_with (refine z0C (by kernel_rfl) 28 _ _ rfl _ #[.int .i64 0,.int .i64 dD,.int .i64 dN,.int .i64 dL,.int .i64 dT] rfl rfl 28 _ Rb ag rfl (by simp[Value.oneCell']) ?_)
   obtain⟨r0,r1,r2,r3,r4⟩:=Rr.cel5;exact bodyPost_ret (v:=.agg #[.int .i64 0,.int .i64 dD,.int .i64 dN,.int .i64 dL,.int .i64 dT]) (by simp[results,Tryz.results8,go_sem,r0,r1,r2,r3,r4]) rfl ⟨by first|rfl|(rw[HDN.out];done)|(rw[HDN.out];rfl),b3⟩
theorem z3X(p:CluQ)(x:CluE)(hx:p.e=x)(w:World)(h:cluK.own w p)(hl:p.n≤1048576):
  Calls Tryz.prog 8 #[.agg #[p.vo,p.vm]] w fun e w'=>e=.returned (.agg #[.int .i64 (cluF x),.int .i64 (auD x),.int .i64 (auN x),.int .i64 (auL x),.int .i64 (auT x)])∧Below w.heap.size w w':=by
 subst hx;exact z3c p w h hl
theorem z3Y(p:CluQ)(x:CluE)(hx:p.e=x)(w:World)(hG:Rul w)(hT:ErrT w)(h:cluK.own w p)(hl:p.n≤1048576):
  Calls Tryz.prog 10 #[.agg #[p.vo,p.vm]] w fun e w'=>e=.returned (.agg #[.int .i64 (cluF x),.int .i64 (auD x),.int .i64 (auN x),.int .i64 (auL x),.int .i64 (auT x)])∧Below w.heap.size w w':=by
 subst hx;exact z3b p w hG hT h hl
theorem q23(p:CluQ)(w:World)(hG:Rul w)(hT:ErrT w)(hp:cluK.rd w p)(hw:p.wf):
  Calls Tryz.prog 3 #[.agg #[p.vo,p.vm]] w fun e w'=>e=.returned (.bool true)∧Below w.heap.size w w':=by
 have Y:=fun w h=>z2d p 1048576 w h hw (by omega) (by omega)
 have Z:=fun w h hl=>z2f p w h hl
 have aj:=fun a (ha:CluQ.e a=p.e) w h hl=>z3X a _ ha w h hl
 have af:=fun a (ha:CluQ.e a=p.e) w hG hT h hl=>z3Y a _ ha w hG hT h hl
 have ai:∀a:CluQ,a.e=p.e→a.n=p.n:=fun q hq=>q30 hq
 have ae:=fun(a b:CluQ) (ha:a.e=p.e) (hb:b.e=p.e) w h h' hl=>z2e a b w h h' (ha.trans hb.symm) hl
 have M:=fun(w':World) hb=>cluK.rd_below (w':=w') hp hb
 generalize cluF p.e=D at*;generalize auD p.e=E at*;generalize auN p.e=E2 at*;generalize auL p.e=E3 at*;generalize auT p.e=E4 at*;generalize aq:p.e=pe at*;generalize ar:p.n=pn at*;obtain⟨vo,I,vm,C⟩:=p;obtain⟨a0,k0,rfl⟩:∃a c,vo=.slice a I.length c:=hp.1.shape;obtain⟨a1,k1,rfl⟩:∃a c,vm=.slice a C.length c:=hp.2.shape;dsimp only at Y Z M;have b0:Below w.heap.size w (w.alloc (.cells #[.slice a0 I.length k0,.slice a1 C.length k1] 25)):=by go_grown
 have A0:=Blk.new w 25 #[.slice a0 I.length k0,.slice a1 C.length k1];obtain⟨p0,p1⟩:=A0.cel2;go_enter Tryz.func3,Tryz.ntmps3
 go_wp2_with fail
 clear p0 p1;generalize w.alloc (.cells #[.slice a0 I.length k0,.slice a1 C.length k1] 25)=W at*;refine(Y W (M W b0)).mono ?_;rintro e w1 ⟨r,rfl,hr,hb⟩;replace A0:=A0.below hb;replace b0:=b0.trans (hb.mono b0.size);clear hb;clear Y;by_cases ah:r<0
 ·go_wp2
  go_ret;exact⟨rfl,b0⟩
 have hl:((pn:Nat):Int)+r=1048576:=hr (by omega);clear hr;replace hl:pn≤1048576:=by omega
 have z:Hid _:=Z;clear Z;have U:Hid _:=aj;clear aj;have ad:Hid _:=af;clear af;have T:Hid _:=ai;clear ai;have ab:Hid _:=ae;clear ae;have y:Hid _:=M;clear M;clear aq ar;obtain⟨p0,p1⟩:=A0.cel2
 go_wp2_with fail
 clear p0 p1 ah;refine(z.out _ (y.out _ b0) hl).mono ?_;rintro e w2 ⟨q1,rfl,e1,o1,_,_,hb⟩;replace A0:=A0.below hb;replace b0:=b0.trans (hb.mono b0.size);clear hb
 go_wp2_with fail
 refine(U.out q1 e1 _ o1 (by rw[T.out q1 e1];exact hl)).mono ?_;rintro e w3 ⟨rfl,hb⟩;replace A0:=A0.below hb;replace b0:=b0.trans (hb.mono b0.size);clear hb o1 e1 U;have R0:=Blk.new w3 28 #[.int .i64 D,.int .i64 E,.int .i64 E2,.int .i64 E3,.int .i64 E4];have hb:Below w3.heap.size w3 (w3.alloc (.cells #[.int .i64 D,.int .i64 E,.int .i64 E2,.int .i64 E3,.int .i64 E4] 28)):=by go_grown
 replace A0:=A0.below hb;replace b0:=b0.trans (hb.mono b0.size);clear hb;obtain⟨p0,p1⟩:=A0.cel2
 go_wp2_with fail
 clear p0 p1;generalize w3.alloc (.cells #[.int .i64 D,.int .i64 E,.int .i64 E2,.int .i64 E3,.int .i64 E4] 28)=W3 at*;refine(z.out _ (y.out _ b0) hl).mono ?_;rintro e w4 ⟨q3,rfl,e3,o3,_,_,hb⟩;replace A0:=A0.below hb;replace R0:=R0.below hb;replace b0:=b0.trans (hb.mono b0.size);clear hb;have ag:CluQ.n q3≤1048576:=by rw[T.out q3 e3];exact hl
 have X:=fun w hG hT h=>ad.out q3 e3 w hG hT h ag
 have V:=fun q' au w h h'=>ab.out q3 q' e3 au w h h' ag
 obtain⟨aw,x,av,d⟩:=q3;obtain⟨J,N,rfl⟩:∃a c,aw=.slice a x.length c:=o3.1.shape;obtain⟨L,O,rfl⟩:∃a c,av=.slice a d.length c:=o3.2.shape;dsimp only at X V;have aa:Hid _:=X;have ak:Hid _:=V;clear X V;have X0:=Blk.new w4 33 #[.slice J x.length N,.slice L d.length O];have hb:Below w4.heap.size w4 (w4.alloc (.cells #[.slice J x.length N,.slice L d.length O] 33)):=by go_grown
 replace A0:=A0.below hb;replace R0:=R0.below hb;replace o3:=cluK.own_out (F:=[]) o3 (Out.of_below hb) (fun _ _=>by simp);replace b0:=b0.trans (hb.mono b0.size);clear hb;obtain⟨p0,p1⟩:=X0.cel2
 go_wp2_with fail
 clear p0 p1;generalize w4.alloc (.cells #[.slice J x.length N,.slice L d.length O] 33)=W4 at*;refine(aa.out W4 (hG.below b0) (hT.below b0) o3).mono ?_;rintro e w5 ⟨rfl,hb⟩;replace A0:=A0.below hb;replace X0:=X0.below hb;replace R0:=R0.below hb;replace o3:=cluK.own_out (F:=[]) o3 (Out.of_below hb) (fun _ _=>by simp);replace b0:=b0.trans (hb.mono b0.size);clear hb;clear aa;have S0:=Blk.new w5 28 #[.int .i64 D,.int .i64 E,.int .i64 E2,.int .i64 E3,.int .i64 E4];have hb:Below w5.heap.size w5 (w5.alloc (.cells #[.int .i64 D,.int .i64 E,.int .i64 E2,.int .i64 E3,.int .i64 E4] 28)):=by go_grown
 replace A0:=A0.below hb;replace X0:=X0.below hb;replace R0:=R0.below hb;replace o3:=cluK.own_out (F:=[]) o3 (Out.of_below hb) (fun _ _=>by simp);replace b0:=b0.trans (hb.mono b0.size);clear hb;obtain⟨p0,p1,p2,p3,p4⟩:=S0.cel5;obtain⟨r0,r1,r2,r3,r4⟩:=R0.cel5
 go_wp2_with fail
 clear p0 r0 p1 r1 p2 r2 p3 r3 p4 r4;generalize w5.alloc (.cells #[.int .i64 D,.int .i64 E,.int .i64 E2,.int .i64 E3,.int .i64 E4] 28)=W5 at*;refine(q20 D E E2 E3 E4 W5).mono ?_;rintro e w6 ⟨rfl,hb⟩;replace A0:=A0.below hb;replace X0:=X0.below hb;replace o3:=cluK.own_out (F:=[]) o3 (Out.of_below hb) (fun _ _=>by simp);replace b0:=b0.trans (hb.mono b0.size);clear hb;clear S0 R0
 go_wp2_with fail
 have hW:Below w6.heap.size w6 w6.drew:=(Below.refl _ _).drew;have ap:Nonempty (Lat w6):=⟨⟨w6,Below.refl _ _⟩⟩
 obtain⟨al,am⟩:=A0.lts2;obtain⟨an,ao⟩:=X0.lts2;refine z0d (S:=fun w'=>∃u:Lat w6,w'=u.val) (by kernel_rfl) ?_;refine sgr [(0,2)] 3 (by kernel_rfl) ⟨⟨_,hW⟩,rfl⟩ ?_;simp only[pkE];repeat go_big_quiet_step (fail)
 refine wpQuiet_nil ?_;refine cla 2 (some 25) 9 #[.agg #[.slice a0 I.length k0,.slice a1 C.length k1]] 2 (by kernel_rfl) ?_;refine(z.out _ (y.out _ (b0.trans (hW.mono b0.size))) hl).mono ?_;rintro e w9 ⟨q9,rfl,e9,o9,_,_,A⟩;replace hW:=hW.trans (A.mono hW.size);clear A;refine⟨_,rfl,⟨⟨_,hW⟩,rfl⟩,?_⟩;simp only[Act.put,pjE];refine cla 3 (some 26) 12 #[.agg #[.slice J x.length N,.slice L d.length O],.agg #[q9.vo,q9.vm]] 1 (by kernel_rfl) ?_;refine(ak.out q9 e9 _ (cluK.rd_below (cluK.own_rd o3) hW) (cluK.own_rd o9)).mono ?_;rintro e w9 ⟨rfl,A⟩;replace hW:=hW.trans (A.mono hW.size);clear A;refine⟨_,rfl,⟨⟨_,hW⟩,rfl⟩,?_⟩;simp only[Act.put,pjE];refine sgr [(4,1)] 0 (by kernel_rfl) ⟨⟨_,hW⟩,rfl⟩ ?_;simp only[pkE];repeat go_big_quiet_step (fail)
 refine wpQuiet_nil ?_;refine z0h (by kernel_rfl) ?_;clear ap al am an ao;replace b0:=b0.trans (hW.mono b0.size);clear o9 e9 o3 A0 X0 hW
 go_wp2
 go_ret;exact⟨rfl,b0⟩
end Go.Proofs.YtgdedpgldhbfhaaGreatDoor
