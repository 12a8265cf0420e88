/- Texts joined,with what the laws reach alone. -/
import Derived.Test.YtfpponhjhbfbeaaGreatDoorSOAM
set_option linter.unusedVariables false
set_option linter.unusedSimpArgs false
set_option maxRecDepth 100000
set_option maxHeartbeats 4000000
namespace Go.Proofs.YtfpponhjhbfbeaaGreatDoor
open Go.RowKit Go.BigFrame
theorem Blk.outs{w w':World}{b:Nat}{t:TypeId}{cs:Array Value}{F:List Nat}(h:Blk w b t cs)(hU:Out F w w')(hF:b∉F):Blk w' b t cs:=(hU.block b h.lt hF).trans h
theorem z7M{P E:Type}(f:P→E)(nm:E→Nat)(ps:List P):nmL nm (ps.map f)=nmL (fun p=>nm (f p)) ps:=by
 simp[nmL,Function.comp_def]
theorem z0E(q:InstQ):q.n=InstE.n q.e:=by
 unfold InstQ.n InstE.n z5L z1r;rw[show q.e.batch=q.batch.map TxnQ.e from rfl,show q.e.rounds=q.rounds.map RoundQ.e from rfl,z7M,z7M,List.length_map,List.length_map];rfl
theorem z7N{P:Type}(nm:P→Nat)(ps:List P)(i:Nat)(p d:P)(h:nm p=nm (ps.getD i d)):nmL nm (ps.set i p)=nmL nm ps:=by
 induction ps generalizing i with
 |nil=>rfl
 |cons q t ih=>
  cases i with
  |zero=>
   have:nm p=nm q:=h;simp[nmL,this]
  |succ i=>
   have:=ih i (by simpa[List.getD]using h);simp only[nmL,List.set_cons_succ,List.map_cons,List.sum_cons]at this⊢;rw[this]
theorem q0e(rs:List RoundE)(r n:Nat)(v:Int):z1r (z4Z rs r n v)=z1r rs:=by
 unfold z1r z4Z;rw[List.length_set,z7N RoundE.n rs r _ rnd0 (by simp[RoundE.n])]
theorem q0f(rs:List RoundE)(r n:Nat)(v:Int):z1r (z2C rs r n v)=z1r rs:=by
 unfold z1r z2C;rw[List.length_set,z7N RoundE.n rs r _ rnd0 (by simp[RoundE.n])]
def Opn(w:World):Prop:=∀j,j<3→w.cell? ⟨0,j,none⟩=some (.int .i64 3)
theorem Opn.below{w w':World}(h:Opn w)(hb:Below w.heap.size w w'):Opn w':=fun j hj=>z04 (h j hj) hb
structure RulO (w:World):Prop where
 r:Rul w
 o:Opn w
theorem RulO.below{w w':World}(h:RulO w)(hb:Below w.heap.size w w'):RulO w':=⟨h.r.below hb,h.o.below hb⟩
theorem Opn.range{w:World}(h:Opn w):w.rangeAt 0 0 [.int .i64 3,.int .i64 3,.int .i64 3]:=fun j v hv=>by
 rw[Nat.zero_add]
 match j,hv with
 |0,hv=>simp at hv;subst hv;exact h 0 (by omega)
 |1,hv=>simp at hv;subst hv;exact h 1 (by omega)
 |2,hv=>simp at hv;subst hv;exact h 2 (by omega)
theorem Opn.glob{w:World}(h:Opn w):0<w.heap.size:=World.block_lt_of_cell? w ⟨0,0,none⟩ (h 0 (by omega))
def z1B:RoundE:=⟨[3,3,3],[3,3,3]⟩
def z3R(rs:List RoundE)(r:Nat):List RoundE:=if r=rs.length then rs++[z1B]else rs
theorem z7O(rs:List RoundE)(r:Nat)(hr:r≤rs.length):r<(z3R rs r).length:=by
 unfold z3R;split
 ·simp;omega
 ·omega
theorem Opn.outs{w w':World}{F:List Nat}(h:Opn w)(hU:Out F w w')(hF:0∉F):Opn w':=fun j hj=>by
 have h0:=hU.block 0 h.glob hF;have h1:=h j hj;simp only[World.cell?]at h1⊢;rw[h0];exact h1
def q0P(rs:List RoundE)(r:Nat):List RoundE:=rs++List.replicate (r+1-rs.length) z1B
theorem z8D{rs:List RoundE}(h:Wel rs)(m:Nat):Wel (rs++List.replicate m z1B):=fun x hx=>by
 rcases List.mem_append.1 hx with hx|hx
 ·exact h x hx
 ·rw[(List.mem_replicate.1 hx).2];exact⟨rfl,rfl⟩
theorem z7P(b:Nat)(t:TypeId)(rs:List RoundE)(tail:List Value)(r:Nat)(w:World)(hO:Opn w)(hbo:b≠0)(hB:Blk w b t (rndC rs++tail).toArray)(h:Wel rs)(h4:rs.length≤4)(hr4:r<4):
  Calls Tryz.prog 70 #[.pointer (some ⟨b,0,none⟩),.int .i64 (r:Int)] w fun e w'=>e=.returned (.tuple #[])∧Blk w' b t (rndC (q0P rs r)++tail).toArray∧Out [b] w w':=by
 have hri:(r:Int)<4:=by omega
 go_enter Tryz.func70,Tryz.ntmps70
 go_wp2
 go_loopg[4] (r+1-rs.length) (fun n p wr=>∃m:Nat,n=r+1-(rs.length+m)∧m≤r+1-rs.length∧Blk wr b t (rndC (rs++List.replicate m z1B)++tail).toArray∧Out [b] w wr)
 case atStart=>exact⟨0,by omega,by omega,by simpa using hB,Out.refl _ _⟩
 case round=>
  obtain⟨m,rfl,hm,hB,hU⟩:=hrel;have hlm:(rs++List.replicate m z1B).length=rs.length+m:=by simp
  have hwm:=z8D h m;have c0:wr.cell? ⟨b,0,none⟩=some (.int .i64 ((rs++List.replicate m z1B).length:Int)):=hB.cell 0 _ rfl;rw[hlm]at c0;by_cases hlt:rs.length+m≤r
  ·have had:Calls Tryz.prog 89 #[.pointer (some ⟨b,0,none⟩),.agg #[.int .i64 3,.int .i64 3,.int .i64 3,.int .i64 3,.int .i64 3,.int .i64 3]] wr _:=z3f b t _ tail z1B wr hB hwm ⟨rfl,rfl⟩ (by omega);have hOr:=(hO.outs hU (by simp only[List.mem_singleton];exact fun e=>hbo e.symm)).range;have es:rs++List.replicate m z1B++[z1B]=rs++List.replicate (m+1) z1B:=by
    rw[List.append_assoc,show [z1B]=List.replicate 1 z1B from rfl,List.replicate_append_replicate]
   rw[es]at had;clear es hlm hwm hB;have hle:((rs.length+m:Nat):Int)≤(r:Int):=by omega
   generalize hk:rs.length+m=km at*
   go_wp2_with (first|(refine z4F (by kernel_rfl) 86 _ rfl _ _ rfl [.int .i64 3,.int .i64 3,.int .i64 3] _ hOr Tryz.underlying86 rfl z1v ?_))
   refine had.mono ?_;rintro e w2 ⟨rfl,hB2,hU2⟩;replace hU:=hU.trans hU2;clear had hOr c0 hU2
   go_wp2
   go_roundg (r+1-(rs.length+(m+1)))
   case rel=>exact⟨m+1,rfl,by omega,hB2,hU⟩
   case measure=>omega
  ·have e:rs++List.replicate m z1B=q0P rs r:=by
    unfold q0P;rw[show m=r+1-rs.length by omega]
   have hle:¬((rs.length+m:Nat):Int)≤(r:Int):=by omega
   rw[e]at hB;clear e hlm hwm;generalize hk:rs.length+m=km at*
   go_wp2
   go_end0
   exact⟨rfl,hB,hU⟩
def frC(x:InstE)(node value:Int):Int:=if atC x node 0=0 then(if inB value 0 1 then(if repA x.rounds 0 node.toNat=3 then(if value=1∧x.has=false then 10 else 0)else 6)else 3)else atC x node 0
def frI(x:InstE)(node value:Int):InstE:=if frC x node value=0 then⟨x.has,x.batch,z2C x.rounds 0 node.toNat value,x.dec⟩else z1w
theorem z4L(x:InstE)(node value:Int):(atC x node 0≠0→frC x node value=atC x node 0∧frI x node value=z1w)∧
  (atC x node 0=0→insF x=0∧∃ n:Nat,node=(n:Int)∧n < 3∧0 < x.rounds.length ∧
   (inB value 0 1=false→frC x node value=3∧frI x node value=z1w)∧
   (inB value 0 1=true→repA x.rounds 0 n≠3→frC x node value=6∧frI x node value=z1w)∧
   (inB value 0 1=true→repA x.rounds 0 n=3→value=1→x.has=false→frC x node value=10∧frI x node value=z1w)∧
   (inB value 0 1=true→repA x.rounds 0 n=3→¬ (value=1∧x.has=false)→frC x node value=0∧frI x node value=⟨x.has,x.batch,z2C x.rounds 0 n value,x.dec⟩)):=by
 have hne:∀c,frC x node value=c→c≠0→frI x node value=z1w:=fun c hc h0=>if_neg (by rw[hc];exact h0)
 refine⟨fun h0=>?_,fun h0=>?_⟩
 ·have e:frC x node value=atC x node 0:=if_neg h0;exact⟨e,hne _ e h0⟩
 ·obtain⟨hi,n,r,rfl,hr0,hn,hr⟩:=z50 h0;refine⟨hi,n,rfl,hn,by omega,fun h1=>?_,fun h1 h2=>?_,fun h1 h2 h3 h4=>?_,fun h1 h2 h3=>?_⟩
  ·have e:frC x n value=3:=by unfold frC;rw[if_pos h0,h1];rfl
   exact⟨e,hne _ e (by decide)⟩
  ·have e:frC x n value=6:=by unfold frC;rw[if_pos h0,h1,if_pos rfl,Int.toNat_natCast,if_neg h2]
   exact⟨e,hne _ e (by decide)⟩
  ·have e:frC x n value=10:=by unfold frC;rw[if_pos h0,h1,if_pos rfl,Int.toNat_natCast,if_pos h2,if_pos ⟨h3,h4⟩]
   exact⟨e,hne _ e (by decide)⟩
  ·have e:frC x n value=0:=by unfold frC;rw[if_pos h0,h1,if_pos rfl,Int.toNat_natCast,if_pos h2,if_neg h3]
   exact⟨e,by unfold frI;rw[if_pos e,Int.toNat_natCast]⟩
theorem z1J(b o:Nat)(p:InstQ)(node value:Int)(w:World)(hP:InstP w b o p)(hbw:b<w.heap.size)(hl:p.n≤1048576)(h0:insF p.e=0):
  Calls Tryz.prog 93 #[.pointer (some ⟨b,o,none⟩),.int .i64 node,.int .i64 value] w fun e w'=>∃q:InstQ,e=.returned (.agg (z9W (frC p.e node value) 0 false false 0 q))∧q.e=frI p.e node value∧instK.own w' q∧(instK.foot q).Nodup∧(∀k∈instK.foot q,w.heap.size≤k)∧Below w.heap.size w w':=by
 obtain⟨hne,hro,hd0⟩:=z2l h0;obtain⟨hwel,⟨h1,h4⟩,hd3,hF,_⟩:=z2w h0;have hco:=fun w h=>z1x p w h hl hne hro hd0
 have hrl:p.e.rounds.length=p.rounds.length:=List.length_map _;have hIR:=z2N hP 0 (by omega) hF;have hLE:=fun(q:InstQ) (hq:q.e=p.e) (r:Nat) (hr:r<p.e.rounds.length)=>z6x hq hwel r hr
 have HF:=z4L p.e node value;have HA:Hid (inB node 0 2=false→atC p.e node 0=3):=fun hA=>by
  unfold atC;rw[if_pos h0,hA];rfl
 have HA2:Hid (inB node 0 2=true→atC p.e node 0=0):=fun hA=>by
  unfold atC;have:inB 0 0 ((p.e.rounds.length:Int)-1)=true:=by unfold inB;rw[decide_eq_true_eq];omega
  rw[if_pos h0,hA,this];rfl
 have HPE:Hid (∀ (q:InstQ),q.e=p.e→∀r n v hq,(q.setR r n v hq).e=⟨p.e.has,p.e.batch,z2C p.e.rounds r n v,p.e.dec⟩):=fun q hq r n v hh=>by rw[z6u,hq]
 have HH:Hid (p.e.has=p.has):=(rfl:_=_)
 clear hne hro hd0 hF h0;generalize frC p.e node value=D at*;generalize frI p.e node value=E at*;generalize atC p.e node 0=C at*;replace HF:Hid _:=HF;have hrd:=hP.rd;have hrb:=fun(w':World) hb=>instK.rd_below (w':=w') hrd hb
 have HRL:Hid (p.e.rounds.length=p.rounds.length):=hrl;clear hrl;generalize hpe:p.e=pe at*;clear hpe;obtain⟨has,vb,batch,vr,rounds,vd,dec⟩:=p;obtain⟨ba,bk,rfl⟩:∃a c,vb=.slice a batch.length c:=hrd.1.shape;obtain⟨va,vk,rfl⟩:∃a c,vr=.slice a rounds.length c:=hrd.2.1.shape;obtain⟨da,dk,rfl⟩:∃a c,vd=.slice a dec.length c:=hrd.2.2.shape;dsimp only at hco hrb hIR HRL HH;have hB:Below w.heap.size w (w.alloc (.cells #[.int .i64 0,.int .i64 0,.bool false,.bool false,.int .i64 0,.bool false,.slice none 0 0,.slice none 0 0,.slice none 0 0] 60)):=by go_grown
 have Rb:=Blk.new w 60 #[.int .i64 0,.int .i64 0,.bool false,.bool false,.int .i64 0,.bool false,.slice none 0 0,.slice none 0 0,.slice none 0 0]
 cases hN:inB node 0 2 with
 |false=>
  have hC:C=3:=HA.out hN;have E1:Hid (D=3∧E=z1w):=by
   obtain⟨h1,h2⟩:=HF.out.1 (by rw[hC];decide);exact⟨h1.trans hC,h2⟩
  clear HF hIR hLE hco hC HA HA2;go_enter Tryz.func93,Tryz.ntmps93
  go_wp2_with (first|(go_at_call 110;refine(z0Z _ _).mono ?_;rintro e w' ⟨rfl,rfl⟩)|(go_at_call 48;refine(z0z _ _ _ _).mono ?_;rintro e w' ⟨rfl,rfl⟩))
  refine(z0q 3 _).mono ?_;rintro e w8 ⟨rfl,hb8⟩;replace hB:=hB.trans (hb8.mono hB.size);replace Rb:=Rb.below hb8;clear hb8;have Rr:=Rb.row #[.int .i64 3,.int .i64 0,.bool false,.bool false,.int .i64 0,.bool false,.slice none 0 0,.slice none 0 0,.slice none 0 0];have hBr:=z0a hB (g:=w.heap.size) (by omega) #[.int .i64 3,.int .i64 0,.bool false,.bool false,.int .i64 0,.bool false,.slice none 0 0,.slice none 0 0,.slice none 0 0];have hsr:(Tryz.prog.info? 60).map (·.size)=some (#[.int .i64 3,.int .i64 0,.bool false,.bool false,.int .i64 0,.bool false,.slice none 0 0,.slice none 0 0,.slice none 0 0]:Array Value).size:=z0s
  go_wp2_with (first|(refine z0b (by kernel_rfl) 60 _ _ rfl _ #[.int .i64 3,.int .i64 0,.bool false,.bool false,.int .i64 0,.bool false,.slice none 0 0,.slice none 0 0,.slice none 0 0] rfl rfl 60 _ Rb hsr rfl (by simp[Value.oneCell']) ?_))
  have q0:=Rr.cell 0 _ rfl;have q1:=Rr.cell 1 _ rfl;have q2:=Rr.cell 2 _ rfl;have q3:=Rr.cell 3 _ rfl;have q4:=Rr.cell 4 _ rfl;have q5:=Rr.cell 5 _ rfl;have q6:=Rr.cell 6 _ rfl;have q7:=Rr.cell 7 _ rfl;have q8:=Rr.cell 8 _ rfl;exact bodyPost_ret (v:=.agg #[.int .i64 3,.int .i64 0,.bool false,.bool false,.int .i64 0,.bool false,.slice none 0 0,.slice none 0 0,.slice none 0 0]) (by simp[results,Tryz.results93,go_sem,q0,q1,q2,q3,q4,q5,q6,q7,q8]) rfl ⟨z1b,by rw[E1.out.1];rfl,E1.out.2.symm,z0p _,z0x,fun k hk=>by rw[z0t]at hk;simp at hk,hBr⟩
 |true=>
  obtain⟨hi0,n,rfl,hn,hr,f3,f6,f10,f0⟩:=HF.out.2 (HA2.out hN);rw[HH.out]at f10 f0;have F3:Hid _:=f3;have F6:Hid _:=f6;have F10:Hid _:=f10;have F0:Hid _:=f0;clear hi0 f3 f6 f10 f0 HF HA HA2
  cases hV:inB value 0 1 with
  |false=>
   have E1:Hid (D=3∧E=z1w):=F3.out hV;clear F3 F6 F10 F0 hLE hco hIR;go_enter Tryz.func93,Tryz.ntmps93
   go_wp2_with (first|(go_at_call 110;refine(z0Z _ _).mono ?_;rintro e w' ⟨rfl,rfl⟩)|(go_at_call 48;refine(z0z _ _ _ _).mono ?_;rintro e w' ⟨rfl,rfl⟩))
   refine(z0q 3 _).mono ?_;rintro e w8 ⟨rfl,hb8⟩;replace hB:=hB.trans (hb8.mono hB.size);replace Rb:=Rb.below hb8;clear hb8;have Rr:=Rb.row #[.int .i64 3,.int .i64 0,.bool false,.bool false,.int .i64 0,.bool false,.slice none 0 0,.slice none 0 0,.slice none 0 0];have hBr:=z0a hB (g:=w.heap.size) (by omega) #[.int .i64 3,.int .i64 0,.bool false,.bool false,.int .i64 0,.bool false,.slice none 0 0,.slice none 0 0,.slice none 0 0];have hsr:(Tryz.prog.info? 60).map (·.size)=some (#[.int .i64 3,.int .i64 0,.bool false,.bool false,.int .i64 0,.bool false,.slice none 0 0,.slice none 0 0,.slice none 0 0]:Array Value).size:=z0s
   go_wp2_with (first|(refine z0b (by kernel_rfl) 60 _ _ rfl _ #[.int .i64 3,.int .i64 0,.bool false,.bool false,.int .i64 0,.bool false,.slice none 0 0,.slice none 0 0,.slice none 0 0] rfl rfl 60 _ Rb hsr rfl (by simp[Value.oneCell']) ?_))
   have q0:=Rr.cell 0 _ rfl;have q1:=Rr.cell 1 _ rfl;have q2:=Rr.cell 2 _ rfl;have q3:=Rr.cell 3 _ rfl;have q4:=Rr.cell 4 _ rfl;have q5:=Rr.cell 5 _ rfl;have q6:=Rr.cell 6 _ rfl;have q7:=Rr.cell 7 _ rfl;have q8:=Rr.cell 8 _ rfl;exact bodyPost_ret (v:=.agg #[.int .i64 3,.int .i64 0,.bool false,.bool false,.int .i64 0,.bool false,.slice none 0 0,.slice none 0 0,.slice none 0 0]) (by simp[results,Tryz.results93,go_sem,q0,q1,q2,q3,q4,q5,q6,q7,q8]) rfl ⟨z1b,by rw[E1.out.1];rfl,E1.out.2.symm,z0p _,z0x,fun k hk=>by rw[z0t]at hk;simp at hk,hBr⟩
  |true=>
   obtain⟨rb,ro,vk',xb,xo,xc,yb,yo,yc,hvr,k0,_,kx,_,_,_⟩:=hIR;simp only[Value.slice.injEq,true_and]at hvr;obtain⟨rfl,rfl⟩:=hvr;replace kx:=kx n hn;rw[Nat.zero_mul,Nat.add_zero]at k0;replace k0:=z04 k0 hB;replace kx:=z04 kx hB;have hPW:=hP.below hB;obtain⟨c0,c1,c2,c3⟩:=hPW.box;dsimp only at c0 c1 c2 c3;have hr4:(0:Int)<rounds.length:=by have:=HRL.out;omega
   have hn3:(n:Int)<3:=by omega
   generalize hre:repA pe.rounds 0 n=RE at*;clear hre;by_cases hp4:RE=3
   case neg=>
    have E1:Hid (D=6∧E=z1w):=F6.out hV hp4;have hq4:(RE !=3)=true:=by simpa using hp4
    clear F3 F6 F10 F0 hp4 hLE hco;go_enter Tryz.func93,Tryz.ntmps93
    go_wp2_with (first|(go_at_call 110;refine(z0Z _ _).mono ?_;rintro e w' ⟨rfl,rfl⟩)|(go_at_call 48;refine(z0z _ _ _ _).mono ?_;rintro e w' ⟨rfl,rfl⟩))
    refine(z0q 6 _).mono ?_;rintro e w8 ⟨rfl,hb8⟩;replace hB:=hB.trans (hb8.mono hB.size);replace Rb:=Rb.below hb8;clear hb8;have Rr:=Rb.row #[.int .i64 6,.int .i64 0,.bool false,.bool false,.int .i64 0,.bool false,.slice none 0 0,.slice none 0 0,.slice none 0 0];have hBr:=z0a hB (g:=w.heap.size) (by omega) #[.int .i64 6,.int .i64 0,.bool false,.bool false,.int .i64 0,.bool false,.slice none 0 0,.slice none 0 0,.slice none 0 0];have hsr:(Tryz.prog.info? 60).map (·.size)=some (#[.int .i64 6,.int .i64 0,.bool false,.bool false,.int .i64 0,.bool false,.slice none 0 0,.slice none 0 0,.slice none 0 0]:Array Value).size:=z0s
    go_wp2_with (first|(refine z0b (by kernel_rfl) 60 _ _ rfl _ #[.int .i64 6,.int .i64 0,.bool false,.bool false,.int .i64 0,.bool false,.slice none 0 0,.slice none 0 0,.slice none 0 0] rfl rfl 60 _ Rb hsr rfl (by simp[Value.oneCell']) ?_))
    have q0:=Rr.cell 0 _ rfl;have q1:=Rr.cell 1 _ rfl;have q2:=Rr.cell 2 _ rfl;have q3:=Rr.cell 3 _ rfl;have q4:=Rr.cell 4 _ rfl;have q5:=Rr.cell 5 _ rfl;have q6:=Rr.cell 6 _ rfl;have q7:=Rr.cell 7 _ rfl;have q8:=Rr.cell 8 _ rfl;exact bodyPost_ret (v:=.agg #[.int .i64 6,.int .i64 0,.bool false,.bool false,.int .i64 0,.bool false,.slice none 0 0,.slice none 0 0,.slice none 0 0]) (by simp[results,Tryz.results93,go_sem,q0,q1,q2,q3,q4,q5,q6,q7,q8]) rfl ⟨z1b,by rw[E1.out.1];rfl,E1.out.2.symm,z0p _,z0x,fun k hk=>by rw[z0t]at hk;simp at hk,hBr⟩
   case pos=>
    have F1:Hid ((value=1→has=false→D=10∧E=z1w)∧(¬(value=1∧has=false)→D=0∧E=⟨has,pe.batch,z2C pe.rounds 0 n value,pe.dec⟩)):=⟨F10.out hV hp4,F0.out hV hp4⟩
    rw[←HH.out]at F1;have hq4:(RE !=3)=false:=by rw[hp4];rfl
    clear F3 F6 F10 F0 hp4;by_cases hbad:value=1∧has=false
    case pos=>
     have E1:Hid (D=10∧E=z1w):=F1.out.1 hbad.1 (by rw[HH.out];exact hbad.2);obtain⟨rfl,rfl⟩:=hbad;clear F1 hLE hco;go_enter Tryz.func93,Tryz.ntmps93
     go_wp2_with (first|(go_at_call 110;refine(z0Z _ _).mono ?_;rintro e w' ⟨rfl,rfl⟩)|(go_at_call 48;refine(z0z _ _ _ _).mono ?_;rintro e w' ⟨rfl,rfl⟩))
     refine(z0q 10 _).mono ?_;rintro e w8 ⟨rfl,hb8⟩;replace hB:=hB.trans (hb8.mono hB.size);replace Rb:=Rb.below hb8;clear hb8;have Rr:=Rb.row #[.int .i64 10,.int .i64 0,.bool false,.bool false,.int .i64 0,.bool false,.slice none 0 0,.slice none 0 0,.slice none 0 0];have hBr:=z0a hB (g:=w.heap.size) (by omega) #[.int .i64 10,.int .i64 0,.bool false,.bool false,.int .i64 0,.bool false,.slice none 0 0,.slice none 0 0,.slice none 0 0];have hsr:(Tryz.prog.info? 60).map (·.size)=some (#[.int .i64 10,.int .i64 0,.bool false,.bool false,.int .i64 0,.bool false,.slice none 0 0,.slice none 0 0,.slice none 0 0]:Array Value).size:=z0s
     go_wp2_with (first|(refine z0b (by kernel_rfl) 60 _ _ rfl _ #[.int .i64 10,.int .i64 0,.bool false,.bool false,.int .i64 0,.bool false,.slice none 0 0,.slice none 0 0,.slice none 0 0] rfl rfl 60 _ Rb hsr rfl (by simp[Value.oneCell']) ?_))
     have q0:=Rr.cell 0 _ rfl;have q1:=Rr.cell 1 _ rfl;have q2:=Rr.cell 2 _ rfl;have q3:=Rr.cell 3 _ rfl;have q4:=Rr.cell 4 _ rfl;have q5:=Rr.cell 5 _ rfl;have q6:=Rr.cell 6 _ rfl;have q7:=Rr.cell 7 _ rfl;have q8:=Rr.cell 8 _ rfl;exact bodyPost_ret (v:=.agg #[.int .i64 10,.int .i64 0,.bool false,.bool false,.int .i64 0,.bool false,.slice none 0 0,.slice none 0 0,.slice none 0 0]) (by simp[results,Tryz.results93,go_sem,q0,q1,q2,q3,q4,q5,q6,q7,q8]) rfl ⟨z1b,by rw[E1.out.1];rfl,E1.out.2.symm,z0p _,z0x,fun k hk=>by rw[z0t]at hk;simp at hk,hBr⟩
    case neg=>
     have E1:Hid (D=0∧E=⟨pe.has,pe.batch,z2C pe.rounds 0 n value,pe.dec⟩):=F1.out.2 (by rw[HH.out];exact hbad);clear F1;by_cases hv1:value=1
     ·have hh:has=true:=by cases has with|true=>rfl|false=>exact absurd ⟨hv1,rfl⟩ hbad
      subst hh;have hv1':(value==1)=true:=by rw[hv1];rfl
      clear hbad hv1;go_enter Tryz.func93,Tryz.ntmps93;have hPW2:=hP.below hB;obtain⟨d0,d1,d2,d3⟩:=hPW2.box;dsimp only at d0 d1 d2 d3
      go_wp2_with (first|(go_at_call 110;refine(z0Z _ _).mono ?_;rintro e w' ⟨rfl,rfl⟩)|(go_at_call 48;refine(z0z _ _ _ _).mono ?_;rintro e w' ⟨rfl,rfl⟩))
      clear c0 c1 c2 c3 d0 d1 d2 d3 kx k0;refine(hco _ (hrb _ hB)).mono ?_;rintro e w3 ⟨q,rfl,eq,oq,nq,gq,hb3⟩;have hW:=Rb.lt;replace Rb:=Rb.below hb3;replace hB:=hB.trans (hb3.mono hB.size);obtain⟨hrq,hpq,_⟩:=hLE q eq 0 hr;have HQE:=HPE.out q eq 0 n value hrq;have M:=instK.own_lt oq;obtain⟨qh,qb,qbs,qr,qrs,qd,qds⟩:=q;obtain⟨s1,t1,rfl⟩:∃a c,qb=.slice a qbs.length c:=oq.1.shape;obtain⟨s2,t2,rfl⟩:∃a c,qr=.slice a qrs.length c:=oq.2.1.shape;obtain⟨s3,t3,rfl⟩:∃a c,qd=.slice a qds.length c:=oq.2.2.shape;obtain⟨gr,rfl⟩:=oq.2.1.blkOf (by exact Nat.lt_of_le_of_lt (Nat.zero_le _) hrq);replace hrq:0<qrs.length:=hrq;have hrq3:(0:Int)<qrs.length:=by omega
      obtain⟨g5,cap5,hv5,hg5,kc,kf,own5,foot5⟩:=z2x oq nq 0 n hrq (by show n<(qrs[0]).rep.length;have:(qrs[0]).rep.length=3:=hpq;omega) value;have hpl:(qrs[0]).rep.length=3:=hpq;rw[show(InstQ.rounds (⟨qh,.slice s1 qbs.length t1,qbs,.slice (some ⟨gr,0,none⟩) qrs.length t2,qrs,.slice s3 qds.length t3,qds⟩:InstQ))[0]=qrs[0]from rfl,hpl]at hv5;have hcr:=oq.2.1.cell 0 hrq 0 (.slice (some ⟨g5,0,none⟩) 3 cap5) (by show([(qrs[0]).vr,(qrs[0]).vp]:List Value)[0]?=_;rw[←hv5];rfl);have hcr2:w3.cell? ⟨gr,0,none⟩=some (.slice (some ⟨g5,0,none⟩) 3 cap5):=hcr.1;have hg5l:w.heap.size+1≤g5∧g5<w3.heap.size:=⟨by have:=gq g5 hg5;omega,M g5 hg5⟩
      have hbA:Below (w3.setCell ⟨g5,n,none⟩ (iv value)).heap.size (w3.setCell ⟨g5,n,none⟩ (iv value)) ((w3.setCell ⟨g5,n,none⟩ (iv value)).alloc (.cells #[.bool qh,.slice s1 qbs.length t1,.slice (some ⟨gr,0,none⟩) qrs.length t2,.slice s3 qds.length t3] 49)):=by go_grown
      have R3:=(Rb.other (b':=g5) (by omega) n (iv value)).below hbA;have hBg:Below w.heap.size w ((w3.setCell ⟨g5,n,none⟩ (iv value)).alloc (.cells #[.bool qh,.slice s1 qbs.length t1,.slice (some ⟨gr,0,none⟩) qrs.length t2,.slice s3 qds.length t3] 49)):=by
       have h1:Below w.heap.size w (w3.setCell ⟨g5,n,none⟩ (iv value)):=hB.setCell (p:=⟨g5,n,none⟩) (by show w.heap.size≤g5;omega) _;exact h1.trans (hbA.mono h1.size)
      replace own5:=instK.own_out (F:=[]) own5 (Out.of_below hbA) (fun _ _=>by simp);have L5:∀k∈instK.foot (InstQ.setR (⟨qh,.slice s1 qbs.length t1,qbs,.slice (some ⟨gr,0,none⟩) qrs.length t2,qrs,.slice s3 qds.length t3,qds⟩:InstQ) 0 n value hrq),w.heap.size<k:=fun k hk=>by rw[foot5]at hk;have:=gq k hk;omega
      have N5:(instK.foot (InstQ.setR (⟨qh,.slice s1 qbs.length t1,qbs,.slice (some ⟨gr,0,none⟩) qrs.length t2,qrs,.slice s3 qds.length t3,qds⟩:InstQ) 0 n value hrq)).Nodup:=by rw[foot5];exact nq
      have hous:∀cs,instK.own (((w3.setCell ⟨g5,n,none⟩ (iv value)).alloc (.cells #[.bool qh,.slice s1 qbs.length t1,.slice (some ⟨gr,0,none⟩) qrs.length t2,.slice s3 qds.length t3] 49)).setRow w.heap.size cs) (InstQ.setR (⟨qh,.slice s1 qbs.length t1,qbs,.slice (some ⟨gr,0,none⟩) qrs.length t2,qrs,.slice s3 qds.length t3,qds⟩:InstQ) 0 n value hrq):=fun cs=>instK.own_out own5 (z0d _ w.heap.size cs) (fun k hk=>by have:=L5 k hk;simp only[List.mem_singleton];omega)
      have HQ:Hid ((InstQ.setR (⟨qh,.slice s1 qbs.length t1,qbs,.slice (some ⟨gr,0,none⟩) qrs.length t2,qrs,.slice s3 qds.length t3,qds⟩:InstQ) 0 n value hrq).e=E∧(instK.foot (InstQ.setR (⟨qh,.slice s1 qbs.length t1,qbs,.slice (some ⟨gr,0,none⟩) qrs.length t2,qrs,.slice s3 qds.length t3,qds⟩:InstQ) 0 n value hrq)).Nodup∧(∀k∈instK.foot (InstQ.setR (⟨qh,.slice s1 qbs.length t1,qbs,.slice (some ⟨gr,0,none⟩) qrs.length t2,qrs,.slice s3 qds.length t3,qds⟩:InstQ) 0 n value hrq),w.heap.size≤k)∧∀cs,instK.own (((w3.setCell ⟨g5,n,none⟩ (iv value)).alloc (.cells #[.bool qh,.slice s1 qbs.length t1,.slice (some ⟨gr,0,none⟩) qrs.length t2,.slice s3 qds.length t3] 49)).setRow w.heap.size cs) (InstQ.setR (⟨qh,.slice s1 qbs.length t1,qbs,.slice (some ⟨gr,0,none⟩) qrs.length t2,qrs,.slice s3 qds.length t3,qds⟩:InstQ) 0 n value hrq)):=⟨by rw[E1.out.2];exact HQE,N5,fun k hk=>by have:=L5 k hk;omega,hous⟩
      have HD0:Hid (D=0):=E1.out.1;obtain⟨old,kc2⟩:∃z,w3.cell? ⟨g5,n,none⟩=some (iv z):=⟨_,kc⟩
      have hAl:Below w3.heap.size w3 (w3.alloc (.cells #[.bool qh,.slice s1 qbs.length t1,.slice (some ⟨gr,0,none⟩) qrs.length t2,.slice s3 qds.length t3] 49)):=by go_grown
      have hcr3:=z04 hcr2 hAl;have hgrl:gr<w3.heap.size:=World.block_lt_of_cell? w3 ⟨gr,0,none⟩ hcr2;clear kc hAl;clear Rb hB own5 foot5 L5 N5 hous HQE E1 oq nq gq eq hb3 hco M hcr hbA;have Rr:=R3.row #[.int .i64 0,.int .i64 0,.bool false,.bool false,.int .i64 0,.bool qh,.slice s1 qbs.length t1,.slice (some ⟨gr,0,none⟩) qrs.length t2,.slice s3 qds.length t3];have hBr:=z0a hBg (g:=w.heap.size) (Nat.le_refl _) #[.int .i64 0,.int .i64 0,.bool false,.bool false,.int .i64 0,.bool qh,.slice s1 qbs.length t1,.slice (some ⟨gr,0,none⟩) qrs.length t2,.slice s3 qds.length t3];have hsr:(Tryz.prog.info? 60).map (·.size)=some (#[.int .i64 0,.int .i64 0,.bool false,.bool false,.int .i64 0,.bool qh,.slice s1 qbs.length t1,.slice (some ⟨gr,0,none⟩) qrs.length t2,.slice s3 qds.length t3]:Array Value).size:=z0s
      go_wp2_with (first|(refine z0b (by kernel_rfl) 60 _ _ rfl _ #[.int .i64 0,.int .i64 0,.bool false,.bool false,.int .i64 0,.bool qh,.slice s1 qbs.length t1,.slice (some ⟨gr,0,none⟩) qrs.length t2,.slice s3 qds.length t3] rfl rfl 60 _ R3 hsr rfl (by simp[Value.oneCell']) ?_))
      have q0:=Rr.cell 0 _ rfl;have q1:=Rr.cell 1 _ rfl;have q2:=Rr.cell 2 _ rfl;have q3:=Rr.cell 3 _ rfl;have q4:=Rr.cell 4 _ rfl;have q5:=Rr.cell 5 _ rfl;have q6:=Rr.cell 6 _ rfl;have q7:=Rr.cell 7 _ rfl;have q8:=Rr.cell 8 _ rfl;exact bodyPost_ret (v:=.agg #[.int .i64 0,.int .i64 0,.bool false,.bool false,.int .i64 0,.bool qh,.slice s1 qbs.length t1,.slice (some ⟨gr,0,none⟩) qrs.length t2,.slice s3 qds.length t3]) (by simp[results,Tryz.results93,go_sem,q0,q1,q2,q3,q4,q5,q6,q7,q8]) rfl ⟨InstQ.setR (⟨qh,.slice s1 qbs.length t1,qbs,.slice (some ⟨gr,0,none⟩) qrs.length t2,qrs,.slice s3 qds.length t3,qds⟩:InstQ) 0 n value hrq,by rw[HD0.out];rfl,HQ.out.1,HQ.out.2.2.2 _,HQ.out.2.1,HQ.out.2.2.1,hBr⟩
     ·have hv1':(value==1)=false:=by simpa using hv1
      clear hbad hv1;go_enter Tryz.func93,Tryz.ntmps93;have hPW2:=hP.below hB;obtain⟨d0,d1,d2,d3⟩:=hPW2.box;dsimp only at d0 d1 d2 d3
      go_wp2_with (first|(go_at_call 110;refine(z0Z _ _).mono ?_;rintro e w' ⟨rfl,rfl⟩)|(go_at_call 48;refine(z0z _ _ _ _).mono ?_;rintro e w' ⟨rfl,rfl⟩))
      clear c0 c1 c2 c3 d0 d1 d2 d3 kx k0;refine(hco _ (hrb _ hB)).mono ?_;rintro e w3 ⟨q,rfl,eq,oq,nq,gq,hb3⟩;have hW:=Rb.lt;replace Rb:=Rb.below hb3;replace hB:=hB.trans (hb3.mono hB.size);obtain⟨hrq,hpq,_⟩:=hLE q eq 0 hr;have HQE:=HPE.out q eq 0 n value hrq;have M:=instK.own_lt oq;obtain⟨qh,qb,qbs,qr,qrs,qd,qds⟩:=q;obtain⟨s1,t1,rfl⟩:∃a c,qb=.slice a qbs.length c:=oq.1.shape;obtain⟨s2,t2,rfl⟩:∃a c,qr=.slice a qrs.length c:=oq.2.1.shape;obtain⟨s3,t3,rfl⟩:∃a c,qd=.slice a qds.length c:=oq.2.2.shape;obtain⟨gr,rfl⟩:=oq.2.1.blkOf (by exact Nat.lt_of_le_of_lt (Nat.zero_le _) hrq);replace hrq:0<qrs.length:=hrq;have hrq3:(0:Int)<qrs.length:=by omega
      obtain⟨g5,cap5,hv5,hg5,kc,kf,own5,foot5⟩:=z2x oq nq 0 n hrq (by show n<(qrs[0]).rep.length;have:(qrs[0]).rep.length=3:=hpq;omega) value;have hpl:(qrs[0]).rep.length=3:=hpq;rw[show(InstQ.rounds (⟨qh,.slice s1 qbs.length t1,qbs,.slice (some ⟨gr,0,none⟩) qrs.length t2,qrs,.slice s3 qds.length t3,qds⟩:InstQ))[0]=qrs[0]from rfl,hpl]at hv5;have hcr:=oq.2.1.cell 0 hrq 0 (.slice (some ⟨g5,0,none⟩) 3 cap5) (by show([(qrs[0]).vr,(qrs[0]).vp]:List Value)[0]?=_;rw[←hv5];rfl);have hcr2:w3.cell? ⟨gr,0,none⟩=some (.slice (some ⟨g5,0,none⟩) 3 cap5):=hcr.1;have hg5l:w.heap.size+1≤g5∧g5<w3.heap.size:=⟨by have:=gq g5 hg5;omega,M g5 hg5⟩
      have hbA:Below (w3.setCell ⟨g5,n,none⟩ (iv value)).heap.size (w3.setCell ⟨g5,n,none⟩ (iv value)) ((w3.setCell ⟨g5,n,none⟩ (iv value)).alloc (.cells #[.bool qh,.slice s1 qbs.length t1,.slice (some ⟨gr,0,none⟩) qrs.length t2,.slice s3 qds.length t3] 49)):=by go_grown
      have R3:=(Rb.other (b':=g5) (by omega) n (iv value)).below hbA;have hBg:Below w.heap.size w ((w3.setCell ⟨g5,n,none⟩ (iv value)).alloc (.cells #[.bool qh,.slice s1 qbs.length t1,.slice (some ⟨gr,0,none⟩) qrs.length t2,.slice s3 qds.length t3] 49)):=by
       have h1:Below w.heap.size w (w3.setCell ⟨g5,n,none⟩ (iv value)):=hB.setCell (p:=⟨g5,n,none⟩) (by show w.heap.size≤g5;omega) _;exact h1.trans (hbA.mono h1.size)
      replace own5:=instK.own_out (F:=[]) own5 (Out.of_below hbA) (fun _ _=>by simp);have L5:∀k∈instK.foot (InstQ.setR (⟨qh,.slice s1 qbs.length t1,qbs,.slice (some ⟨gr,0,none⟩) qrs.length t2,qrs,.slice s3 qds.length t3,qds⟩:InstQ) 0 n value hrq),w.heap.size<k:=fun k hk=>by rw[foot5]at hk;have:=gq k hk;omega
      have N5:(instK.foot (InstQ.setR (⟨qh,.slice s1 qbs.length t1,qbs,.slice (some ⟨gr,0,none⟩) qrs.length t2,qrs,.slice s3 qds.length t3,qds⟩:InstQ) 0 n value hrq)).Nodup:=by rw[foot5];exact nq
      have hous:∀cs,instK.own (((w3.setCell ⟨g5,n,none⟩ (iv value)).alloc (.cells #[.bool qh,.slice s1 qbs.length t1,.slice (some ⟨gr,0,none⟩) qrs.length t2,.slice s3 qds.length t3] 49)).setRow w.heap.size cs) (InstQ.setR (⟨qh,.slice s1 qbs.length t1,qbs,.slice (some ⟨gr,0,none⟩) qrs.length t2,qrs,.slice s3 qds.length t3,qds⟩:InstQ) 0 n value hrq):=fun cs=>instK.own_out own5 (z0d _ w.heap.size cs) (fun k hk=>by have:=L5 k hk;simp only[List.mem_singleton];omega)
      have HQ:Hid ((InstQ.setR (⟨qh,.slice s1 qbs.length t1,qbs,.slice (some ⟨gr,0,none⟩) qrs.length t2,qrs,.slice s3 qds.length t3,qds⟩:InstQ) 0 n value hrq).e=E∧(instK.foot (InstQ.setR (⟨qh,.slice s1 qbs.length t1,qbs,.slice (some ⟨gr,0,none⟩) qrs.length t2,qrs,.slice s3 qds.length t3,qds⟩:InstQ) 0 n value hrq)).Nodup∧(∀k∈instK.foot (InstQ.setR (⟨qh,.slice s1 qbs.length t1,qbs,.slice (some ⟨gr,0,none⟩) qrs.length t2,qrs,.slice s3 qds.length t3,qds⟩:InstQ) 0 n value hrq),w.heap.size≤k)∧∀cs,instK.own (((w3.setCell ⟨g5,n,none⟩ (iv value)).alloc (.cells #[.bool qh,.slice s1 qbs.length t1,.slice (some ⟨gr,0,none⟩) qrs.length t2,.slice s3 qds.length t3] 49)).setRow w.heap.size cs) (InstQ.setR (⟨qh,.slice s1 qbs.length t1,qbs,.slice (some ⟨gr,0,none⟩) qrs.length t2,qrs,.slice s3 qds.length t3,qds⟩:InstQ) 0 n value hrq)):=⟨by rw[E1.out.2];exact HQE,N5,fun k hk=>by have:=L5 k hk;omega,hous⟩
      have HD0:Hid (D=0):=E1.out.1;obtain⟨old,kc2⟩:∃z,w3.cell? ⟨g5,n,none⟩=some (iv z):=⟨_,kc⟩
      have hAl:Below w3.heap.size w3 (w3.alloc (.cells #[.bool qh,.slice s1 qbs.length t1,.slice (some ⟨gr,0,none⟩) qrs.length t2,.slice s3 qds.length t3] 49)):=by go_grown
      have hcr3:=z04 hcr2 hAl;have hgrl:gr<w3.heap.size:=World.block_lt_of_cell? w3 ⟨gr,0,none⟩ hcr2;clear kc hAl;clear Rb hB own5 foot5 L5 N5 hous HQE E1 oq nq gq eq hb3 hco M hcr hbA;have Rr:=R3.row #[.int .i64 0,.int .i64 0,.bool false,.bool false,.int .i64 0,.bool qh,.slice s1 qbs.length t1,.slice (some ⟨gr,0,none⟩) qrs.length t2,.slice s3 qds.length t3];have hBr:=z0a hBg (g:=w.heap.size) (Nat.le_refl _) #[.int .i64 0,.int .i64 0,.bool false,.bool false,.int .i64 0,.bool qh,.slice s1 qbs.length t1,.slice (some ⟨gr,0,none⟩) qrs.length t2,.slice s3 qds.length t3];have hsr:(Tryz.prog.info? 60).map (·.size)=some (#[.int .i64 0,.int .i64 0,.bool false,.bool false,.int .i64 0,.bool qh,.slice s1 qbs.length t1,.slice (some ⟨gr,0,none⟩) qrs.length t2,.slice s3 qds.length t3]:Array Value).size:=z0s
      go_wp2_with (first|(refine z0b (by kernel_rfl) 60 _ _ rfl _ #[.int .i64 0,.int .i64 0,.bool false,.bool false,.int .i64 0,.bool qh,.slice s1 qbs.length t1,.slice (some ⟨gr,0,none⟩) qrs.length t2,.slice s3 qds.length t3] rfl rfl 60 _ R3 hsr rfl (by simp[Value.oneCell']) ?_))
      have q0:=Rr.cell 0 _ rfl;have q1:=Rr.cell 1 _ rfl;have q2:=Rr.cell 2 _ rfl;have q3:=Rr.cell 3 _ rfl;have q4:=Rr.cell 4 _ rfl;have q5:=Rr.cell 5 _ rfl;have q6:=Rr.cell 6 _ rfl;have q7:=Rr.cell 7 _ rfl;have q8:=Rr.cell 8 _ rfl;exact bodyPost_ret (v:=.agg #[.int .i64 0,.int .i64 0,.bool false,.bool false,.int .i64 0,.bool qh,.slice s1 qbs.length t1,.slice (some ⟨gr,0,none⟩) qrs.length t2,.slice s3 qds.length t3]) (by simp[results,Tryz.results93,go_sem,q0,q1,q2,q3,q4,q5,q6,q7,q8]) rfl ⟨InstQ.setR (⟨qh,.slice s1 qbs.length t1,qbs,.slice (some ⟨gr,0,none⟩) qrs.length t2,qrs,.slice s3 qds.length t3,qds⟩:InstQ) 0 n value hrq,by rw[HD0.out];rfl,HQ.out.1,HQ.out.2.2.2 _,HQ.out.2.1,HQ.out.2.2.1,hBr⟩
theorem z1y(w:World):
  Calls Tryz.prog 111 #[] w fun e w'=>∃a c,e=.returned (.slice a 3 c)∧intK.Own w' (.slice a 3 c) [3,3,3]∧(∀k∈intK.fp (.slice a 3 c) [3,3,3],w.heap.size≤k)∧Below w.heap.size w w':=by
 have hB:Below w.heap.size w (w.alloc (.cells #[.int .i64 3,.int .i64 3,.int .i64 3] 2)):=by go_grown
 have ho:=World.ownsRow_lit (e:=2) (size:=1) w #[.int .i64 3,.int .i64 3,.int .i64 3] 3 (Nat.le_refl _) (by decide) rfl;obtain⟨O,G⟩:=z3q (zs:=[3,3,3]) (n:=3) rfl ho;have HO:Hid (_∧_):=And.intro O G;clear ho O G;go_enter Tryz.func111,Tryz.ntmps111
 go_wp2
 go_ret;exact⟨_,_,rfl,HO.out.1,HO.out.2,hB⟩
def rpC(rs:List RoundE)(nx n:Nat):Int:=if nx<4∧nx<rs.length∧repA rs nx n≠3 then 6 else 0
def rpI(rs:List RoundE)(nx n:Nat)(v:Int):List RoundE:=if nx<4∧¬(nx<rs.length∧repA rs nx n≠3)then z2C (z3R rs nx) nx n v else rs
theorem z9v(ks:List RoundQ)(r n:Nat)(hr:r<ks.length)(hn:n<(ks[r]).rep.length):repA (ks.map RoundQ.e) r n=(ks[r]).rep[n]:=by
 unfold repA;rw[z0O ks r hr];show(ks[r]).rep.getD n 0=_;simp[List.getD,hn]
theorem z00(g:Nat)(q:InstQ)(n nx:Nat)(v:Int)(w:World)(hG:Blk w g 49 #[.bool q.has,q.vb,q.vr,q.vd])(oq:instK.own w q)(nq:(instK.foot q).Nodup)(hg:g∉instK.foot q)(hwel:Wel q.e.rounds)(h4:q.rounds.length≤4)(h0:0<q.rounds.length)(hnx:nx≤q.rounds.length)(hn:n<3):
  Calls Tryz.prog 134 #[.pointer (some ⟨g,0,none⟩),.int .i64 (n:Int),.int .i64 (nx:Int),.int .i64 v] w fun e w'=>∃q':InstQ,e=.returned (.int .i64 (rpC q.e.rounds nx n))∧q'.e=⟨q.e.has,q.e.batch,rpI q.e.rounds nx n v,q.e.dec⟩∧Blk w' g 49 #[.bool q'.has,q'.vb,q'.vr,q'.vd]∧instK.own w' q'∧(instK.foot q').Nodup∧(∀k∈instK.foot q',k∈instK.foot q∨w.heap.size≤k)∧Out (g::instK.foot q) w w':=by
 have hrl:q.e.rounds.length=q.rounds.length:=List.length_map _;have hgl:=hG.lt;by_cases hx4:nx<4
 case neg=>
  have e1:rpC q.e.rounds nx n=0:=if_neg (fun h=>hx4 h.1);have e2:rpI q.e.rounds nx n v=q.e.rounds:=if_neg (fun h=>hx4 h.1);rw[e1,e2];have hx4':(4:Int)≤nx:=by omega
  go_enter Tryz.func134,Tryz.ntmps134
  go_wp2
  go_ret;exact⟨q,rfl,rfl,hG,oq,nq,fun k hk=>Or.inl hk,Out.refl _ _⟩
 case pos=>
  have hx4':(nx:Int)<4:=by omega
  by_cases hlt:nx<q.rounds.length
  case pos=>
   obtain⟨hl1,_⟩:=z1c hwel nx (by omega);have hat:q.e.rounds.getD nx rnd0=RoundQ.e q.rounds[nx]:=z0O q.rounds nx hlt;rw[hat]at hl1;replace hl1:(q.rounds[nx]).rep.length=3:=hl1;have hre:repA q.e.rounds nx n=(q.rounds[nx]).rep[n]:=z9v q.rounds nx n hlt (by omega);obtain⟨g5,cap5,hv5,hg5,kc,kf,own5,foot5⟩:=z2x oq nq nx n hlt (by omega) v;rw[hl1]at hv5;rw[←hre]at kc;have hne:g≠g5:=fun e=>hg (e▸hg5)
   have hG5:=hG.other (b':=g5) hne n (iv v);have hU5:Out (g::instK.foot q) w (w.setCell ⟨g5,n,none⟩ (iv v)):=(Out.refl _ w).set (List.mem_cons_of_mem _ hg5);have he5:=z6u q nx n v hlt;have HC:Hid ((repA q.e.rounds nx n≠3→rpC q.e.rounds nx n=6∧rpI q.e.rounds nx n v=q.e.rounds)∧(repA q.e.rounds nx n=3→rpC q.e.rounds nx n=0∧rpI q.e.rounds nx n v=z2C q.e.rounds nx n v)):=by
    refine⟨fun h3=>⟨if_pos ⟨hx4,by omega,h3⟩,if_neg (fun h=>h.2 ⟨by omega,h3⟩)⟩,fun h3=>⟨if_neg (fun h=>h.2.2 h3),?_⟩⟩;unfold rpI;rw[if_pos ⟨hx4,fun h=>h.2 h3⟩];unfold z3R;rw[if_neg (by omega)]
   have HR:Hid (∀w',w'=w.setCell ⟨g5,n,none⟩ (iv v)→Blk w' g 49 #[.bool q.has,q.vb,q.vr,q.vd]∧instK.own w' (q.setR nx n v hlt)∧Out (g::instK.foot q) w w'):=fun w' hw'=>by subst hw';exact⟨hG5,own5,hU5⟩
   have HQ:Hid (instK.own w q∧(q.setR nx n v hlt).e=⟨q.e.has,q.e.batch,z2C q.e.rounds nx n v,q.e.dec⟩∧(instK.foot (q.setR nx n v hlt)).Nodup∧∀k∈instK.foot (q.setR nx n v hlt),k∈instK.foot q):=⟨oq,he5,by rw[foot5];exact nq,fun k hk=>by rw[foot5]at hk;exact hk⟩
   obtain⟨va,vk,hvr⟩:∃a c,q.vr=.slice a q.rounds.length c:=oq.2.1.shape;have oR:=oq.2.1;rw[hvr]at oR;obtain⟨gr,rfl⟩:=oR.blkOf h0;have hcr:=(oR.cell nx hlt 0 (.slice (some ⟨g5,0,none⟩) 3 cap5) (by show([(q.rounds[nx]).vr,(q.rounds[nx]).vp]:List Value)[0]?=_;rw[←hv5];rfl)).1;have hcr2:w.cell? ⟨gr,nx*2,none⟩=some (.slice (some ⟨g5,0,none⟩) 3 cap5):=hcr;have z2:w.cell? ⟨g,2,none⟩=some (.slice (some ⟨gr,0,none⟩) q.rounds.length vk):=by rw[←hvr];exact hG.cell 2 _ rfl
   have hnri:(nx:Int)<q.rounds.length:=by omega
   have hneq:((nx:Int)==(q.rounds.length:Int))=false:=by simp;omega
   have hn3:(n:Int)<3:=by omega
   clear hcr oR hvr foot5 own5 hU5 hG5 he5 hre hv5 hat;generalize repA q.e.rounds nx n=RE at*;by_cases hr3:RE=3
   case neg=>
    have hr3':(RE !=3)=true:=by simpa using hr3
    obtain⟨e1,e2⟩:=HC.out.1 hr3;rw[e1,e2];clear HC e1 e2 hr3;go_enter Tryz.func134,Tryz.ntmps134
    go_wp2
    go_ret;exact⟨q,rfl,rfl,hG,HQ.out.1,nq,fun k hk=>Or.inl hk,Out.refl _ _⟩
   case pos=>
    have hr3':(RE !=3)=false:=by rw[hr3];rfl
    obtain⟨e1,e2⟩:=HC.out.2 hr3;rw[e1,e2];clear HC e1 e2 hr3;go_enter Tryz.func134,Tryz.ntmps134
    go_wp2
    go_ret;obtain⟨k1,k2,k3⟩:=HR.out _ rfl;exact⟨q.setR nx n v hlt,rfl,HQ.out.2.1,k1,k2,HQ.out.2.2.1,fun k hk=>Or.inl (HQ.out.2.2.2 k hk),k3⟩
  case neg=>
   have hnl:nx=q.rounds.length:=by omega
   have e1:rpC q.e.rounds nx n=0:=if_neg (fun h=>by omega);have e2:rpI q.e.rounds nx n v=z2C (z3R q.e.rounds nx) nx n v:=if_pos ⟨hx4,fun h=>by omega⟩;have e3:z3R q.e.rounds nx=q.e.rounds++[z1B]:=if_pos (by omega);rw[e1,e2,e3];have HPE:Hid (∀ (ks:List RoundQ) (vr:Value) (hk:nx<ks.length),ks.map RoundQ.e=q.e.rounds++[z1B]→(InstQ.setR ⟨q.has,q.vb,q.batch,vr,ks,q.vd,q.dec⟩ nx n v hk).e=⟨q.e.has,q.e.batch,z2C (q.e.rounds++[z1B]) nx n v,q.e.dec⟩):=fun ks vr hk he=>by
    rw[z6u];show InstE.mk q.has (q.batch.map TxnQ.e) (z2C (ks.map RoundQ.e) nx n v) q.dec=_;rw[he];rfl
   have HQE:Hid (q.rounds.map RoundQ.e=q.e.rounds):=(rfl:_=_)
   have hneq:((nx:Int)==(q.rounds.length:Int))=true:=by rw[hnl];simp
   clear e1 e2 e3 hx4 hlt;obtain⟨i0,hi,hz0,hz1,hz2⟩:=info_parts z2t;generalize q.e=pe at*;obtain⟨has,vb,batch,vr,qs,vd,dec⟩:=q;obtain⟨ba,bk,rfl⟩:∃a c,vb=.slice a batch.length c:=oq.1.shape;obtain⟨sa,sc,rfl⟩:∃a c,vr=.slice a qs.length c:=oq.2.1.shape;obtain⟨da,dk,rfl⟩:∃a c,vd=.slice a dec.length c:=oq.2.2.shape;dsimp only at hG HPE HQE hneq h4 h0 hnl hrl;have HNL:Hid (nx=qs.length):=hnl;clear hnl hrl hnx;obtain⟨hn1,hn23,hd1⟩:=List.nodup_append.1 nq;obtain⟨hn2,hn3',hd2⟩:=List.nodup_append.1 hn23;obtain⟨o1,hO,o3⟩:=oq;dsimp only at o1 hO o3;have hgT:g∉txnK.fp (.slice ba batch.length bk) batch:=fun h=>hg (List.mem_append_left _ h)
   have hgR:g∉roundK.fp (.slice sa qs.length sc) qs:=fun h=>hg (List.mem_append_right _ (List.mem_append_left _ h))
   have hgD:g∉intK.fp (.slice da dec.length dk) dec:=fun h=>hg (List.mem_append_right _ (List.mem_append_right _ h))
   have hFg:g∉blk (.slice sa qs.length sc):=fun hx=>hgR (by simp only[Kind.fp,List.mem_append];exact Or.inl hx)
   have HF:Hid (∀x∈roundK.fp (.slice sa qs.length sc) qs,x<w.heap.size):=hO.lt;have z2:w.cell? ⟨g,2,none⟩=some (.slice sa qs.length sc):=hG.cell 2 _ rfl;have m0:=z0m (F:=blk (.slice sa qs.length sc)) z2 hFg;have hnn:Nonempty (LatO (blk (.slice sa qs.length sc)) w):=⟨⟨w,Out.refl _ _⟩⟩
   have hW:Below w.heap.size w w.drew:=(Below.refl _ _).drew;have hnw:∀w',Below w.heap.size w w'→∃u:LatO (blk (.slice sa qs.length sc)) w,w'=u.val:=fun w' hw'=>⟨⟨w',Out.of_below hw'⟩,rfl⟩
   have hn3:(n:Int)<3:=by omega
   go_enter Tryz.func134,Tryz.ntmps134
   go_wp2_with fail
   clear z2;refine z3O (S:=fun w'=>∃u:LatO (blk (.slice sa qs.length sc)) w,w'=u.val) (R:=fun _ _=>False) 12 (by kernel_rfl) (fun _ _ _ _ h=>h.elim) ?_;refine sgX [(0,5)] 8 (by kernel_rfl) (hnw _ hW) ?_;simp only[pkE];repeat go_big_quiet_step (fail)
   refine wpQuiet_nil ?_;refine clX 5 (some 23) 111 #[] 7 (by kernel_rfl) rfl ?_;refine(z1y _).mono ?_;rintro e w8 ⟨x1,y1,rfl,oa,ga,hb8⟩;have LA:∀x∈intK.fp (.slice x1 3 y1) [3,3,3],w.heap.size≤x:=fun x hx=>by have:=ga x hx;have:=hW.size;omega
   have MA:=oa.lt;replace hW:=hW.trans (hb8.mono hW.size);clear hb8 ga;refine Or.inl ⟨_,rfl,hnw _ hW,?_⟩;simp only[Act.put,pgE,pjE];refine clX 6 (some 24) 111 #[] 6 (by kernel_rfl) rfl ?_;refine(z1y _).mono ?_;rintro e w9 ⟨x2,y2,rfl,ob,gb,hb9⟩;have LB:∀x∈intK.fp (.slice x2 3 y2) [3,3,3],w.heap.size≤x:=fun x hx=>by have:=gb x hx;have:=hW.size;omega
   have hdis:∀x∈intK.fp (.slice x1 3 y1) [3,3,3],∀y∈intK.fp (.slice x2 3 y2) [3,3,3],x≠y:=fun x hx y hy e=>by have:=MA x hx;have:=gb y hy;omega
   replace oa:=oa.below hb9;replace hW:=hW.trans (hb9.mono hW.size);clear hb9 gb MA;refine Or.inl ⟨_,rfl,hnw _ hW,?_⟩;simp only[Act.put,pgE,pjE];refine onX 7 5 rfl (by kernel_rfl) ?_
   go_wp2
   refine ThenX.to ⟨Or.inr (hnw _ hW),?_⟩;refine onX 8 4 rfl (by kernel_rfl) ?_;have hbA:Below w9.heap.size w9 (w9.alloc (.cells #[.slice x1 3 y1,.slice x2 3 y2] 117)):=by go_grown
   replace hW:=hW.trans (hbA.mono hW.size);replace oa:=oa.below hbA;replace ob:=ob.below hbA;have hsrc:∀j u,[Value.slice x1 3 y1,.slice x2 3 y2][j]?=some u→(w9.alloc (.cells #[.slice x1 3 y1,.slice x2 3 y2] 117)).cell? ((⟨w9.heap.size,0,none⟩:Addr).add j)=some u:=by
    intro j u hj;match j,hj with|0,hj=>simp at hj;subst hj;simp[Addr.add]|1,hj=>simp at hj;subst hj;simp[Addr.add]
   go_wp2
   refine ThenX.to ⟨Or.inr (hnw _ hW),?_⟩;generalize w9.alloc (.cells #[.slice x1 3 y1,.slice x2 3 y2] 117)=Z at*;clear hbA;have hO3:=hO.below hW;have hrow0:=hO3.1;have hsZ:=hW.size;refine onX 9 3 rfl (by kernel_rfl) ?_;refine wpList_append_own_at _ rfl _ _ 46 rfl 0 117 i0 (.agg #[.slice none 0 0,.slice none 0 0]) 2 48 Tryz.underlying46 hi hz0 hz1 hz2 rfl (by decide) _ qs.length (roundK.row qs) rfl hrow0 ⟨w9.heap.size,0,none⟩ 1 1 [.slice x1 3 y1,.slice x2 3 y2] rfl rfl hsrc ?c2 ?c3 ?c4 ?c5 ?_
   case c2=>intro u hu;simp at hu;rcases hu with rfl|rfl<;>rfl
   case c3=>unfold maxLen;omega
   case c4=>omega
   case c5=>omega
   intro v' w5 hown hgrow hnil hat;clear hnil hrow0 hsrc;obtain ⟨hO5,hn5,hlo5,hou⟩:=hO3.snoc (p:=(⟨.slice x1 3 y1,[3,3,3],.slice x2 3 y2,[3,3,3]⟩:RoundQ)) (B:=0) hn2 (fun _ _=>Nat.zero_le _) ⟨oa,ob⟩ (List.nodup_append.2 ⟨z0v _ _,z0v _ _,hdis⟩) (fun x hx hx' => by
    have:=HF.out x hx';rcases List.mem_append.1 hx with hx|hx
    ·have:=LA x hx;omega
    ·have:=LB x hx;omega) (fun x hx=>Nat.zero_le _) (Nat.zero_le _) hown hgrow hat
   have hft:∀k∈roundK.fp v' (qs++[(⟨.slice x1 3 y1,[3,3,3],.slice x2 3 y2,[3,3,3]⟩:RoundQ)]),k∈roundK.fp (.slice sa qs.length sc) qs∨w.heap.size≤k:=by
    intro k hk;unfold Kind.fp at hk⊢;rw[List.flatMap_append]at hk;rcases List.mem_append.1 hk with hk|hk
    ·rcases hat with hat|hat
     ·left;apply List.mem_append_left;unfold blk at hk⊢;rw[hat]at hk;exact hk
     ·right;unfold blk at hk;rw[hat]at hk;simp only[Option.toList,List.mem_singleton]at hk;omega
    ·rcases List.mem_append.1 hk with hk|hk
     ·left;exact List.mem_append_right _ hk
     ·right;have hk':k∈roundK.foot (⟨.slice x1 3 y1,[3,3,3],.slice x2 3 y2,[3,3,3]⟩:RoundQ):=by simpa using hk
      rcases List.mem_append.1 hk' with hk'|hk'
      ·exact LA k hk'
      ·exact LB k hk'
   obtain⟨na,nc,rfl⟩:=hO5.shape;have hO9:Out (blk (.slice sa qs.length sc)) w w5:=(Out.of_below hW).trans hou;have Bg5:Blk w5 g 49 #[.bool has,.slice ba batch.length bk,.slice sa qs.length sc,.slice da dec.length dk]:=(hO9.block g hgl hFg).trans hG;have hks:(qs++[(⟨.slice x1 3 y1,[3,3,3],.slice x2 3 y2,[3,3,3]⟩:RoundQ)]).map RoundQ.e=pe.rounds++[z1B]:=by rw[List.map_append,HQE.out];rfl
   have hkl:(qs++[(⟨.slice x1 3 y1,[3,3,3],.slice x2 3 y2,[3,3,3]⟩:RoundQ)]).length=qs.length+1:=by simp
   have hkn:nx<(qs++[(⟨.slice x1 3 y1,[3,3,3],.slice x2 3 y2,[3,3,3]⟩:RoundQ)]).length:=by have:=HNL.out;omega
   have hke:((qs++[(⟨.slice x1 3 y1,[3,3,3],.slice x2 3 y2,[3,3,3]⟩:RoundQ)])[nx]'hkn)=(⟨.slice x1 3 y1,[3,3,3],.slice x2 3 y2,[3,3,3]⟩:RoundQ):=by
    simp only[HNL.out];simp
   have hgN:g∉roundK.fp (.slice na (qs++[(⟨.slice x1 3 y1,[3,3,3],.slice x2 3 y2,[3,3,3]⟩:RoundQ)]).length nc) (qs++[(⟨.slice x1 3 y1,[3,3,3],.slice x2 3 y2,[3,3,3]⟩:RoundQ)]):=fun hx=>by
    rcases hft g hx with hx|hx
    ·exact hgR hx
    ·omega
   have hoB:∀x∈blk (.slice sa qs.length sc),x∈roundK.fp (.slice sa qs.length sc) qs:=fun x hx=>by simp only[Kind.fp,List.mem_append];exact Or.inl hx
   have p1:=o1.out hO9 (fun x hx hx'=>hd1 x hx x (List.mem_append_left _ (hoB x hx')) rfl);have p3:=o3.out hO9 (fun x hx hx'=>hd2 x (hoB x hx') x hx rfl);have T1:=o1.lt;have T3:=o3.lt;have hU9:Out (g::instK.foot (⟨has,.slice ba batch.length bk,batch,.slice sa qs.length sc,qs,.slice da dec.length dk,dec⟩:InstQ)) w w5:=hO9.mono (fun x hx=>List.mem_cons_of_mem _ (List.mem_append_right _ (List.mem_append_left _ (hoB x hx))));generalize hKS:qs++[(⟨.slice x1 3 y1,[3,3,3],.slice x2 3 y2,[3,3,3]⟩:RoundQ)]=ks at*;have hkr:(ks[nx]).rep=[3,3,3]:=by rw[hke]
   clear hKS hkl hke hou oa ob LA LB hdis hown hgrow hat hO3 m0 HF
   go_wp2
   refine ThenX.to ⟨Or.inr ⟨⟨_,hO9⟩,rfl⟩,?_⟩;simp only[Act.put,pgE,pjE];refine onX 10 2 rfl (by kernel_rfl) ?_
   go_wp2
   refine ThenX.to ⟨Or.inr ⟨⟨_,hO9⟩,rfl⟩,?_⟩;refine onX 11 1 rfl (by kernel_rfl) ?_
   go_wp2
   refine ThenX.to ⟨Or.inr ⟨⟨_,hO9⟩,rfl⟩,?_⟩;refine onX 12 0 rfl (by kernel_rfl) ?_;have t3:=Bg5.cell 2 _ rfl;have t4:=Bg5.frozen 2;have Bg6:Blk (w5.setCell ⟨g,2,none⟩ (.slice na ks.length nc)) g 49 #[.bool has,.slice ba batch.length bk,.slice na ks.length nc,.slice da dec.length dk]:=Bg5.set 2 (.slice na ks.length nc);have U6:=Out.setCell w5 g 2 (.slice na ks.length nc);have r1:=p1.out U6 (fun x hx hx'=>by simp only[List.mem_singleton]at hx';subst hx';exact hgT hx);have r2:=hO5.out U6 (fun x hx hx'=>by simp only[List.mem_singleton]at hx';subst hx';exact hgN hx);have r3:=p3.out U6 (fun x hx hx'=>by simp only[List.mem_singleton]at hx';subst hx';exact hgD hx);have hU6:=hU9.set (b:=g) (j:=2) (u:=.slice na ks.length nc) (List.mem_cons_self ..);have ok:instK.own (w5.setCell ⟨g,2,none⟩ (.slice na ks.length nc)) (⟨has,.slice ba batch.length bk,batch,.slice na ks.length nc,ks,.slice da dec.length dk,dec⟩:InstQ):=⟨r1,r2,r3⟩
   have nk:(instK.foot (⟨has,.slice ba batch.length bk,batch,.slice na ks.length nc,ks,.slice da dec.length dk,dec⟩:InstQ)).Nodup:=by
    refine List.nodup_append.2 ⟨hn1,List.nodup_append.2 ⟨hn5,hn3',fun x hx y hy e=>?_⟩,fun x hx y hy e=>?_⟩
    ·subst e;rcases hft x hx with hx|hx
     ·exact hd2 x hx x hy rfl
     ·have:=T3 x hy;omega
    ·subst e;rcases List.mem_append.1 hy with hy|hy
     ·rcases hft x hy with hy|hy
      ·exact hd1 x hx x (List.mem_append_left _ hy) rfl
      ·have:=T1 x hx;omega
     ·exact hd1 x hx x (List.mem_append_right _ hy) rfl
   have hgk:g∉instK.foot (⟨has,.slice ba batch.length bk,batch,.slice na ks.length nc,ks,.slice da dec.length dk,dec⟩:InstQ):=fun hx=>by
    rcases List.mem_append.1 hx with hx|hx
    ·exact hgT hx
    ·rcases List.mem_append.1 hx with hx|hx
     ·exact hgN hx
     ·exact hgD hx
   have hfk:∀x∈instK.foot (⟨has,.slice ba batch.length bk,batch,.slice na ks.length nc,ks,.slice da dec.length dk,dec⟩:InstQ),x∈instK.foot (⟨has,.slice ba batch.length bk,batch,.slice sa qs.length sc,qs,.slice da dec.length dk,dec⟩:InstQ)∨w.heap.size≤x:=fun x hx=>by
    rcases List.mem_append.1 hx with hx|hx
    ·exact Or.inl (List.mem_append_left _ hx)
    ·rcases List.mem_append.1 hx with hx|hx
     ·rcases hft x hx with hx|hx
      ·exact Or.inl (List.mem_append_right _ (List.mem_append_left _ hx))
      ·exact Or.inr hx
     ·exact Or.inl (List.mem_append_right _ (List.mem_append_right _ hx))
   clear Bg5 U6 r1 r3 p1 p3 hO5 hn5 hlo5 hft hU9 hn1 hn23 hn2 hn3' hd1 hd2 hgT hgR hgD hgN T1 T3 hoB hG o1 hO o3 nq
   go_wp2
   refine ThenX.to ⟨Or.inl (by kernel_rfl),?_⟩;refine z9u (by kernel_rfl) ?_;clear t3 t4 hO9 hnn hnw hFg hW;generalize w5.setCell ⟨g,2,none⟩ (.slice na ks.length nc)=w6 at*;obtain⟨gr,rfl⟩:=r2.blkOf (by omega);have hcz:=r2.cell nx hkn 0 ((ks[nx]).vr) rfl;clear r2;have hrl3:(ks[nx]).rep.length=3:=by rw[hkr];rfl
   obtain⟨g5,cap5,hv5,hg5,kc,kf,own5,foot5⟩:=z2x ok nk nx n hkn (by show n<(ks[nx]).rep.length;omega) v;have hv5':(ks[nx]).vr=.slice (some ⟨g5,0,none⟩) 3 cap5:=by rw[←hrl3];exact hv5
   rw[hv5']at hcz;have hcr2:w6.cell? ⟨gr,nx*2,none⟩=some (.slice (some ⟨g5,0,none⟩) 3 cap5):=hcz.1;have kc2:w6.cell? ⟨g5,n,none⟩=some (.int .i64 3):=by
    have e:(ks[nx]).rep[n]'(by omega)=3:=by
     simp only[hkr]
     match n,hn with
     |0,_=>rfl
     |1,_=>rfl
     |2,_=>rfl
    have kc':w6.cell? ⟨g5,n,none⟩=some (iv ((ks[nx]).rep[n]'(by omega))):=kc;rw[e]at kc';exact kc'
   have hne:g≠g5:=fun e=>hgk (e▸hg5)
   have hG7:=Bg6.other (b':=g5) hne n (iv v);have hU7:Out (g::instK.foot (⟨has,.slice ba batch.length bk,batch,.slice sa qs.length sc,qs,.slice da dec.length dk,dec⟩:InstQ)) w (w6.setCell ⟨g5,n,none⟩ (iv v)):=by
    have:=Out.setCell w6 g5 n (iv v);refine⟨this.os.trans hU6.os,this.tape.trans hU6.tape,this.output.trans hU6.output,Nat.le_trans hU6.size this.size,fun x hx hn=>?_⟩;refine(this.block x (Nat.lt_of_lt_of_le hx hU6.size) (fun hx'=>?_)).trans (hU6.block x hx hn);simp only[List.mem_singleton]at hx';subst hx';rcases hfk x hg5 with h|h
    ·exact hn (List.mem_cons_of_mem _ h)
    ·omega
   have he7:=HPE.out ks (.slice (some ⟨gr,0,none⟩) ks.length nc) hkn hks;have z2:w6.cell? ⟨g,2,none⟩=some (.slice (some ⟨gr,0,none⟩) ks.length nc):=Bg6.cell 2 _ rfl;have hnri:(nx:Int)<ks.length:=by omega
   have HZ:Hid (∀w',w'=w6.setCell ⟨g5,n,none⟩ (iv v)→∃q':InstQ,q'.e=⟨pe.has,pe.batch,z2C (pe.rounds++[z1B]) nx n v,pe.dec⟩∧Blk w' g 49 #[.bool q'.has,q'.vb,q'.vr,q'.vd]∧instK.own w' q'∧(instK.foot q').Nodup∧(∀k∈instK.foot q',k∈instK.foot (⟨has,.slice ba batch.length bk,batch,.slice sa qs.length sc,qs,.slice da dec.length dk,dec⟩:InstQ)∨w.heap.size≤k)∧Out (g::instK.foot (⟨has,.slice ba batch.length bk,batch,.slice sa qs.length sc,qs,.slice da dec.length dk,dec⟩:InstQ)) w w'):=fun w' hw'=>by
    subst hw';exact⟨_,he7,hG7,own5,by rw[foot5];exact nk,fun k hk=>hfk k (by rw[foot5]at hk;exact hk),hU7⟩
   clear he7 hG7 own5 hU7 foot5 hfk hU6 ok nk hcz kc HPE hks hv5 hv5' Bg6 hkr hgk
   go_wp2
   go_ret;obtain⟨q',k1,k2,k3,k4,k5,k6⟩:=HZ.out _ rfl;exact⟨q',rfl,k1,k2,k3,k4,k5,k6⟩
end Go.Proofs.YtfpponhjhbfbeaaGreatDoor
