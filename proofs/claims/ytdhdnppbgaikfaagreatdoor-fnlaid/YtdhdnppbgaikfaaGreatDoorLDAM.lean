/- Texts joined, with what the laws reach alone. -/
import Derived.Test.YtdhdnppbgaikfaaGreatDoorLDAL
set_option linter.unusedVariables false
set_option linter.unusedSimpArgs false
namespace Go.Proofs.YtdhdnppbgaikfaaGreatDoor
open Go.RowKit
open Go.BigFrame
set_option maxRecDepth 100000
set_option maxHeartbeats 2000000 in
theorem l6Bad_any (c:Int) (w:World) :
  Calls Tryz.prog 27 #[.int .i64 c] w fun e w' => e=.returned (.agg #[.int .i64 c,.int .i64 0,.bool false,.bool false,.int .i64 0,.bool false,.slice none 0 0,.slice none 0 0,.slice none 0 0])∧Below w.heap.size w w' := by
 have hB:Below w.heap.size w (w.alloc (.cells #[.int .i64 0,.int .i64 0,.bool false,.bool false,.int .i64 0,.bool false,.slice none 0 0,.slice none 0 0,.slice none 0 0] 39)):=by go_grown
 have Rb:=Blk.new w 39 #[.int .i64 0,.int .i64 0,.bool false,.bool false,.int .i64 0,.bool false,.slice none 0 0,.slice none 0 0,.slice none 0 0]
 have Rr:=Rb.row #[.int .i64 c,.int .i64 0,.bool false,.bool false,.int .i64 0,.bool false,.slice none 0 0,.slice none 0 0,.slice none 0 0]
 have hBr:=below_row hB (g:=w.heap.size) (Nat.le_refl _) #[.int .i64 c,.int .i64 0,.bool false,.bool false,.int .i64 0,.bool false,.slice none 0 0,.slice none 0 0,.slice none 0 0]
 have hsr:(Tryz.prog.info? 39).map (·.size)=some (#[.int .i64 c,.int .i64 0,.bool false,.bool false,.int .i64 0,.bool false,.slice none 0 0,.slice none 0 0,.slice none 0 0]:Array Value).size:=sz_res
 go_enter Tryz.func27,Tryz.ntmps27
 go_wp2_with (first | (refine st_row (by kernel_rfl) 39 _ _ rfl _ #[.int .i64 c,.int .i64 0,.bool false,.bool false,.int .i64 0,.bool false,.slice none 0 0,.slice none 0 0,.slice none 0 0] rfl rfl 39 _ Rb hsr rfl (by simp [Value.oneCell']) ?_))
 obtain ⟨q0,q1,q2,q3,q4,q5,q6,q7,q8⟩:=Rr.cel9
 exact bodyPost_ret (v:=.agg #[.int .i64 c,.int .i64 0,.bool false,.bool false,.int .i64 0,.bool false,.slice none 0 0,.slice none 0 0,.slice none 0 0]) (by simp [results,Tryz.results27,go_sem,q0,q1,q2,q3,q4,q5,q6,q7,q8]) rfl ⟨rfl,hBr⟩

theorem ins_low {p:InstQ} (h:insF p.e=0):(∀ t∈p.batch,0 < t.acts.length)∧(∀ r∈p.rounds,0 < r.rep.length∧0 < r.pro.length)∧0 < p.dec.length:=by
 obtain ⟨h1,h2,h3,_,h5⟩:=ins_ok h
 obtain ⟨h6,_⟩:=ins_zero h
 obtain ⟨_,_,_,h7,h8⟩:=shp_zero h6
 refine ⟨?_,fun r hr=>?_,by have:p.dec.length=3:=h3;omega⟩
 ·cases hh:p.has with
  | true=>exact bat_pos (h8 hh)
  | false=>
   have:p.batch.map TxnQ.e=[]:=h7 hh
   intro t ht
   have:p.batch=[]:=List.map_eq_nil_iff.1 this
   rw [this] at ht
   simp at ht
 ·have:=h1 (RoundQ.e r) (List.mem_map.2 ⟨r,hr,rfl⟩)
  have h9:r.rep.length=3∧r.pro.length=3:=this
  omega

set_option maxHeartbeats 4000000 in
theorem l6Set_any (b o:Nat) (p:InstQ) (vn:Value) (bt:List TxnQ) (w:World) (hP:InstP w b o p) (hbw:b < w.heap.size) (hl:p.n≤1048576) (h0:insF p.e=0) (hT:txnK.At w vn bt) (hl' : bt.length + nmL TxnQ.n bt≤1048576) :
  Calls Tryz.prog 47 #[.pointer (some ⟨b,o,none⟩),vn] w fun e w' => ∃ q:InstQ,e=.returned (.agg (resC (sbC p.e (bt.map TxnQ.e)) 0 false false 0 q))∧q.e=sbI p.e (bt.map TxnQ.e)∧instK.own w' q∧(instK.foot q).Nodup∧(∀ k∈instK.foot q,w.heap.size≤k)∧Below w.heap.size w w' := by
 obtain ⟨hne,hro,hd0⟩:=ins_low h0
 have hco:=fun w h=>l6Copy_any p w h hl hne hro hd0
 have hba:=fun w (hT:txnK.At w vn bt)=>l6Batch_any vn (bt.map TxnQ.e) w (txnsAt_of hT) (by rw [List.length_map,sumA_of];omega)
 have hin:=fun (hp:batF (bt.map TxnQ.e)=0) w (hT:txnK.At w vn bt)=>l2CopyAll_any vn bt w hT (bat_pos hp) hl'
 obtain ⟨D,hD⟩:∃ D,sbC p.e (bt.map TxnQ.e)=D:=⟨_,rfl⟩
 obtain ⟨E,hE⟩:∃ E,sbI p.e (bt.map TxnQ.e)=E:=⟨_,rfl⟩
 have HDE:Hid ((p.has=true→D=6∧E=ine0)∧(p.has=false→batF (bt.map TxnQ.e)≠0→D=batF (bt.map TxnQ.e)∧E=ine0)∧(p.has=false→batF (bt.map TxnQ.e)=0→D=0∧E=⟨true,bt.map TxnQ.e,p.e.rounds,p.dec⟩)):=by
  have hph:p.e.has=p.has:=rfl
  refine ⟨fun h1=>?_,fun h1 h2=>?_,fun h1 h2=>?_⟩
  ·have e:D=6:=by rw [← hD];unfold sbC;rw [if_pos h0,hph,h1];rfl
   exact ⟨e,by rw [← hE];exact if_neg (by rw [hD,e];decide)⟩
  ·have e:D=batF (bt.map TxnQ.e):=by rw [← hD];unfold sbC;rw [if_pos h0,hph,h1];rfl
   exact ⟨e,by rw [← hE];exact if_neg (by rw [hD,e];exact h2)⟩
  ·have e:D=0:=by rw [← hD];unfold sbC;rw [if_pos h0,hph,h1];exact h2
   exact ⟨e,by rw [← hE];exact if_pos (by rw [hD,e])⟩
 rw [hD,hE]
 clear hD hE h0 hne hro hd0
 have HPE:Hid (p.e.rounds=p.rounds.map RoundQ.e∧p.e.dec=p.dec):=⟨rfl,rfl⟩
 generalize hds:bt.map TxnQ.e=dsn at *
 generalize hbf:batF dsn=BF at *
 clear hbf
 have hrd:=hP.rd
 have hrb:=fun (w' : World) hb=>instK.rd_below (w' := w') hrd hb
 generalize hpe:p.e=pe at *
 obtain ⟨has,vb,batch,vr,rounds,vd,dec⟩:=p
 obtain ⟨ba,bk,rfl⟩:∃ a c,vb=.slice a batch.length c:=hrd.1.shape
 obtain ⟨va,vk,rfl⟩:∃ a c,vr=.slice a rounds.length c:=hrd.2.1.shape
 obtain ⟨da,dk,rfl⟩:∃ a c,vd=.slice a dec.length c:=hrd.2.2.shape
 obtain ⟨na,nk,rfl⟩:=hT.shape
 dsimp only at hco hrb HDE HPE
 have hB:Below w.heap.size w (w.alloc (.cells #[.int .i64 0,.int .i64 0,.bool false,.bool false,.int .i64 0,.bool false,.slice none 0 0,.slice none 0 0,.slice none 0 0] 39)):=by go_grown
 have Rb:=Blk.new w 39 #[.int .i64 0,.int .i64 0,.bool false,.bool false,.int .i64 0,.bool false,.slice none 0 0,.slice none 0 0,.slice none 0 0]
 have hPW:=hP.below hB
 have c0:=hPW.box.c0
 dsimp only at c0
 cases has with
 | true=>
  have E1:Hid (D=6∧E=ine0):=HDE.out.1 rfl
  clear HDE hba hin hco
  go_enter Tryz.func47,Tryz.ntmps47
  go_wp2_with fail
  clear c0
  generalize w.alloc (.cells #[.int .i64 0,.int .i64 0,.bool false,.bool false,.int .i64 0,.bool false,.slice none 0 0,.slice none 0 0,.slice none 0 0] 39)=W at *
  refine (l6Bad_any 6 _).mono ?_
  rintro e w8 ⟨rfl,hb8⟩
  replace hB:=hB.trans (hb8.mono hB.size)
  replace Rb:=Rb.below hb8
  clear hb8
  have Rr:=Rb.row #[.int .i64 6,.int .i64 0,.bool false,.bool false,.int .i64 0,.bool false,.slice none 0 0,.slice none 0 0,.slice none 0 0]
  have hBr:=below_row hB (g:=w.heap.size) (by omega) #[.int .i64 6,.int .i64 0,.bool false,.bool false,.int .i64 0,.bool false,.slice none 0 0,.slice none 0 0,.slice none 0 0]
  have hsr:(Tryz.prog.info? 39).map (·.size)=some (#[.int .i64 6,.int .i64 0,.bool false,.bool false,.int .i64 0,.bool false,.slice none 0 0,.slice none 0 0,.slice none 0 0]:Array Value).size:=sz_res
  go_wp2_with (first | (refine st_row (by kernel_rfl) 39 _ _ rfl _ #[.int .i64 6,.int .i64 0,.bool false,.bool false,.int .i64 0,.bool false,.slice none 0 0,.slice none 0 0,.slice none 0 0] rfl rfl 39 _ Rb hsr rfl (by simp [Value.oneCell']) ?_))
  obtain ⟨q0,q1,q2,q3,q4,q5,q6,q7,q8⟩:=Rr.cel9
  exact bodyPost_ret (v:=.agg #[.int .i64 6,.int .i64 0,.bool false,.bool false,.int .i64 0,.bool false,.slice none 0 0,.slice none 0 0,.slice none 0 0]) (by simp [results,Tryz.results47,go_sem,q0,q1,q2,q3,q4,q5,q6,q7,q8]) rfl ⟨inst0,by rw [E1.out.1];rfl,E1.out.2.symm,inst0_own _,inst0_nd,fun k hk=>by rw [inst0_ft] at hk;simp at hk,hBr⟩

 | false=>
  have E4:Hid ((BF≠0→D=BF∧E=ine0)∧(BF=0→D=0∧E=⟨true,dsn,pe.rounds,dec⟩)):=⟨HDE.out.2.1 rfl,HDE.out.2.2 rfl⟩
  clear HDE
  go_enter Tryz.func47,Tryz.ntmps47
  go_wp2_with fail
  clear c0
  generalize w.alloc (.cells #[.int .i64 0,.int .i64 0,.bool false,.bool false,.int .i64 0,.bool false,.slice none 0 0,.slice none 0 0,.slice none 0 0] 39)=W at *
  refine (hba W (hT.below hB)).mono ?_
  rintro e w2 ⟨rfl,hb2⟩
  replace Rb:=Rb.below hb2
  replace hPW:=hPW.below hb2
  replace hB:=hB.trans (hb2.mono hB.size)
  clear hb2 hba
  by_cases hbf:BF=0
  case neg=>
   have E1:Hid (D=BF∧E=ine0):=E4.out.1 hbf
   have h0' : (BF != 0)=true:=by simpa using hbf
   clear E4 hbf hin hco
   go_wp2_with fail
   refine (l6Bad_any BF _).mono ?_
   rintro e w8 ⟨rfl,hb8⟩
   replace hB:=hB.trans (hb8.mono hB.size)
   replace Rb:=Rb.below hb8
   clear hb8
   have Rr:=Rb.row #[.int .i64 BF,.int .i64 0,.bool false,.bool false,.int .i64 0,.bool false,.slice none 0 0,.slice none 0 0,.slice none 0 0]
   have hBr:=below_row hB (g:=w.heap.size) (by omega) #[.int .i64 BF,.int .i64 0,.bool false,.bool false,.int .i64 0,.bool false,.slice none 0 0,.slice none 0 0,.slice none 0 0]
   have hsr:(Tryz.prog.info? 39).map (·.size)=some (#[.int .i64 BF,.int .i64 0,.bool false,.bool false,.int .i64 0,.bool false,.slice none 0 0,.slice none 0 0,.slice none 0 0]:Array Value).size:=sz_res
   go_wp2_with (first | (refine st_row (by kernel_rfl) 39 _ _ rfl _ #[.int .i64 BF,.int .i64 0,.bool false,.bool false,.int .i64 0,.bool false,.slice none 0 0,.slice none 0 0,.slice none 0 0] rfl rfl 39 _ Rb hsr rfl (by simp [Value.oneCell']) ?_))
   obtain ⟨q0,q1,q2,q3,q4,q5,q6,q7,q8⟩:=Rr.cel9
   exact bodyPost_ret (v:=.agg #[.int .i64 BF,.int .i64 0,.bool false,.bool false,.int .i64 0,.bool false,.slice none 0 0,.slice none 0 0,.slice none 0 0]) (by simp [results,Tryz.results47,go_sem,q0,q1,q2,q3,q4,q5,q6,q7,q8]) rfl ⟨inst0,by rw [E1.out.1];rfl,E1.out.2.symm,inst0_own _,inst0_nd,fun k hk=>by rw [inst0_ft] at hk;simp at hk,hBr⟩

  case pos=>
   have E1:Hid (D=0∧E=⟨true,dsn,pe.rounds,dec⟩):=E4.out.2 hbf
   subst hbf
   clear E4
   have hw23:w.heap.size + 1≤w2.heap.size:=Rb.lt
   obtain ⟨c0,c1,c2,c3⟩:=hPW.box
   dsimp only at c0 c1 c2 c3
   go_wp2_with fail
   clear c0 c1 c2 c3
   refine (hco w2 (hrb w2 hB)).mono ?_
   rintro e w3 ⟨q,rfl,eq,oq,nq,gq,hb3⟩
   replace Rb:=Rb.below hb3
   replace hB:=hB.trans (hb3.mono hB.size)
   obtain ⟨qh,qb,qbs,qr,qrs,qd,qds⟩:=q
   obtain ⟨s1,t1,rfl⟩:∃ a c,qb=.slice a qbs.length c:=oq.1.shape
   obtain ⟨s2,t2,rfl⟩:∃ a c,qr=.slice a qrs.length c:=oq.2.1.shape
   obtain ⟨s3,t3,rfl⟩:∃ a c,qd=.slice a qds.length c:=oq.2.2.shape
   have hbA:Below w3.heap.size w3 (w3.alloc (.cells #[.bool true,.slice s1 qbs.length t1,.slice s2 qrs.length t2,.slice s3 qds.length t3] 28)):=by go_grown
   have Gz:=Blk.new w3 28 #[.bool true,.slice s1 qbs.length t1,.slice s2 qrs.length t2,.slice s3 qds.length t3]
   have hn23:=(List.nodup_append.1 nq).2.1
   have o2:=oq.2.1
   have o3:=oq.2.2
   have M2:=o2.lt
   have M3:=o3.lt
   have hs23:=hb3.size
   have L2:∀ k∈roundK.fp (.slice s2 qrs.length t2) qrs,w2.heap.size≤k:=fun k hk=>gq k (List.mem_append_right _ (List.mem_append_left _ hk))
   have L3:∀ k∈intK.fp (.slice s3 qds.length t3) qds,w2.heap.size≤k:=fun k hk=>gq k (List.mem_append_right _ (List.mem_append_right _ hk))
   have HQE:Hid (pe.rounds=qrs.map RoundQ.e∧qds=dec):=by
    have e1:pe.dec=dec:=HPE.out.2
    rw [← eq] at e1 ⊢
    exact ⟨rfl,e1⟩
   replace o2:=o2.below hbA
   replace o3:=o3.below hbA
   replace Rb:=Rb.below hbA
   replace hB:=hB.trans (hbA.mono hB.size)
   clear hco gq nq oq eq hb3 HPE
   go_wp2_with fail
   have hgz:=Gz.lt
   generalize w3.alloc (.cells #[.bool true,.slice s1 qbs.length t1,.slice s2 qrs.length t2,.slice s3 qds.length t3] 28)=W3 at *
   refine (hin (by trivial) W3 (hT.below hB)).mono ?_
   rintro e w4 ⟨v4,qt,rfl,e4,o4,n4,g4,hb4⟩
   obtain ⟨s4,t4,rfl⟩:=o4.shape
   replace o2:=o2.below hb4
   replace o3:=o3.below hb4
   replace Rb:=Rb.below hb4
   replace Gz:=Gz.below hb4
   replace hB:=hB.trans (hb4.mono hB.size)
   have hsb:w3.heap.size≤W3.heap.size:=hbA.size
   have R5:=Rb.other (b' := w3.heap.size) (by omega) 1 (.slice s4 qt.length t4)
   have G5:Blk (w4.setCell ⟨w3.heap.size,1,none⟩ (.slice s4 qt.length t4)) w3.heap.size 28 #[.bool true,.slice s4 qt.length t4,.slice s2 qrs.length t2,.slice s3 qds.length t3]:=Gz.set 1 (.slice s4 qt.length t4)
   have hB5:Below w.heap.size w (w4.setCell ⟨w3.heap.size,1,none⟩ (.slice s4 qt.length t4)):=hB.setCell (p:=⟨w3.heap.size,1,none⟩) (by show w.heap.size≤w3.heap.size;omega) _
   have U1:=Out.setCell w4 w3.heap.size 1 (.slice s4 qt.length t4)
   have U2:=out_row (w4.setCell ⟨w3.heap.size,1,none⟩ (.slice s4 qt.length t4)) w.heap.size #[.int .i64 0,.int .i64 0,.bool false,.bool false,.int .i64 0,.bool true,.slice s4 qt.length t4,.slice s2 qrs.length t2,.slice s3 qds.length t3]
   have Rr:=R5.row #[.int .i64 0,.int .i64 0,.bool false,.bool false,.int .i64 0,.bool true,.slice s4 qt.length t4,.slice s2 qrs.length t2,.slice s3 qds.length t3]
   have hBr:=below_row hB5 (g:=w.heap.size) (Nat.le_refl _) #[.int .i64 0,.int .i64 0,.bool false,.bool false,.int .i64 0,.bool true,.slice s4 qt.length t4,.slice s2 qrs.length t2,.slice s3 qds.length t3]
   have hsr:(Tryz.prog.info? 39).map (·.size)=some (#[.int .i64 0,.int .i64 0,.bool false,.bool false,.int .i64 0,.bool true,.slice s4 qt.length t4,.slice s2 qrs.length t2,.slice s3 qds.length t3]:Array Value).size:=sz_res
   have K2:=(o2.out U1 (fun k hk=>by have:=M2 k hk;simp only [List.mem_singleton];omega)).out U2 (fun k hk=>by have:=L2 k hk;simp only [List.mem_singleton];omega)
   have K3:=(o3.out U1 (fun k hk=>by have:=M3 k hk;simp only [List.mem_singleton];omega)).out U2 (fun k hk=>by have:=L3 k hk;simp only [List.mem_singleton];omega)
   have K4:=(o4.out U1 (fun k hk=>by have:=g4 k hk;simp only [List.mem_singleton];omega)).out U2 (fun k hk=>by have:=g4 k hk;simp only [List.mem_singleton];omega)
   have HR:Hid (InstQ.e ⟨true,.slice s4 qt.length t4,qt,.slice s2 qrs.length t2,qrs,.slice s3 qds.length t3,qds⟩=E∧(instK.foot ⟨true,.slice s4 qt.length t4,qt,.slice s2 qrs.length t2,qrs,.slice s3 qds.length t3,qds⟩).Nodup∧∀ k∈instK.foot ⟨true,.slice s4 qt.length t4,qt,.slice s2 qrs.length t2,qrs,.slice s3 qds.length t3,qds⟩,w.heap.size≤k):=by
    refine ⟨?_,?_,?_⟩
    ·rw [E1.out.2,HQE.out.1,← HQE.out.2]
     simp only [InstQ.e,e4]
    ·refine List.nodup_append.2 ⟨n4,hn23,fun x hx y hy e=>?_⟩
     have:=g4 x hx
     rcases List.mem_append.1 hy with hy | hy
     ·have:=M2 y hy;omega
     ·have:=M3 y hy;omega
    ·intro k hk
     rcases List.mem_append.1 hk with hk | hk
     ·have:=g4 k hk;omega
     ·rcases List.mem_append.1 hk with hk | hk
      ·have:=L2 k hk;omega
      ·have:=L3 k hk;omega
   have HD0:Hid (D=0):=E1.out.1
   obtain ⟨k0,k1,k2,k3⟩:=Gz.cel4
   have kf:=Gz.frozen 1
   clear hin e4 o4 n4 g4 hb4 o2 o3 M2 M3 L2 L3 hn23 U1 U2 E1 HQE hbA Gz G5 Rb
   go_wp2_with (first | (refine st_row (by kernel_rfl) 39 _ _ rfl _ #[.int .i64 0,.int .i64 0,.bool false,.bool false,.int .i64 0,.bool true,.slice s4 qt.length t4,.slice s2 qrs.length t2,.slice s3 qds.length t3] rfl rfl 39 _ R5 hsr rfl (by simp [Value.oneCell']) ?_))
   obtain ⟨q0,q1,q2,q3,q4,q5,q6,q7,q8⟩:=Rr.cel9
   exact bodyPost_ret (v:=.agg #[.int .i64 0,.int .i64 0,.bool false,.bool false,.int .i64 0,.bool true,.slice s4 qt.length t4,.slice s2 qrs.length t2,.slice s3 qds.length t3]) (by simp [results,Tryz.results47,go_sem,q0,q1,q2,q3,q4,q5,q6,q7,q8]) rfl ⟨⟨true,.slice s4 qt.length t4,qt,.slice s2 qrs.length t2,qrs,.slice s3 qds.length t3,qds⟩,by rw [HD0.out],HR.out.1,⟨K4,K2,K3⟩,HR.out.2.1,HR.out.2.2,hBr⟩

end Go.Proofs.YtdhdnppbgaikfaaGreatDoor
namespace Go.Proofs.YtdhdnppbgaikfaaGreatDoor
open Go.RowKit
open Go.BigFrame
set_option maxRecDepth 100000
/-- A report, a proposal that is laid in a round. -/
def rstR (rs:List RoundE) (r n:Nat) (v:Int):List RoundE:=rs.set r ⟨(rs.getD r rnd0).rep.set n v,(rs.getD r rnd0).pro⟩

def rstP (rs:List RoundE) (r n:Nat) (v:Int):List RoundE:=rs.set r ⟨(rs.getD r rnd0).rep,(rs.getD r rnd0).pro.set n v⟩

theorem rstR_length (rs:List RoundE) (r n:Nat) (v:Int):(rstR rs r n v).length=rs.length:=by simp [rstR]

theorem rstP_length (rs:List RoundE) (r n:Nat) (v:Int):(rstP rs r n v).length=rs.length:=by simp [rstP]

theorem rowsV_set {rs:List RoundE} (h:Wel rs) (r:Nat) (hr:r < rs.length) (j:Nat) (hj:j < 6) (x:Value) (q:RoundE) (hq:rowC q=(rowC (rs.getD r rnd0)).set j x):(rowsV rs).set (r * 6 + j) x=rowsV (rs.set r q):=by
 induction rs generalizing r with
 | nil=>simp at hr
 | cons a t ih=>
  have ha:=rowC_length (h a (by simp))
  cases r with
  | zero=>
   simp only [rowsV,List.set_cons_zero,List.flatMap_cons] at hq ⊢
   have e:(a :: t).getD 0 rnd0=a:=rfl
   rw [e] at hq
   rw [List.set_append_left _ _ (by omega),hq,Nat.zero_mul,Nat.zero_add]
  | succ r=>
   have e:(a :: t).getD (r + 1) rnd0=t.getD r rnd0:=by simp [List.getD]
   rw [e] at hq
   have:=ih (fun y hy=>h y (List.mem_cons_of_mem _ hy)) r (by simpa using hr) hq
   simp only [rowsV,List.set_cons_succ,List.flatMap_cons] at this ⊢
   rw [List.set_append_right _ _ (by omega),ha,show (r + 1) * 6 + j - 6=r * 6 + j by omega,this]

theorem rnd_set {rs:List RoundE} (h:Wel rs) (r:Nat) (hr:r < rs.length) (j:Nat) (hj:j < 6) (x:Value) (q:RoundE) (hq:rowC q=(rowC (rs.getD r rnd0)).set j x):(rndC rs).set (1 + r * 6 + j) x=rndC (rs.set r q):=by
 have hl:=rowsV_length h
 unfold rndC
 rw [show 1 + r * 6 + j=(r * 6 + j) + 1 by omega,List.set_cons_succ,List.set_append_left _ _ (by omega),rowsV_set h r hr j hj x q hq,List.length_set]

theorem brd_set {has:Bool} {vb:Value} {rs:List RoundE} {dec:List Int} (h:Wel rs) (h4:rs.length≤4) (r:Nat) (hr:r < rs.length) (j:Nat) (hj:j < 6) (x:Value) (q:RoundE) (hq:rowC q=(rowC (rs.getD r rnd0)).set j x):(brdC has vb rs dec).set (1 + r * 6 + j) x=brdC has vb (rs.set r q) dec:=by
 have hl:=rndC_length h h4
 unfold brdC
 rw [List.set_append_left _ _ (by omega),rnd_set h r hr j hj x q hq]

theorem rowC_setR {q:RoundE} (h:q.rep.length=3∧q.pro.length=3) (n:Nat) (hn:n < 3) (v:Int):rowC ⟨q.rep.set n v,q.pro⟩=(rowC q).set n (iv v):=by
 unfold rowC
 rw [← List.map_set,List.set_append_left _ _ (by omega)]

theorem rowC_setP {q:RoundE} (h:q.rep.length=3∧q.pro.length=3) (n:Nat) (hn:n < 3) (v:Int):rowC ⟨q.rep,q.pro.set n v⟩=(rowC q).set (3 + n) (iv v):=by
 unfold rowC
 rw [← List.map_set,List.set_append_right _ _ (by omega),h.1,show 3 + n - 3=n by omega]

theorem brd_setP {has:Bool} {vb:Value} {rs:List RoundE} {dec:List Int} (h:Wel rs) (h4:rs.length≤4) (r:Nat) (hr:r < rs.length) (n:Nat) (hn:n < 3) (v:Int):(brdC has vb rs dec).set (1 + r * 6 + 3 + n) (iv v)=brdC has vb (rstP rs r n v) dec:=by
 rw [show 1 + r * 6 + 3 + n=1 + r * 6 + (3 + n) by omega]
 exact brd_set h h4 r hr (3 + n) (by omega) _ _ (rowC_setP (wel_at h r hr) n hn v)

theorem brd_setD {has:Bool} {vb:Value} {rs:List RoundE} {dec:List Int} (h:Wel rs) (h4:rs.length≤4) (n:Nat) (v:Int):(brdC has vb rs dec).set (27 + n) (iv v)=brdC has vb rs (dec.set n v):=by
 have hl:=rndC_length h h4
 unfold brdC
 rw [List.set_append_right _ _ (by omega),hl,show 27 + n - 25=n + 2 by omega]
 simp [List.map_set]

theorem wel_set {rs:List RoundE} (h:Wel rs) (r:Nat) (q:RoundE) (hq:q.rep.length=3∧q.pro.length=3):Wel (rs.set r q):=fun x hx=>by
 rcases List.mem_or_eq_of_mem_set hx with hx | rfl
 ·exact h x hx
 ·exact hq

theorem wel_rstR {rs:List RoundE} (h:Wel rs) (r n:Nat) (hr:r < rs.length) (v:Int):Wel (rstR rs r n v):=wel_set h r _ (by have:=wel_at h r hr;simpa using this)

theorem wel_rstP {rs:List RoundE} (h:Wel rs) (r n:Nat) (hr:r < rs.length) (v:Int):Wel (rstP rs r n v):=wel_set h r _ (by have:=wel_at h r hr;simpa using this)

/-- The same in memory. -/
def InstQ.setP (q:InstQ) (r n:Nat) (x:Int) (hr:r < q.rounds.length):InstQ:=⟨q.has,q.vb,q.batch,q.vr,q.rounds.set r ⟨q.rounds[r].vr,q.rounds[r].rep,q.rounds[r].vp,q.rounds[r].pro.set n x⟩,q.vd,q.dec⟩

def InstQ.setR (q:InstQ) (r n:Nat) (x:Int) (hr:r < q.rounds.length):InstQ:=⟨q.has,q.vb,q.batch,q.vr,q.rounds.set r ⟨q.rounds[r].vr,q.rounds[r].rep.set n x,q.rounds[r].vp,q.rounds[r].pro⟩,q.vd,q.dec⟩

def InstQ.setD (q:InstQ) (n:Nat) (x:Int):InstQ:=⟨q.has,q.vb,q.batch,q.vr,q.rounds,q.vd,q.dec.set n x⟩

theorem getD_mapE (qs:List RoundQ) (r:Nat) (hr:r < qs.length):(qs.map RoundQ.e).getD r rnd0=qs[r].e:=by simp [List.getD,hr]

theorem setP_e (q:InstQ) (r n:Nat) (x:Int) (hr:r < q.rounds.length):(q.setP r n x hr).e=⟨q.e.has,q.e.batch,rstP q.e.rounds r n x,q.e.dec⟩:=by
 show InstE.mk _ _ _ _=_
 unfold rstP
 rw [show q.e.rounds=q.rounds.map RoundQ.e from rfl,getD_mapE _ _ hr]
 simp only [InstQ.setP,List.map_set]
 rfl

theorem setR_e (q:InstQ) (r n:Nat) (x:Int) (hr:r < q.rounds.length):(q.setR r n x hr).e=⟨q.e.has,q.e.batch,rstR q.e.rounds r n x,q.e.dec⟩:=by
 show InstE.mk _ _ _ _=_
 unfold rstR
 rw [show q.e.rounds=q.rounds.map RoundQ.e from rfl,getD_mapE _ _ hr]
 simp only [InstQ.setR,List.map_set]
 rfl

theorem setD_e (q:InstQ) (n:Nat) (x:Int):(q.setD n x).e=⟨q.e.has,q.e.batch,q.e.rounds,q.e.dec.set n x⟩:=rfl

theorem intK_foot (zs:List Int):zs.flatMap intK.foot=[]:=by
 rw [List.flatMap_eq_nil_iff]
 intro _ _
 rfl

theorem own_int_set {w:World} {g n cap k:Nat} {zs:List Int} (h:intK.Own w (.slice (some ⟨g,0,none⟩) n cap) zs) (hk:k < zs.length) (x:Int) :
  intK.Own (w.setCell ⟨g,k,none⟩ (iv x)) (.slice (some ⟨g,0,none⟩) n cap) (zs.set k x)∧w.cell? ⟨g,k,none⟩=some (iv zs[k])∧w.frozen? ⟨g,k,none⟩=false:=by
 have hnd:(intK.fp (.slice (some ⟨g,0,none⟩) n cap) zs).Nodup:=intK_nodup _ _
 have h1:=(h.store hnd k hk x 0 (iv x) (by show 0 < 1;omega) rfl rfl (fun _ _=>trivial)).1
 have h2:=h.cell k hk 0 (iv zs[k]) rfl
 have e:k * intK.size + 0=k:=by show k * 1 + 0=k;omega
 rw [e] at h1 h2
 exact ⟨h1,h2⟩

theorem fp_int {g n cap:Nat} (zs:List Int):intK.fp (.slice (some ⟨g,0,none⟩) n cap) zs=[g]:=by
 simp [Kind.fp,intK_foot,blk,Value.ownBlock]

theorem nodup_flat {A B:Type} {f:A→List B} {l:List A} (h:(l.flatMap f).Nodup) {a:A} (ha:a∈l):(f a).Nodup:=by
 induction l with
 | nil=>simp at ha
 | cons x t ih=>
  rw [List.flatMap_cons,List.nodup_append] at h
  rcases List.mem_cons.1 ha with rfl | ha
  ·exact h.1
  ·exact ih h.2.1 ha

theorem own_setP {w:World} {q:InstQ} (h:instK.own w q) (hnd:(instK.foot q).Nodup) (r n:Nat) (hr:r < q.rounds.length) (hn:n < q.rounds[r].pro.length) (x:Int) :
  ∃ g cap,q.rounds[r].vp=.slice (some ⟨g,0,none⟩) q.rounds[r].pro.length cap∧g∈instK.foot q∧w.cell? ⟨g,n,none⟩=some (iv q.rounds[r].pro[n])∧w.frozen? ⟨g,n,none⟩=false ∧
   instK.own (w.setCell ⟨g,n,none⟩ (iv x)) (q.setP r n x hr)∧instK.foot (q.setP r n x hr)=instK.foot q:=by
 obtain ⟨o1,o2,o3⟩:=h
 obtain ⟨hn1,hn23,hd1⟩:=List.nodup_append.1 hnd
 obtain ⟨hn2,hn3,hd2⟩:=List.nodup_append.1 hn23
 have hmem:=o2.2 _ (List.getElem_mem hr)
 obtain ⟨oR,oP⟩:=hmem
 obtain ⟨a,cap,hv⟩:=oP.shape
 rw [hv] at oP
 obtain ⟨g,rfl⟩:=oP.blkOf (by omega)
 obtain ⟨k1,k2,k3⟩:=own_int_set oP hn x
 have hgP:g∈roundK.foot q.rounds[r]:=List.mem_append_right _ (by rw [hv,fp_int];simp)
 have hg2:g∈roundK.fp q.vr q.rounds:=List.mem_append_right _ (List.mem_flatMap.2 ⟨_,List.getElem_mem hr,hgP⟩)
 have hg:g∈instK.foot q:=List.mem_append_right _ (List.mem_append_left _ hg2)
 have hU:=Out.setCell w g n (iv x)
 have hfr:(roundK.foot q.rounds[r]).Nodup:=nodup_flat (List.nodup_append.1 hn2).2.1 (List.getElem_mem hr)
 have hRP:∀ k∈intK.fp q.rounds[r].vr q.rounds[r].rep,k ∉ [g]:=fun k hk hk' => by
  simp only [List.mem_singleton] at hk'
  subst hk'
  have:=(List.nodup_append.1 hfr).2.2 k hk k (by rw [hv,fp_int];simp)
  exact this rfl
 have ht:=o2.turn hn2 r hr ⟨q.rounds[r].vr,q.rounds[r].rep,q.rounds[r].vp,q.rounds[r].pro.set n x⟩ hU (fun k hk=>by simp only [List.mem_singleton] at hk;rw [hk];exact hgP) rfl (by show intK.fp _ _ ++ intK.fp _ _=intK.fp _ _ ++ intK.fp _ _;rw [hv,fp_int,fp_int]) ⟨oR.out hU hRP,by rw [hv];exact k1⟩
 refine ⟨g,cap,hv,hg,k2,k3,⟨o1.out hU (fun k hk hk' => ?_),ht.1,o3.out hU (fun k hk hk' => ?_)⟩,?_⟩
 ·simp only [List.mem_singleton] at hk'
  subst hk'
  exact hd1 k hk k (List.mem_append_left _ hg2) rfl
 ·simp only [List.mem_singleton] at hk'
  subst hk'
  exact hd2 k hg2 k hk rfl
 ·show txnK.fp _ _ ++ (roundK.fp _ _ ++ intK.fp _ _)=_
  rw [show (q.setP r n x hr).rounds=q.rounds.set r ⟨q.rounds[r].vr,q.rounds[r].rep,q.rounds[r].vp,q.rounds[r].pro.set n x⟩ from rfl]
  rw [show (q.setP r n x hr).vr=q.vr from rfl,ht.2]
  rfl

theorem own_setR {w:World} {q:InstQ} (h:instK.own w q) (hnd:(instK.foot q).Nodup) (r n:Nat) (hr:r < q.rounds.length) (hn:n < q.rounds[r].rep.length) (x:Int) :
  ∃ g cap,q.rounds[r].vr=.slice (some ⟨g,0,none⟩) q.rounds[r].rep.length cap∧g∈instK.foot q∧w.cell? ⟨g,n,none⟩=some (iv q.rounds[r].rep[n])∧w.frozen? ⟨g,n,none⟩=false ∧
   instK.own (w.setCell ⟨g,n,none⟩ (iv x)) (q.setR r n x hr)∧instK.foot (q.setR r n x hr)=instK.foot q:=by
 obtain ⟨o1,o2,o3⟩:=h
 obtain ⟨hn1,hn23,hd1⟩:=List.nodup_append.1 hnd
 obtain ⟨hn2,hn3,hd2⟩:=List.nodup_append.1 hn23
 have hmem:=o2.2 _ (List.getElem_mem hr)
 obtain ⟨oR,oP⟩:=hmem
 obtain ⟨a,cap,hv⟩:=oR.shape
 rw [hv] at oR
 obtain ⟨g,rfl⟩:=oR.blkOf (by omega)
 obtain ⟨k1,k2,k3⟩:=own_int_set oR hn x
 have hgR:g∈roundK.foot q.rounds[r]:=List.mem_append_left _ (by rw [hv,fp_int];simp)
 have hg2:g∈roundK.fp q.vr q.rounds:=List.mem_append_right _ (List.mem_flatMap.2 ⟨_,List.getElem_mem hr,hgR⟩)
 have hg:g∈instK.foot q:=List.mem_append_right _ (List.mem_append_left _ hg2)
 have hU:=Out.setCell w g n (iv x)
 have hfr:(roundK.foot q.rounds[r]).Nodup:=nodup_flat (List.nodup_append.1 hn2).2.1 (List.getElem_mem hr)
 have hRP:∀ k∈intK.fp q.rounds[r].vp q.rounds[r].pro,k ∉ [g]:=fun k hk hk' => by
  simp only [List.mem_singleton] at hk'
  subst hk'
  have:=(List.nodup_append.1 hfr).2.2 k (by rw [hv,fp_int];simp) k hk
  exact this rfl
 have ht:=o2.turn hn2 r hr ⟨q.rounds[r].vr,q.rounds[r].rep.set n x,q.rounds[r].vp,q.rounds[r].pro⟩ hU (fun k hk=>by simp only [List.mem_singleton] at hk;rw [hk];exact hgR) rfl (by show intK.fp _ _ ++ intK.fp _ _=intK.fp _ _ ++ intK.fp _ _;rw [hv,fp_int,fp_int]) ⟨by rw [hv];exact k1,oP.out hU hRP⟩
 refine ⟨g,cap,hv,hg,k2,k3,⟨o1.out hU (fun k hk hk' => ?_),ht.1,o3.out hU (fun k hk hk' => ?_)⟩,?_⟩
 ·simp only [List.mem_singleton] at hk'
  subst hk'
  exact hd1 k hk k (List.mem_append_left _ hg2) rfl
 ·simp only [List.mem_singleton] at hk'
  subst hk'
  exact hd2 k hg2 k hk rfl
 ·show txnK.fp _ _ ++ (roundK.fp _ _ ++ intK.fp _ _)=_
  rw [show (q.setR r n x hr).rounds=q.rounds.set r ⟨q.rounds[r].vr,q.rounds[r].rep.set n x,q.rounds[r].vp,q.rounds[r].pro⟩ from rfl]
  rw [show (q.setR r n x hr).vr=q.vr from rfl,ht.2]
  rfl

theorem own_setD {w:World} {q:InstQ} (h:instK.own w q) (hnd:(instK.foot q).Nodup) (n:Nat) (hn:n < q.dec.length) (x:Int) :
  ∃ g cap,q.vd=.slice (some ⟨g,0,none⟩) q.dec.length cap∧g∈instK.foot q∧w.cell? ⟨g,n,none⟩=some (iv q.dec[n])∧w.frozen? ⟨g,n,none⟩=false ∧
   instK.own (w.setCell ⟨g,n,none⟩ (iv x)) (q.setD n x)∧instK.foot (q.setD n x)=instK.foot q:=by
 obtain ⟨o1,o2,o3⟩:=h
 obtain ⟨hn1,hn23,hd1⟩:=List.nodup_append.1 hnd
 obtain ⟨hn2,hn3,hd2⟩:=List.nodup_append.1 hn23
 obtain ⟨a,cap,hv⟩:=o3.shape
 rw [hv] at o3
 obtain ⟨g,rfl⟩:=o3.blkOf (by omega)
 obtain ⟨k1,k2,k3⟩:=own_int_set o3 hn x
 have hg3:g∈intK.fp q.vd q.dec:=by rw [hv,fp_int];simp
 have hg:g∈instK.foot q:=List.mem_append_right _ (List.mem_append_right _ hg3)
 have hU:=Out.setCell w g n (iv x)
 refine ⟨g,cap,hv,hg,k2,k3,⟨o1.out hU (fun k hk hk' => ?_),o2.out hU (fun k hk hk' => ?_),?_⟩,?_⟩
 ·simp only [List.mem_singleton] at hk'
  subst hk'
  exact hd1 k hk k (List.mem_append_right _ hg3) rfl
 ·simp only [List.mem_singleton] at hk'
  subst hk'
  exact hd2 k hk k hg3 rfl
 ·show intK.Own _ q.vd _
  rw [hv]
  exact k1
 ·show txnK.fp _ _ ++ (roundK.fp _ _ ++ intK.fp q.vd _)=txnK.fp _ _ ++ (roundK.fp _ _ ++ intK.fp q.vd _)
  rw [hv,fp_int,fp_int]
  rfl

end Go.Proofs.YtdhdnppbgaikfaaGreatDoor
namespace Go.Proofs.YtdhdnppbgaikfaaGreatDoor
open Go.RowKit
open Go.BigFrame
set_option maxRecDepth 100000
/-- The code for who says something. -/
def atC (x:InstE) (node round:Int):Int:=if insF x=0 then (if inB node 0 2 && inB round 0 ((x.rounds.length:Int) - 1) then 0 else 3) else insF x

theorem at_zero {x:InstE} {node round:Int} (h:atC x node round=0):insF x=0∧∃ n r:Nat,node=(n:Int)∧round=(r:Int)∧n < 3∧r < x.rounds.length:=by
 unfold atC at h
 by_cases h0:insF x=0
 ·rw [if_pos h0] at h
  by_cases h1:(inB node 0 2 && inB round 0 ((x.rounds.length:Int) - 1))=true
  ·rw [Bool.and_eq_true] at h1
   obtain ⟨h1,h2⟩:=h1
   unfold inB at h1 h2
   rw [decide_eq_true_eq] at h1 h2
   exact ⟨h0,node.toNat,round.toNat,by omega,by omega,by omega,by omega⟩
  ·rw [if_neg h1] at h
   exact absurd h (by decide)
 ·rw [if_neg h0] at h
  exact absurd h h0

end Go.Proofs.YtdhdnppbgaikfaaGreatDoor
namespace Go.Proofs.YtdhdnppbgaikfaaGreatDoor
open Go.RowKit
open Go.BigFrame
set_option maxRecDepth 100000
/-- Propose, plainly: its code, and its instance. -/
def prC (x:InstE) (node round mask:Int):Int:=if atC x node round=0 then (if proA x.rounds round.toNat node.toNat=3 then (if repA x.rounds round.toNat node.toNat=3 then 8 else pfC (x.rounds.getD round.toNat rnd0).rep mask) else 6) else atC x node round

def prI (x:InstE) (node round mask:Int):InstE:=if prC x node round mask=0 then ⟨x.has,x.batch,rstP x.rounds round.toNat node.toNat (pfV (x.rounds.getD round.toNat rnd0).rep mask),x.dec⟩ else ine0

theorem pr_facts (x:InstE) (node round mask:Int):(atC x node round≠0→prC x node round mask=atC x node round∧prI x node round mask=ine0) ∧
  (atC x node round=0→insF x=0∧∃ n r:Nat,node=(n:Int)∧round=(r:Int)∧n < 3∧r < x.rounds.length ∧
   (proA x.rounds r n≠3→prC x node round mask=6∧prI x node round mask=ine0) ∧
   (proA x.rounds r n=3→repA x.rounds r n=3→prC x node round mask=8∧prI x node round mask=ine0) ∧
   (proA x.rounds r n=3→repA x.rounds r n≠3→pfC (x.rounds.getD r rnd0).rep mask≠0→prC x node round mask=pfC (x.rounds.getD r rnd0).rep mask∧prI x node round mask=ine0) ∧
   (proA x.rounds r n=3→repA x.rounds r n≠3→pfC (x.rounds.getD r rnd0).rep mask=0→prC x node round mask=0∧prI x node round mask=⟨x.has,x.batch,rstP x.rounds r n (pfV (x.rounds.getD r rnd0).rep mask),x.dec⟩)):=by
 have hne:∀ c,prC x node round mask=c→c≠0→prI x node round mask=ine0:=fun c hc h0=>if_neg (by rw [hc];exact h0)
 refine ⟨fun h0=>?_,fun h0=>?_⟩
 ·have e:prC x node round mask=atC x node round:=if_neg h0
  exact ⟨e,hne _ e h0⟩
 ·obtain ⟨hi,n,r,rfl,rfl,hn,hr⟩:=at_zero h0
  refine ⟨hi,n,r,rfl,rfl,hn,hr,fun h1=>?_,fun h1 h2=>?_,fun h1 h2 h3=>?_,fun h1 h2 h3=>?_⟩
  ·have e:prC x n r mask=6:=by unfold prC;rw [if_pos h0,Int.toNat_natCast,Int.toNat_natCast,if_neg h1]
   exact ⟨e,hne _ e (by decide)⟩
  ·have e:prC x n r mask=8:=by unfold prC;rw [if_pos h0,Int.toNat_natCast,Int.toNat_natCast,if_pos h1,if_pos h2]
   exact ⟨e,hne _ e (by decide)⟩
  ·have e:prC x n r mask=pfC (x.rounds.getD r rnd0).rep mask:=by unfold prC;rw [if_pos h0,Int.toNat_natCast,Int.toNat_natCast,if_pos h1,if_neg h2]
   exact ⟨e,hne _ e h3⟩
  ·have e:prC x n r mask=0:=by unfold prC;rw [if_pos h0,Int.toNat_natCast,Int.toNat_natCast,if_pos h1,if_neg h2,h3]
   exact ⟨e,by unfold prI;rw [if_pos e,Int.toNat_natCast,Int.toNat_natCast]⟩

end Go.Proofs.YtdhdnppbgaikfaaGreatDoor
