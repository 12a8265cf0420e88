/- Texts joined, with what the laws reach alone. -/
import Derived.Test.YtnnenkoeklabpaaGreatDoorAGAE
set_option linter.unusedVariables false
set_option linter.unusedSimpArgs false
namespace Go.Proofs.YtnnenkoeklabpaaGreatDoor
open Go.RowKit
open Go.BigFrame
set_option maxRecDepth 100000
set_option maxHeartbeats 2000000 in
theorem l6Bad_any (c:Int) (w:World) :
  Calls Tryz.prog 74 #[.int .i64 c] w fun e w' => e=.returned (.agg #[.int .i64 c,.int .i64 0,.bool false,.bool false,.int .i64 0,.bool false,.slice none 0 0,.slice none 0 0,.slice none 0 0])∧Below w.heap.size w w' := by
 have hB:Below w.heap.size w (w.alloc (.cells #[.int .i64 0,.int .i64 0,.bool false,.bool false,.int .i64 0,.bool false,.slice none 0 0,.slice none 0 0,.slice none 0 0] 88)):=by go_grown
 have Rb:=Blk.new w 88 #[.int .i64 0,.int .i64 0,.bool false,.bool false,.int .i64 0,.bool false,.slice none 0 0,.slice none 0 0,.slice none 0 0]
 have Rr:=Rb.row #[.int .i64 c,.int .i64 0,.bool false,.bool false,.int .i64 0,.bool false,.slice none 0 0,.slice none 0 0,.slice none 0 0]
 have hBr:=below_row hB (g:=w.heap.size) (Nat.le_refl _) #[.int .i64 c,.int .i64 0,.bool false,.bool false,.int .i64 0,.bool false,.slice none 0 0,.slice none 0 0,.slice none 0 0]
 have hsr:(Tryz.prog.info? 88).map (·.size)=some (#[.int .i64 c,.int .i64 0,.bool false,.bool false,.int .i64 0,.bool false,.slice none 0 0,.slice none 0 0,.slice none 0 0]:Array Value).size:=sz_res
 go_enter Tryz.func74,Tryz.ntmps74
 go_wp2_with (first | (refine st_row (by kernel_rfl) 88 _ _ rfl _ #[.int .i64 c,.int .i64 0,.bool false,.bool false,.int .i64 0,.bool false,.slice none 0 0,.slice none 0 0,.slice none 0 0] rfl rfl 88 _ Rb hsr rfl (by simp [Value.oneCell']) ?_))
 obtain ⟨q0,q1,q2,q3,q4,q5,q6,q7,q8⟩:=Rr.cel9
 exact bodyPost_ret (v:=.agg #[.int .i64 c,.int .i64 0,.bool false,.bool false,.int .i64 0,.bool false,.slice none 0 0,.slice none 0 0,.slice none 0 0]) (by simp [results,Tryz.results74,go_sem,q0,q1,q2,q3,q4,q5,q6,q7,q8]) rfl ⟨rfl,hBr⟩

theorem ins_low {p:InstQ} (h:insF p.e=0):(∀ t∈p.batch,0 < t.acts.length)∧(∀ r∈p.rounds,0 < r.rep.length∧0 < r.pro.length)∧0 < p.dec.length:=by
 obtain ⟨h1,h2,h3,_,h5⟩:=ins_ok h
 obtain ⟨h6,_⟩:=ins_zero h
 obtain ⟨_,_,_,h7,h8⟩:=shp_zero h6
 refine ⟨?_,fun r hr=>?_,by have:p.dec.length=3:=h3;omega⟩
 ·cases hh:p.has with
  | true=>exact bat_pos (h8 hh)
  | false=>
   have:p.batch.map TxnQ.e=[]:=h7 hh
   intro t ht
   have:p.batch=[]:=List.map_eq_nil_iff.1 this
   rw [this] at ht
   simp at ht
 ·have:=h1 (RoundQ.e r) (List.mem_map.2 ⟨r,hr,rfl⟩)
  have h9:r.rep.length=3∧r.pro.length=3:=this
  omega

set_option maxHeartbeats 4000000 in
theorem l6Set_any (b o:Nat) (p:InstQ) (vn:Value) (bt:List TxnQ) (w:World) (hP:InstP w b o p) (hbw:b < w.heap.size) (hl:p.n≤1048576) (h0:insF p.e=0) (hT:txnK.At w vn bt) (hl' : bt.length + nmL TxnQ.n bt≤1048576) :
  Calls Tryz.prog 51 #[.pointer (some ⟨b,o,none⟩),vn] w fun e w' => ∃ q:InstQ,e=.returned (.agg (resC (sbC p.e (bt.map TxnQ.e)) 0 false false 0 q))∧q.e=sbI p.e (bt.map TxnQ.e)∧instK.own w' q∧(instK.foot q).Nodup∧(∀ k∈instK.foot q,w.heap.size≤k)∧Below w.heap.size w w' := by
 obtain ⟨hne,hro,hd0⟩:=ins_low h0
 have hco:=fun w h=>l6Copy_any p w h hl hne hro hd0
 have hba:=fun w (hT:txnK.At w vn bt)=>l6Batch_any vn (bt.map TxnQ.e) w (txnsAt_of hT) (by rw [List.length_map,sumA_of];omega)
 have hin:=fun (hp:batF (bt.map TxnQ.e)=0) w (hT:txnK.At w vn bt)=>l2CopyAll_any vn bt w hT (bat_pos hp) hl'
 obtain ⟨D,hD⟩:∃ D,sbC p.e (bt.map TxnQ.e)=D:=⟨_,rfl⟩
 obtain ⟨E,hE⟩:∃ E,sbI p.e (bt.map TxnQ.e)=E:=⟨_,rfl⟩
 have HDE:Hid ((p.has=true→D=6∧E=ine0)∧(p.has=false→batF (bt.map TxnQ.e)≠0→D=batF (bt.map TxnQ.e)∧E=ine0)∧(p.has=false→batF (bt.map TxnQ.e)=0→D=0∧E=⟨true,bt.map TxnQ.e,p.e.rounds,p.dec⟩)):=by
  have hph:p.e.has=p.has:=rfl
  refine ⟨fun h1=>?_,fun h1 h2=>?_,fun h1 h2=>?_⟩
  ·have e:D=6:=by rw [← hD];unfold sbC;rw [if_pos h0,hph,h1];rfl
   exact ⟨e,by rw [← hE];exact if_neg (by rw [hD,e];decide)⟩
  ·have e:D=batF (bt.map TxnQ.e):=by rw [← hD];unfold sbC;rw [if_pos h0,hph,h1];rfl
   exact ⟨e,by rw [← hE];exact if_neg (by rw [hD,e];exact h2)⟩
  ·have e:D=0:=by rw [← hD];unfold sbC;rw [if_pos h0,hph,h1];exact h2
   exact ⟨e,by rw [← hE];exact if_pos (by rw [hD,e])⟩
 rw [hD,hE]
 clear hD hE h0 hne hro hd0
 have HPE:Hid (p.e.rounds=p.rounds.map RoundQ.e∧p.e.dec=p.dec):=⟨rfl,rfl⟩
 generalize hds:bt.map TxnQ.e=dsn at *
 generalize hbf:batF dsn=BF at *
 clear hbf
 have hrd:=hP.rd
 have hrb:=fun (w' : World) hb=>instK.rd_below (w' := w') hrd hb
 generalize hpe:p.e=pe at *
 obtain ⟨has,vb,batch,vr,rounds,vd,dec⟩:=p
 obtain ⟨ba,bk,rfl⟩:∃ a c,vb=.slice a batch.length c:=hrd.1.shape
 obtain ⟨va,vk,rfl⟩:∃ a c,vr=.slice a rounds.length c:=hrd.2.1.shape
 obtain ⟨da,dk,rfl⟩:∃ a c,vd=.slice a dec.length c:=hrd.2.2.shape
 obtain ⟨na,nk,rfl⟩:=hT.shape
 dsimp only at hco hrb HDE HPE
 have hB:Below w.heap.size w (w.alloc (.cells #[.int .i64 0,.int .i64 0,.bool false,.bool false,.int .i64 0,.bool false,.slice none 0 0,.slice none 0 0,.slice none 0 0] 88)):=by go_grown
 have Rb:=Blk.new w 88 #[.int .i64 0,.int .i64 0,.bool false,.bool false,.int .i64 0,.bool false,.slice none 0 0,.slice none 0 0,.slice none 0 0]
 have hPW:=hP.below hB
 have c0:=hPW.box.c0
 dsimp only at c0
 cases has with
 | true=>
  have E1:Hid (D=6∧E=ine0):=HDE.out.1 rfl
  clear HDE hba hin hco
  go_enter Tryz.func51,Tryz.ntmps51
  go_wp2_with fail
  clear c0
  generalize w.alloc (.cells #[.int .i64 0,.int .i64 0,.bool false,.bool false,.int .i64 0,.bool false,.slice none 0 0,.slice none 0 0,.slice none 0 0] 88)=W at *
  refine (l6Bad_any 6 _).mono ?_
  rintro e w8 ⟨rfl,hb8⟩
  replace hB:=hB.trans (hb8.mono hB.size)
  replace Rb:=Rb.below hb8
  clear hb8
  have Rr:=Rb.row #[.int .i64 6,.int .i64 0,.bool false,.bool false,.int .i64 0,.bool false,.slice none 0 0,.slice none 0 0,.slice none 0 0]
  have hBr:=below_row hB (g:=w.heap.size) (by omega) #[.int .i64 6,.int .i64 0,.bool false,.bool false,.int .i64 0,.bool false,.slice none 0 0,.slice none 0 0,.slice none 0 0]
  have hsr:(Tryz.prog.info? 88).map (·.size)=some (#[.int .i64 6,.int .i64 0,.bool false,.bool false,.int .i64 0,.bool false,.slice none 0 0,.slice none 0 0,.slice none 0 0]:Array Value).size:=sz_res
  go_wp2_with (first | (refine st_row (by kernel_rfl) 88 _ _ rfl _ #[.int .i64 6,.int .i64 0,.bool false,.bool false,.int .i64 0,.bool false,.slice none 0 0,.slice none 0 0,.slice none 0 0] rfl rfl 88 _ Rb hsr rfl (by simp [Value.oneCell']) ?_))
  obtain ⟨q0,q1,q2,q3,q4,q5,q6,q7,q8⟩:=Rr.cel9
  exact bodyPost_ret (v:=.agg #[.int .i64 6,.int .i64 0,.bool false,.bool false,.int .i64 0,.bool false,.slice none 0 0,.slice none 0 0,.slice none 0 0]) (by simp [results,Tryz.results51,go_sem,q0,q1,q2,q3,q4,q5,q6,q7,q8]) rfl ⟨inst0,by rw [E1.out.1];rfl,E1.out.2.symm,inst0_own _,inst0_nd,fun k hk=>by rw [inst0_ft] at hk;simp at hk,hBr⟩

 | false=>
  have E4:Hid ((BF≠0→D=BF∧E=ine0)∧(BF=0→D=0∧E=⟨true,dsn,pe.rounds,dec⟩)):=⟨HDE.out.2.1 rfl,HDE.out.2.2 rfl⟩
  clear HDE
  go_enter Tryz.func51,Tryz.ntmps51
  go_wp2_with fail
  clear c0
  generalize w.alloc (.cells #[.int .i64 0,.int .i64 0,.bool false,.bool false,.int .i64 0,.bool false,.slice none 0 0,.slice none 0 0,.slice none 0 0] 88)=W at *
  refine (hba W (hT.below hB)).mono ?_
  rintro e w2 ⟨rfl,hb2⟩
  replace Rb:=Rb.below hb2
  replace hPW:=hPW.below hb2
  replace hB:=hB.trans (hb2.mono hB.size)
  clear hb2 hba
  by_cases hbf:BF=0
  case neg=>
   have E1:Hid (D=BF∧E=ine0):=E4.out.1 hbf
   have h0' : (BF != 0)=true:=by simpa using hbf
   clear E4 hbf hin hco
   go_wp2_with fail
   refine (l6Bad_any BF _).mono ?_
   rintro e w8 ⟨rfl,hb8⟩
   replace hB:=hB.trans (hb8.mono hB.size)
   replace Rb:=Rb.below hb8
   clear hb8
   have Rr:=Rb.row #[.int .i64 BF,.int .i64 0,.bool false,.bool false,.int .i64 0,.bool false,.slice none 0 0,.slice none 0 0,.slice none 0 0]
   have hBr:=below_row hB (g:=w.heap.size) (by omega) #[.int .i64 BF,.int .i64 0,.bool false,.bool false,.int .i64 0,.bool false,.slice none 0 0,.slice none 0 0,.slice none 0 0]
   have hsr:(Tryz.prog.info? 88).map (·.size)=some (#[.int .i64 BF,.int .i64 0,.bool false,.bool false,.int .i64 0,.bool false,.slice none 0 0,.slice none 0 0,.slice none 0 0]:Array Value).size:=sz_res
   go_wp2_with (first | (refine st_row (by kernel_rfl) 88 _ _ rfl _ #[.int .i64 BF,.int .i64 0,.bool false,.bool false,.int .i64 0,.bool false,.slice none 0 0,.slice none 0 0,.slice none 0 0] rfl rfl 88 _ Rb hsr rfl (by simp [Value.oneCell']) ?_))
   obtain ⟨q0,q1,q2,q3,q4,q5,q6,q7,q8⟩:=Rr.cel9
   exact bodyPost_ret (v:=.agg #[.int .i64 BF,.int .i64 0,.bool false,.bool false,.int .i64 0,.bool false,.slice none 0 0,.slice none 0 0,.slice none 0 0]) (by simp [results,Tryz.results51,go_sem,q0,q1,q2,q3,q4,q5,q6,q7,q8]) rfl ⟨inst0,by rw [E1.out.1];rfl,E1.out.2.symm,inst0_own _,inst0_nd,fun k hk=>by rw [inst0_ft] at hk;simp at hk,hBr⟩

  case pos=>
   have E1:Hid (D=0∧E=⟨true,dsn,pe.rounds,dec⟩):=E4.out.2 hbf
   subst hbf
   clear E4
   have hw23:w.heap.size + 1≤w2.heap.size:=Rb.lt
   obtain ⟨c0,c1,c2,c3⟩:=hPW.box
   dsimp only at c0 c1 c2 c3
   go_wp2_with fail
   clear c0 c1 c2 c3
   refine (hco w2 (hrb w2 hB)).mono ?_
   rintro e w3 ⟨q,rfl,eq,oq,nq,gq,hb3⟩
   replace Rb:=Rb.below hb3
   replace hB:=hB.trans (hb3.mono hB.size)
   obtain ⟨qh,qb,qbs,qr,qrs,qd,qds⟩:=q
   obtain ⟨s1,t1,rfl⟩:∃ a c,qb=.slice a qbs.length c:=oq.1.shape
   obtain ⟨s2,t2,rfl⟩:∃ a c,qr=.slice a qrs.length c:=oq.2.1.shape
   obtain ⟨s3,t3,rfl⟩:∃ a c,qd=.slice a qds.length c:=oq.2.2.shape
   have hbA:Below w3.heap.size w3 (w3.alloc (.cells #[.bool true,.slice s1 qbs.length t1,.slice s2 qrs.length t2,.slice s3 qds.length t3] 28)):=by go_grown
   have Gz:=Blk.new w3 28 #[.bool true,.slice s1 qbs.length t1,.slice s2 qrs.length t2,.slice s3 qds.length t3]
   have hn23:=(List.nodup_append.1 nq).2.1
   have o2:=oq.2.1
   have o3:=oq.2.2
   have M2:=o2.lt
   have M3:=o3.lt
   have hs23:=hb3.size
   have L2:∀ k∈roundK.fp (.slice s2 qrs.length t2) qrs,w2.heap.size≤k:=fun k hk=>gq k (List.mem_append_right _ (List.mem_append_left _ hk))
   have L3:∀ k∈intK.fp (.slice s3 qds.length t3) qds,w2.heap.size≤k:=fun k hk=>gq k (List.mem_append_right _ (List.mem_append_right _ hk))
   have HQE:Hid (pe.rounds=qrs.map RoundQ.e∧qds=dec):=by
    have e1:pe.dec=dec:=HPE.out.2
    rw [← eq] at e1 ⊢
    exact ⟨rfl,e1⟩
   replace o2:=o2.below hbA
   replace o3:=o3.below hbA
   replace Rb:=Rb.below hbA
   replace hB:=hB.trans (hbA.mono hB.size)
   clear hco gq nq oq eq hb3 HPE
   go_wp2_with fail
   have hgz:=Gz.lt
   generalize w3.alloc (.cells #[.bool true,.slice s1 qbs.length t1,.slice s2 qrs.length t2,.slice s3 qds.length t3] 28)=W3 at *
   refine (hin (by trivial) W3 (hT.below hB)).mono ?_
   rintro e w4 ⟨v4,qt,rfl,e4,o4,n4,g4,hb4⟩
   obtain ⟨s4,t4,rfl⟩:=o4.shape
   replace o2:=o2.below hb4
   replace o3:=o3.below hb4
   replace Rb:=Rb.below hb4
   replace Gz:=Gz.below hb4
   replace hB:=hB.trans (hb4.mono hB.size)
   have hsb:w3.heap.size≤W3.heap.size:=hbA.size
   have R5:=Rb.other (b' := w3.heap.size) (by omega) 1 (.slice s4 qt.length t4)
   have G5:Blk (w4.setCell ⟨w3.heap.size,1,none⟩ (.slice s4 qt.length t4)) w3.heap.size 28 #[.bool true,.slice s4 qt.length t4,.slice s2 qrs.length t2,.slice s3 qds.length t3]:=Gz.set 1 (.slice s4 qt.length t4)
   have hB5:Below w.heap.size w (w4.setCell ⟨w3.heap.size,1,none⟩ (.slice s4 qt.length t4)):=hB.setCell (p:=⟨w3.heap.size,1,none⟩) (by show w.heap.size≤w3.heap.size;omega) _
   have U1:=Out.setCell w4 w3.heap.size 1 (.slice s4 qt.length t4)
   have U2:=out_row (w4.setCell ⟨w3.heap.size,1,none⟩ (.slice s4 qt.length t4)) w.heap.size #[.int .i64 0,.int .i64 0,.bool false,.bool false,.int .i64 0,.bool true,.slice s4 qt.length t4,.slice s2 qrs.length t2,.slice s3 qds.length t3]
   have Rr:=R5.row #[.int .i64 0,.int .i64 0,.bool false,.bool false,.int .i64 0,.bool true,.slice s4 qt.length t4,.slice s2 qrs.length t2,.slice s3 qds.length t3]
   have hBr:=below_row hB5 (g:=w.heap.size) (Nat.le_refl _) #[.int .i64 0,.int .i64 0,.bool false,.bool false,.int .i64 0,.bool true,.slice s4 qt.length t4,.slice s2 qrs.length t2,.slice s3 qds.length t3]
   have hsr:(Tryz.prog.info? 88).map (·.size)=some (#[.int .i64 0,.int .i64 0,.bool false,.bool false,.int .i64 0,.bool true,.slice s4 qt.length t4,.slice s2 qrs.length t2,.slice s3 qds.length t3]:Array Value).size:=sz_res
   have K2:=(o2.out U1 (fun k hk=>by have:=M2 k hk;simp only [List.mem_singleton];omega)).out U2 (fun k hk=>by have:=L2 k hk;simp only [List.mem_singleton];omega)
   have K3:=(o3.out U1 (fun k hk=>by have:=M3 k hk;simp only [List.mem_singleton];omega)).out U2 (fun k hk=>by have:=L3 k hk;simp only [List.mem_singleton];omega)
   have K4:=(o4.out U1 (fun k hk=>by have:=g4 k hk;simp only [List.mem_singleton];omega)).out U2 (fun k hk=>by have:=g4 k hk;simp only [List.mem_singleton];omega)
   have HR:Hid (InstQ.e ⟨true,.slice s4 qt.length t4,qt,.slice s2 qrs.length t2,qrs,.slice s3 qds.length t3,qds⟩=E∧(instK.foot ⟨true,.slice s4 qt.length t4,qt,.slice s2 qrs.length t2,qrs,.slice s3 qds.length t3,qds⟩).Nodup∧∀ k∈instK.foot ⟨true,.slice s4 qt.length t4,qt,.slice s2 qrs.length t2,qrs,.slice s3 qds.length t3,qds⟩,w.heap.size≤k):=by
    refine ⟨?_,?_,?_⟩
    ·rw [E1.out.2,HQE.out.1,← HQE.out.2]
     simp only [InstQ.e,e4]
    ·refine List.nodup_append.2 ⟨n4,hn23,fun x hx y hy e=>?_⟩
     have:=g4 x hx
     rcases List.mem_append.1 hy with hy | hy
     ·have:=M2 y hy;omega
     ·have:=M3 y hy;omega
    ·intro k hk
     rcases List.mem_append.1 hk with hk | hk
     ·have:=g4 k hk;omega
     ·rcases List.mem_append.1 hk with hk | hk
      ·have:=L2 k hk;omega
      ·have:=L3 k hk;omega
   have HD0:Hid (D=0):=E1.out.1
   obtain ⟨k0,k1,k2,k3⟩:=Gz.cel4
   have kf:=Gz.frozen 1
   clear hin e4 o4 n4 g4 hb4 o2 o3 M2 M3 L2 L3 hn23 U1 U2 E1 HQE hbA Gz G5 Rb
   go_wp2_with (first | (refine st_row (by kernel_rfl) 88 _ _ rfl _ #[.int .i64 0,.int .i64 0,.bool false,.bool false,.int .i64 0,.bool true,.slice s4 qt.length t4,.slice s2 qrs.length t2,.slice s3 qds.length t3] rfl rfl 88 _ R5 hsr rfl (by simp [Value.oneCell']) ?_))
   obtain ⟨q0,q1,q2,q3,q4,q5,q6,q7,q8⟩:=Rr.cel9
   exact bodyPost_ret (v:=.agg #[.int .i64 0,.int .i64 0,.bool false,.bool false,.int .i64 0,.bool true,.slice s4 qt.length t4,.slice s2 qrs.length t2,.slice s3 qds.length t3]) (by simp [results,Tryz.results51,go_sem,q0,q1,q2,q3,q4,q5,q6,q7,q8]) rfl ⟨⟨true,.slice s4 qt.length t4,qt,.slice s2 qrs.length t2,qrs,.slice s3 qds.length t3,qds⟩,by rw [HD0.out],HR.out.1,⟨K4,K2,K3⟩,HR.out.2.1,HR.out.2.2,hBr⟩

end Go.Proofs.YtnnenkoeklabpaaGreatDoor
namespace Go.Proofs.YtnnenkoeklabpaaGreatDoor
open Go.RowKit
open Go.BigFrame
set_option maxRecDepth 100000
/-- A report, a proposal that is laid in a round. -/
def rstR (rs:List RoundE) (r n:Nat) (v:Int):List RoundE:=rs.set r ⟨(rs.getD r rnd0).rep.set n v,(rs.getD r rnd0).pro⟩

def rstP (rs:List RoundE) (r n:Nat) (v:Int):List RoundE:=rs.set r ⟨(rs.getD r rnd0).rep,(rs.getD r rnd0).pro.set n v⟩

theorem rstR_length (rs:List RoundE) (r n:Nat) (v:Int):(rstR rs r n v).length=rs.length:=by simp [rstR]

theorem rstP_length (rs:List RoundE) (r n:Nat) (v:Int):(rstP rs r n v).length=rs.length:=by simp [rstP]

/-- The same in memory. -/
def InstQ.setP (q:InstQ) (r n:Nat) (x:Int) (hr:r < q.rounds.length):InstQ:=⟨q.has,q.vb,q.batch,q.vr,q.rounds.set r ⟨q.rounds[r].vr,q.rounds[r].rep,q.rounds[r].vp,q.rounds[r].pro.set n x⟩,q.vd,q.dec⟩

def InstQ.setR (q:InstQ) (r n:Nat) (x:Int) (hr:r < q.rounds.length):InstQ:=⟨q.has,q.vb,q.batch,q.vr,q.rounds.set r ⟨q.rounds[r].vr,q.rounds[r].rep.set n x,q.rounds[r].vp,q.rounds[r].pro⟩,q.vd,q.dec⟩

def InstQ.setD (q:InstQ) (n:Nat) (x:Int):InstQ:=⟨q.has,q.vb,q.batch,q.vr,q.rounds,q.vd,q.dec.set n x⟩

theorem getD_mapE (qs:List RoundQ) (r:Nat) (hr:r < qs.length):(qs.map RoundQ.e).getD r rnd0=qs[r].e:=by simp [List.getD,hr]

theorem setP_e (q:InstQ) (r n:Nat) (x:Int) (hr:r < q.rounds.length):(q.setP r n x hr).e=⟨q.e.has,q.e.batch,rstP q.e.rounds r n x,q.e.dec⟩:=by
 show InstE.mk _ _ _ _=_
 unfold rstP
 rw [show q.e.rounds=q.rounds.map RoundQ.e from rfl,getD_mapE _ _ hr]
 simp only [InstQ.setP,List.map_set]
 rfl

theorem setR_e (q:InstQ) (r n:Nat) (x:Int) (hr:r < q.rounds.length):(q.setR r n x hr).e=⟨q.e.has,q.e.batch,rstR q.e.rounds r n x,q.e.dec⟩:=by
 show InstE.mk _ _ _ _=_
 unfold rstR
 rw [show q.e.rounds=q.rounds.map RoundQ.e from rfl,getD_mapE _ _ hr]
 simp only [InstQ.setR,List.map_set]
 rfl

theorem setD_e (q:InstQ) (n:Nat) (x:Int):(q.setD n x).e=⟨q.e.has,q.e.batch,q.e.rounds,q.e.dec.set n x⟩:=rfl

theorem intK_foot (zs:List Int):zs.flatMap intK.foot=[]:=by
 rw [List.flatMap_eq_nil_iff]
 intro _ _
 rfl

theorem own_int_set {w:World} {g n cap k:Nat} {zs:List Int} (h:intK.Own w (.slice (some ⟨g,0,none⟩) n cap) zs) (hk:k < zs.length) (x:Int) :
  intK.Own (w.setCell ⟨g,k,none⟩ (iv x)) (.slice (some ⟨g,0,none⟩) n cap) (zs.set k x)∧w.cell? ⟨g,k,none⟩=some (iv zs[k])∧w.frozen? ⟨g,k,none⟩=false:=by
 have hnd:(intK.fp (.slice (some ⟨g,0,none⟩) n cap) zs).Nodup:=intK_nodup _ _
 have h1:=(h.store hnd k hk x 0 (iv x) (by show 0 < 1;omega) rfl rfl (fun _ _=>trivial)).1
 have h2:=h.cell k hk 0 (iv zs[k]) rfl
 have e:k * intK.size + 0=k:=by show k * 1 + 0=k;omega
 rw [e] at h1 h2
 exact ⟨h1,h2⟩

theorem fp_int {g n cap:Nat} (zs:List Int):intK.fp (.slice (some ⟨g,0,none⟩) n cap) zs=[g]:=by
 simp [Kind.fp,intK_foot,blk,Value.ownBlock]

theorem nodup_flat {A B:Type} {f:A→List B} {l:List A} (h:(l.flatMap f).Nodup) {a:A} (ha:a∈l):(f a).Nodup:=by
 induction l with
 | nil=>simp at ha
 | cons x t ih=>
  rw [List.flatMap_cons,List.nodup_append] at h
  rcases List.mem_cons.1 ha with rfl | ha
  ·exact h.1
  ·exact ih h.2.1 ha

theorem own_setP {w:World} {q:InstQ} (h:instK.own w q) (hnd:(instK.foot q).Nodup) (r n:Nat) (hr:r < q.rounds.length) (hn:n < q.rounds[r].pro.length) (x:Int) :
  ∃ g cap,q.rounds[r].vp=.slice (some ⟨g,0,none⟩) q.rounds[r].pro.length cap∧g∈instK.foot q∧w.cell? ⟨g,n,none⟩=some (iv q.rounds[r].pro[n])∧w.frozen? ⟨g,n,none⟩=false ∧
   instK.own (w.setCell ⟨g,n,none⟩ (iv x)) (q.setP r n x hr)∧instK.foot (q.setP r n x hr)=instK.foot q:=by
 obtain ⟨o1,o2,o3⟩:=h
 obtain ⟨hn1,hn23,hd1⟩:=List.nodup_append.1 hnd
 obtain ⟨hn2,hn3,hd2⟩:=List.nodup_append.1 hn23
 have hmem:=o2.2 _ (List.getElem_mem hr)
 obtain ⟨oR,oP⟩:=hmem
 obtain ⟨a,cap,hv⟩:=oP.shape
 rw [hv] at oP
 obtain ⟨g,rfl⟩:=oP.blkOf (by omega)
 obtain ⟨k1,k2,k3⟩:=own_int_set oP hn x
 have hgP:g∈roundK.foot q.rounds[r]:=List.mem_append_right _ (by rw [hv,fp_int];simp)
 have hg2:g∈roundK.fp q.vr q.rounds:=List.mem_append_right _ (List.mem_flatMap.2 ⟨_,List.getElem_mem hr,hgP⟩)
 have hg:g∈instK.foot q:=List.mem_append_right _ (List.mem_append_left _ hg2)
 have hU:=Out.setCell w g n (iv x)
 have hfr:(roundK.foot q.rounds[r]).Nodup:=nodup_flat (List.nodup_append.1 hn2).2.1 (List.getElem_mem hr)
 have hRP:∀ k∈intK.fp q.rounds[r].vr q.rounds[r].rep,k ∉ [g]:=fun k hk hk' => by
  simp only [List.mem_singleton] at hk'
  subst hk'
  have:=(List.nodup_append.1 hfr).2.2 k hk k (by rw [hv,fp_int];simp)
  exact this rfl
 have ht:=o2.turn hn2 r hr ⟨q.rounds[r].vr,q.rounds[r].rep,q.rounds[r].vp,q.rounds[r].pro.set n x⟩ hU (fun k hk=>by simp only [List.mem_singleton] at hk;rw [hk];exact hgP) rfl (by show intK.fp _ _ ++ intK.fp _ _=intK.fp _ _ ++ intK.fp _ _;rw [hv,fp_int,fp_int]) ⟨oR.out hU hRP,by rw [hv];exact k1⟩
 refine ⟨g,cap,hv,hg,k2,k3,⟨o1.out hU (fun k hk hk' => ?_),ht.1,o3.out hU (fun k hk hk' => ?_)⟩,?_⟩
 ·simp only [List.mem_singleton] at hk'
  subst hk'
  exact hd1 k hk k (List.mem_append_left _ hg2) rfl
 ·simp only [List.mem_singleton] at hk'
  subst hk'
  exact hd2 k hg2 k hk rfl
 ·show txnK.fp _ _ ++ (roundK.fp _ _ ++ intK.fp _ _)=_
  rw [show (q.setP r n x hr).rounds=q.rounds.set r ⟨q.rounds[r].vr,q.rounds[r].rep,q.rounds[r].vp,q.rounds[r].pro.set n x⟩ from rfl]
  rw [show (q.setP r n x hr).vr=q.vr from rfl,ht.2]
  rfl

theorem own_setR {w:World} {q:InstQ} (h:instK.own w q) (hnd:(instK.foot q).Nodup) (r n:Nat) (hr:r < q.rounds.length) (hn:n < q.rounds[r].rep.length) (x:Int) :
  ∃ g cap,q.rounds[r].vr=.slice (some ⟨g,0,none⟩) q.rounds[r].rep.length cap∧g∈instK.foot q∧w.cell? ⟨g,n,none⟩=some (iv q.rounds[r].rep[n])∧w.frozen? ⟨g,n,none⟩=false ∧
   instK.own (w.setCell ⟨g,n,none⟩ (iv x)) (q.setR r n x hr)∧instK.foot (q.setR r n x hr)=instK.foot q:=by
 obtain ⟨o1,o2,o3⟩:=h
 obtain ⟨hn1,hn23,hd1⟩:=List.nodup_append.1 hnd
 obtain ⟨hn2,hn3,hd2⟩:=List.nodup_append.1 hn23
 have hmem:=o2.2 _ (List.getElem_mem hr)
 obtain ⟨oR,oP⟩:=hmem
 obtain ⟨a,cap,hv⟩:=oR.shape
 rw [hv] at oR
 obtain ⟨g,rfl⟩:=oR.blkOf (by omega)
 obtain ⟨k1,k2,k3⟩:=own_int_set oR hn x
 have hgR:g∈roundK.foot q.rounds[r]:=List.mem_append_left _ (by rw [hv,fp_int];simp)
 have hg2:g∈roundK.fp q.vr q.rounds:=List.mem_append_right _ (List.mem_flatMap.2 ⟨_,List.getElem_mem hr,hgR⟩)
 have hg:g∈instK.foot q:=List.mem_append_right _ (List.mem_append_left _ hg2)
 have hU:=Out.setCell w g n (iv x)
 have hfr:(roundK.foot q.rounds[r]).Nodup:=nodup_flat (List.nodup_append.1 hn2).2.1 (List.getElem_mem hr)
 have hRP:∀ k∈intK.fp q.rounds[r].vp q.rounds[r].pro,k ∉ [g]:=fun k hk hk' => by
  simp only [List.mem_singleton] at hk'
  subst hk'
  have:=(List.nodup_append.1 hfr).2.2 k (by rw [hv,fp_int];simp) k hk
  exact this rfl
 have ht:=o2.turn hn2 r hr ⟨q.rounds[r].vr,q.rounds[r].rep.set n x,q.rounds[r].vp,q.rounds[r].pro⟩ hU (fun k hk=>by simp only [List.mem_singleton] at hk;rw [hk];exact hgR) rfl (by show intK.fp _ _ ++ intK.fp _ _=intK.fp _ _ ++ intK.fp _ _;rw [hv,fp_int,fp_int]) ⟨by rw [hv];exact k1,oP.out hU hRP⟩
 refine ⟨g,cap,hv,hg,k2,k3,⟨o1.out hU (fun k hk hk' => ?_),ht.1,o3.out hU (fun k hk hk' => ?_)⟩,?_⟩
 ·simp only [List.mem_singleton] at hk'
  subst hk'
  exact hd1 k hk k (List.mem_append_left _ hg2) rfl
 ·simp only [List.mem_singleton] at hk'
  subst hk'
  exact hd2 k hg2 k hk rfl
 ·show txnK.fp _ _ ++ (roundK.fp _ _ ++ intK.fp _ _)=_
  rw [show (q.setR r n x hr).rounds=q.rounds.set r ⟨q.rounds[r].vr,q.rounds[r].rep.set n x,q.rounds[r].vp,q.rounds[r].pro⟩ from rfl]
  rw [show (q.setR r n x hr).vr=q.vr from rfl,ht.2]
  rfl

theorem own_setD {w:World} {q:InstQ} (h:instK.own w q) (hnd:(instK.foot q).Nodup) (n:Nat) (hn:n < q.dec.length) (x:Int) :
  ∃ g cap,q.vd=.slice (some ⟨g,0,none⟩) q.dec.length cap∧g∈instK.foot q∧w.cell? ⟨g,n,none⟩=some (iv q.dec[n])∧w.frozen? ⟨g,n,none⟩=false ∧
   instK.own (w.setCell ⟨g,n,none⟩ (iv x)) (q.setD n x)∧instK.foot (q.setD n x)=instK.foot q:=by
 obtain ⟨o1,o2,o3⟩:=h
 obtain ⟨hn1,hn23,hd1⟩:=List.nodup_append.1 hnd
 obtain ⟨hn2,hn3,hd2⟩:=List.nodup_append.1 hn23
 obtain ⟨a,cap,hv⟩:=o3.shape
 rw [hv] at o3
 obtain ⟨g,rfl⟩:=o3.blkOf (by omega)
 obtain ⟨k1,k2,k3⟩:=own_int_set o3 hn x
 have hg3:g∈intK.fp q.vd q.dec:=by rw [hv,fp_int];simp
 have hg:g∈instK.foot q:=List.mem_append_right _ (List.mem_append_right _ hg3)
 have hU:=Out.setCell w g n (iv x)
 refine ⟨g,cap,hv,hg,k2,k3,⟨o1.out hU (fun k hk hk' => ?_),o2.out hU (fun k hk hk' => ?_),?_⟩,?_⟩
 ·simp only [List.mem_singleton] at hk'
  subst hk'
  exact hd1 k hk k (List.mem_append_right _ hg3) rfl
 ·simp only [List.mem_singleton] at hk'
  subst hk'
  exact hd2 k hk k hg3 rfl
 ·show intK.Own _ q.vd _
  rw [hv]
  exact k1
 ·show txnK.fp _ _ ++ (roundK.fp _ _ ++ intK.fp q.vd _)=txnK.fp _ _ ++ (roundK.fp _ _ ++ intK.fp q.vd _)
  rw [hv,fp_int,fp_int]
  rfl

end Go.Proofs.YtnnenkoeklabpaaGreatDoor
namespace Go.Proofs.YtnnenkoeklabpaaGreatDoor
open Go.RowKit
open Go.BigFrame
set_option maxRecDepth 100000
/-- The code for who says something. -/
def atC (x:InstE) (node round:Int):Int:=if insF x=0 then (if inB node 0 2 && inB round 0 ((x.rounds.length:Int) - 1) then 0 else 3) else insF x

theorem at_zero {x:InstE} {node round:Int} (h:atC x node round=0):insF x=0∧∃ n r:Nat,node=(n:Int)∧round=(r:Int)∧n < 3∧r < x.rounds.length:=by
 unfold atC at h
 by_cases h0:insF x=0
 ·rw [if_pos h0] at h
  by_cases h1:(inB node 0 2 && inB round 0 ((x.rounds.length:Int) - 1))=true
  ·rw [Bool.and_eq_true] at h1
   obtain ⟨h1,h2⟩:=h1
   unfold inB at h1 h2
   rw [decide_eq_true_eq] at h1 h2
   exact ⟨h0,node.toNat,round.toNat,by omega,by omega,by omega,by omega⟩
  ·rw [if_neg h1] at h
   exact absurd h (by decide)
 ·rw [if_neg h0] at h
  exact absurd h h0

end Go.Proofs.YtnnenkoeklabpaaGreatDoor
namespace Go.Proofs.YtnnenkoeklabpaaGreatDoor
open Go.RowKit
open Go.BigFrame
set_option maxRecDepth 100000
/-- Propose, plainly: its code, and its instance. -/
def prC (x:InstE) (node round mask:Int):Int:=if atC x node round=0 then (if proA x.rounds round.toNat node.toNat=3 then (if repA x.rounds round.toNat node.toNat=3 then 8 else pfC (x.rounds.getD round.toNat rnd0).rep mask) else 6) else atC x node round

def prI (x:InstE) (node round mask:Int):InstE:=if prC x node round mask=0 then ⟨x.has,x.batch,rstP x.rounds round.toNat node.toNat (pfV (x.rounds.getD round.toNat rnd0).rep mask),x.dec⟩ else ine0

theorem pr_facts (x:InstE) (node round mask:Int):(atC x node round≠0→prC x node round mask=atC x node round∧prI x node round mask=ine0) ∧
  (atC x node round=0→insF x=0∧∃ n r:Nat,node=(n:Int)∧round=(r:Int)∧n < 3∧r < x.rounds.length ∧
   (proA x.rounds r n≠3→prC x node round mask=6∧prI x node round mask=ine0) ∧
   (proA x.rounds r n=3→repA x.rounds r n=3→prC x node round mask=8∧prI x node round mask=ine0) ∧
   (proA x.rounds r n=3→repA x.rounds r n≠3→pfC (x.rounds.getD r rnd0).rep mask≠0→prC x node round mask=pfC (x.rounds.getD r rnd0).rep mask∧prI x node round mask=ine0) ∧
   (proA x.rounds r n=3→repA x.rounds r n≠3→pfC (x.rounds.getD r rnd0).rep mask=0→prC x node round mask=0∧prI x node round mask=⟨x.has,x.batch,rstP x.rounds r n (pfV (x.rounds.getD r rnd0).rep mask),x.dec⟩)):=by
 have hne:∀ c,prC x node round mask=c→c≠0→prI x node round mask=ine0:=fun c hc h0=>if_neg (by rw [hc];exact h0)
 refine ⟨fun h0=>?_,fun h0=>?_⟩
 ·have e:prC x node round mask=atC x node round:=if_neg h0
  exact ⟨e,hne _ e h0⟩
 ·obtain ⟨hi,n,r,rfl,rfl,hn,hr⟩:=at_zero h0
  refine ⟨hi,n,r,rfl,rfl,hn,hr,fun h1=>?_,fun h1 h2=>?_,fun h1 h2 h3=>?_,fun h1 h2 h3=>?_⟩
  ·have e:prC x n r mask=6:=by unfold prC;rw [if_pos h0,Int.toNat_natCast,Int.toNat_natCast,if_neg h1]
   exact ⟨e,hne _ e (by decide)⟩
  ·have e:prC x n r mask=8:=by unfold prC;rw [if_pos h0,Int.toNat_natCast,Int.toNat_natCast,if_pos h1,if_pos h2]
   exact ⟨e,hne _ e (by decide)⟩
  ·have e:prC x n r mask=pfC (x.rounds.getD r rnd0).rep mask:=by unfold prC;rw [if_pos h0,Int.toNat_natCast,Int.toNat_natCast,if_pos h1,if_neg h2]
   exact ⟨e,hne _ e h3⟩
  ·have e:prC x n r mask=0:=by unfold prC;rw [if_pos h0,Int.toNat_natCast,Int.toNat_natCast,if_pos h1,if_neg h2,h3]
   exact ⟨e,by unfold prI;rw [if_pos e,Int.toNat_natCast,Int.toNat_natCast]⟩

end Go.Proofs.YtnnenkoeklabpaaGreatDoor
namespace Go.Proofs.YtnnenkoeklabpaaGreatDoor
open Go.RowKit
open Go.BigFrame
set_option maxRecDepth 100000
theorem cellB {w w' : World} {b o:Nat} {v:Value} (h:w.cell? ⟨b,o,none⟩=some v) (hb:Below w.heap.size w w'):w'.cell? ⟨b,o,none⟩=some v:=by
 have hlt:b < w.heap.size:=by
  rcases Nat.lt_or_ge b w.heap.size with h1 | h1
  ·exact h1
  ·exfalso
   have:w.heap[b]? = none:=Array.getElem?_eq_none h1
   simp [World.cell?,this] at h
 rw [hb.cell (p:=⟨b,o,none⟩) hlt]
 exact h

theorem l6Node_any (node:Int) (w:World) :
  Calls Tryz.prog 73 #[.int .i64 node] w fun e w' => e=.returned (.bool (inB node 0 2))∧w' = w:=by
 go_enter Tryz.func73,Tryz.ntmps73
 go_wp2_with (go_at_call 70;refine (l1In_any _ _ _ _).mono ?_;rintro e w' ⟨rfl,rfl⟩)
 go_ret
 exact ⟨rfl,rfl⟩

set_option maxHeartbeats 1000000 in
theorem l6Asked_any (b o:Nat) (p:InstQ) (node round:Int) (w:World) (hP:InstP w b o p) (h4:p.rounds.length≤4) :
  Calls Tryz.prog 77 #[.pointer (some ⟨b,o,none⟩),.int .i64 node,.int .i64 round] w fun e w' => e=.returned (.bool (inB node 0 2 && inB round 0 ((p.rounds.length:Int) - 1)))∧Below w.heap.size w w' := by
 have hB:Below w.heap.size w w:=Below.refl _ _
 obtain ⟨has,vb,batch,vr,rounds,vd,dec⟩:=p
 obtain ⟨va,vk,rfl⟩:∃ a c,vr=.slice a rounds.length c:=hP.rounds.shape
 obtain ⟨c0,c1,c2,c3⟩:=hP.box
 dsimp only at c0 c1 c2 c3 h4
 cases hN:inB node 0 2 with
 | false=>
  go_enter Tryz.func77,Tryz.ntmps77
  go_wp2_with (first | (go_at_call 73;refine (l6Node_any _ _).mono ?_;rintro e w' ⟨rfl,rfl⟩) | (go_at_call 70;refine (l1In_any _ _ _ _).mono ?_;rintro e w' ⟨rfl,rfl⟩))
  go_ret
  exact ⟨by simp,hB⟩
 | true=>
  go_enter Tryz.func77,Tryz.ntmps77
  go_wp2_with (first | (go_at_call 73;refine (l6Node_any _ _).mono ?_;rintro e w' ⟨rfl,rfl⟩) | (go_at_call 70;refine (l1In_any _ _ _ _).mono ?_;rintro e w' ⟨rfl,rfl⟩))
  go_ret
  exact ⟨by simp,hB⟩

/-- The votes of a round, where they lie. -/
theorem inst_round {w:World} {b o:Nat} {p:InstQ} (hP:InstP w b o p) (r:Nat) (hr:r < p.rounds.length) (hF:rndsF p.e.rounds=0) :
  ∃ rb ro vk xb xo xc yb yo yc,p.vr=.slice (some ⟨rb,ro,none⟩) p.rounds.length vk∧w.cell? ⟨rb,ro + r * 2,none⟩=some (.slice (some ⟨xb,xo,none⟩) 3 xc)∧w.cell? ⟨rb,ro + r * 2 + 1,none⟩=some (.slice (some ⟨yb,yo,none⟩) 3 yc) ∧
   (∀ n,n < 3→w.cell? ⟨xb,xo + n,none⟩=some (.int .i64 (repA p.e.rounds r n)))∧(∀ n,n < 3→w.cell? ⟨yb,yo + n,none⟩=some (.int .i64 (proA p.e.rounds r n))) ∧
   Row .i64 w (some ⟨xb,xo,none⟩) (p.e.rounds.getD r rnd0).rep∧Row .i64 w (some ⟨yb,yo,none⟩) (p.e.rounds.getD r rnd0).pro:=by
 obtain ⟨va,vk,hv⟩:=hP.rounds.shape
 have hR:=hP.rounds
 rw [hv] at hR
 obtain ⟨rb,ro,hra,hbs,hc,hrd⟩:=hR.cell (by decide) r hr
 have hc' : ∀ j x,(roundK.cells p.rounds[r])[j]? = some x→w.cell? ⟨rb,ro + r * 2 + j,none⟩=some x:=hc
 have r0:=hc' 0 (p.rounds[r].vr) rfl
 have r1:=hc' 1 (p.rounds[r].vp) rfl
 rw [Nat.add_zero] at r0
 have hat:p.e.rounds.getD r rnd0=RoundQ.e p.rounds[r]:=rnd_at p.rounds r hr
 obtain ⟨hv1,hv2⟩:=rndsF_at hF r (by show r < (p.rounds.map RoundQ.e).length;rw [List.length_map];exact hr)
 have e1:(p.e.rounds.getD r rnd0).rep=p.rounds[r].rep:=by rw [hat];rfl
 have e2:(p.e.rounds.getD r rnd0).pro=p.rounds[r].pro:=by rw [hat];rfl
 rw [e1] at hv1
 rw [e2] at hv2
 obtain ⟨hA1,hA2⟩:intK.At w p.rounds[r].vr p.rounds[r].rep∧intK.At w p.rounds[r].vp p.rounds[r].pro:=hrd
 obtain ⟨xa,xc,xb,xo,hx,rfl,_,xRow⟩:=vf_row hA1 hv1 0 (by omega)
 obtain ⟨ya,yc,yb,yo,hy,rfl,_,yRow⟩:=vf_row hA2 hv2 0 (by omega)
 rw [hx] at r0
 rw [hy] at r1
 have cell:∀ (b o:Nat) (zs:List Int),zs.length=3→Row .i64 w (some ⟨b,o,none⟩) zs→∀ n,n < 3→w.cell? ⟨b,o + n,none⟩=some (.int .i64 (zs.getD n 0)):=fun b o zs hl hR n hn=>by
  obtain ⟨b',o',he,_,hcell⟩:=hR n (by omega)
  simp only [Option.some.injEq,Addr.mk.injEq,and_true] at he
  obtain ⟨rfl,rfl⟩:=he
  exact hcell
 refine ⟨rb,ro,vk,xb,xo,xc,yb,yo,yc,by rw [hv,hra],r0,r1,fun n hn=>?_,fun n hn=>?_,by rw [e1];exact xRow,by rw [e2];exact yRow⟩
 ·have:repA p.e.rounds r n=p.rounds[r].rep.getD n 0:=by unfold repA;rw [e1]
  rw [this]
  exact cell _ _ _ (vf_len hv1) xRow n hn
 ·have:proA p.e.rounds r n=p.rounds[r].pro.getD n 0:=by unfold proA;rw [e2]
  rw [this]
  exact cell _ _ _ (vf_len hv2) yRow n hn

theorem copy_len {p q:InstQ} (h:q.e=p.e) (hw:Wel p.e.rounds) (r:Nat) (hr:r < p.e.rounds.length):∃ hq:r < q.rounds.length,q.rounds[r].rep.length=3∧q.rounds[r].pro.length=3:=by
 have e:q.rounds.map RoundQ.e=p.e.rounds:=by rw [← h];rfl
 have hq:r < q.rounds.length:=by rw [← e,List.length_map] at hr;exact hr
 have:=wel_at hw r hr
 rw [← e,rnd_at _ _ hq] at this
 exact ⟨hq,this⟩

set_option maxHeartbeats 4000000 in
theorem l6Propose_any (b o:Nat) (p:InstQ) (node round mask:Int) (w:World) (hP:InstP w b o p) (hbw:b < w.heap.size) (hl:p.n≤1048576) (h0:insF p.e=0) :
  Calls Tryz.prog 53 #[.pointer (some ⟨b,o,none⟩),.int .i64 node,.int .i64 round,.int .i64 mask] w fun e w' => ∃ q:InstQ,e=.returned (.agg (resC (prC p.e node round mask) 0 false false 0 q))∧q.e=prI p.e node round mask∧instK.own w' q∧(instK.foot q).Nodup∧(∀ k∈instK.foot q,w.heap.size≤k)∧Below w.heap.size w w' := by
 obtain ⟨hne,hro,hd0⟩:=ins_low h0
 obtain ⟨hwel,⟨_,h4⟩,hd3,hF,_⟩:=ins_ok h0
 have hco:=fun w h=>l6Copy_any p w h hl hne hro hd0
 have h4' : p.rounds.length≤4:=by have:p.e.rounds.length=p.rounds.length:=List.length_map _;omega
 have hAs:=fun w' hP=>l6Asked_any b o p node round w' hP h4'
 have hIR:=fun (r:Nat) (hr:r < p.e.rounds.length)=>inst_round hP r (by have:p.e.rounds.length=p.rounds.length:=List.length_map _;omega) hF
 have hLE:=fun (q:InstQ) (hq:q.e=p.e) (r:Nat) (hr:r < p.e.rounds.length)=>copy_len hq hwel r hr
 have HF:=pr_facts p.e node round mask
 have HA:Hid (atC p.e node round=if inB node 0 2 && inB round 0 ((p.rounds.length:Int) - 1) then 0 else 3):=by
  have:p.e.rounds.length=p.rounds.length:=List.length_map _
  unfold atC
  rw [if_pos h0,this]
  exact (rfl:_=_)
 have hrl:p.e.rounds.length=p.rounds.length:=List.length_map _
 have HPE:Hid (∀ (q:InstQ),q.e=p.e→∀ r n v hq,(q.setP r n v hq).e=⟨p.e.has,p.e.batch,rstP p.e.rounds r n v,p.e.dec⟩):=fun q hq r n v hh=>by rw [setP_e,hq]
 generalize hAA:(inB node 0 2 && inB round 0 ((p.rounds.length:Int) - 1))=AA at *
 clear hAA hne hro hd0 hF h0
 generalize prC p.e node round mask=D at *
 generalize prI p.e node round mask=E at *
 generalize atC p.e node round=C at *
 replace HF:Hid _:=HF
 have hrd:=hP.rd
 have hrb:=fun (w' : World) hb=>instK.rd_below (w' := w') hrd hb
 have HRL:Hid (p.e.rounds.length=p.rounds.length):=hrl
 clear hrl
 generalize hpe:p.e=pe at *
 clear hpe
 obtain ⟨has,vb,batch,vr,rounds,vd,dec⟩:=p
 obtain ⟨ba,bk,rfl⟩:∃ a c,vb=.slice a batch.length c:=hrd.1.shape
 obtain ⟨va,vk,rfl⟩:∃ a c,vr=.slice a rounds.length c:=hrd.2.1.shape
 obtain ⟨da,dk,rfl⟩:∃ a c,vd=.slice a dec.length c:=hrd.2.2.shape
 dsimp only at hco hrb h4' hAs hIR HRL HA
 have hB:Below w.heap.size w (w.alloc (.cells #[.int .i64 0,.int .i64 0,.bool false,.bool false,.int .i64 0,.bool false,.slice none 0 0,.slice none 0 0,.slice none 0 0] 88)):=by go_grown
 have Rb:=Blk.new w 88 #[.int .i64 0,.int .i64 0,.bool false,.bool false,.int .i64 0,.bool false,.slice none 0 0,.slice none 0 0,.slice none 0 0]
 go_enter Tryz.func53,Tryz.ntmps53
 go_wp2_with fail
 generalize w.alloc (.cells #[.int .i64 0,.int .i64 0,.bool false,.bool false,.int .i64 0,.bool false,.slice none 0 0,.slice none 0 0,.slice none 0 0] 88)=W at *
 refine (hAs W (hP.below hB)).mono ?_
 rintro e w1 ⟨rfl,hb1⟩
 replace Rb:=Rb.below hb1
 replace hB:=hB.trans (hb1.mono hB.size)
 clear hb1 hAs
 cases AA with
 | false=>
  have hC:C=3:=HA.out
  have E1:Hid (D=3∧E=ine0):=by
   obtain ⟨h1,h2⟩:=HF.out.1 (by rw [hC];decide)
   exact ⟨h1.trans hC,h2⟩
  clear HF hIR hLE hco hC HA
  go_wp2_with fail
  refine (l6Bad_any 3 _).mono ?_
  rintro e w8 ⟨rfl,hb8⟩
  replace hB:=hB.trans (hb8.mono hB.size)
  replace Rb:=Rb.below hb8
  clear hb8
  have Rr:=Rb.row #[.int .i64 3,.int .i64 0,.bool false,.bool false,.int .i64 0,.bool false,.slice none 0 0,.slice none 0 0,.slice none 0 0]
  have hBr:=below_row hB (g:=w.heap.size) (by omega) #[.int .i64 3,.int .i64 0,.bool false,.bool false,.int .i64 0,.bool false,.slice none 0 0,.slice none 0 0,.slice none 0 0]
  have hsr:(Tryz.prog.info? 88).map (·.size)=some (#[.int .i64 3,.int .i64 0,.bool false,.bool false,.int .i64 0,.bool false,.slice none 0 0,.slice none 0 0,.slice none 0 0]:Array Value).size:=sz_res
  go_wp2_with (first | (refine st_row (by kernel_rfl) 88 _ _ rfl _ #[.int .i64 3,.int .i64 0,.bool false,.bool false,.int .i64 0,.bool false,.slice none 0 0,.slice none 0 0,.slice none 0 0] rfl rfl 88 _ Rb hsr rfl (by simp [Value.oneCell']) ?_))
  obtain ⟨q0,q1,q2,q3,q4,q5,q6,q7,q8⟩:=Rr.cel9
  exact bodyPost_ret (v:=.agg #[.int .i64 3,.int .i64 0,.bool false,.bool false,.int .i64 0,.bool false,.slice none 0 0,.slice none 0 0,.slice none 0 0]) (by simp [results,Tryz.results53,go_sem,q0,q1,q2,q3,q4,q5,q6,q7,q8]) rfl ⟨inst0,by rw [E1.out.1];rfl,E1.out.2.symm,inst0_own _,inst0_nd,fun k hk=>by rw [inst0_ft] at hk;simp at hk,hBr⟩

 | true=>
  have hC:C=0:=HA.out
  obtain ⟨hi0,n,r,rfl,rfl,hn,hr,f6,f8,fP,f0⟩:=HF.out.2 hC
  have F6:Hid _:=f6
  have F8:Hid _:=f8
  have FP:Hid _:=fP
  have F0:Hid _:=f0
  clear hi0 f6 f8 fP f0 HF hC HA
  obtain ⟨rb,ro,vk',xb,xo,xc,yb,yo,yc,hvr,k0,k1,kx,ky,Rx,Ry⟩:=hIR r hr
  simp only [Value.slice.injEq,true_and] at hvr
  obtain ⟨rfl,rfl⟩:=hvr
  replace kx:=kx n hn
  replace ky:=ky n hn
  replace k0:=cellB k0 hB
  replace k1:=cellB k1 hB
  replace kx:=cellB kx hB
  replace ky:=cellB ky hB
  have hPW:=hP.below hB
  obtain ⟨c0,c1,c2,c3⟩:=hPW.box
  dsimp only at c0 c1 c2 c3
  have hr4:(r:Int) < rounds.length:=by have:=HRL.out;omega
  have hn3:(n:Int) < 3:=by omega
  have hl1:=(wel_at hwel r hr).1
  have hsp:=fun a c w (hR:Row .i64 w a (pe.rounds.getD r rnd0).rep)=>specProp_any a c (pe.rounds.getD r rnd0).rep mask w hR (by omega)
  rw [hl1] at hsp
  generalize pfC (pe.rounds.getD r rnd0).rep mask=PC at *
  generalize pfV (pe.rounds.getD r rnd0).rep mask=PV at *
  generalize hpr:proA pe.rounds r n=PP at *
  generalize hre:repA pe.rounds r n=RE at *
  clear hIR hpr hre hl1
  by_cases hp3:PP=3
  case neg=>
   have E1:Hid (D=6∧E=ine0):=F6.out hp3
   have hq:(PP != 3)=true:=by simpa using hp3
   clear F6 F8 FP F0 hp3 hLE hco hsp
   go_wp2_with fail
   refine (l6Bad_any 6 _).mono ?_
   rintro e w8 ⟨rfl,hb8⟩
   replace hB:=hB.trans (hb8.mono hB.size)
   replace Rb:=Rb.below hb8
   clear hb8
   have Rr:=Rb.row #[.int .i64 6,.int .i64 0,.bool false,.bool false,.int .i64 0,.bool false,.slice none 0 0,.slice none 0 0,.slice none 0 0]
   have hBr:=below_row hB (g:=w.heap.size) (by omega) #[.int .i64 6,.int .i64 0,.bool false,.bool false,.int .i64 0,.bool false,.slice none 0 0,.slice none 0 0,.slice none 0 0]
   have hsr:(Tryz.prog.info? 88).map (·.size)=some (#[.int .i64 6,.int .i64 0,.bool false,.bool false,.int .i64 0,.bool false,.slice none 0 0,.slice none 0 0,.slice none 0 0]:Array Value).size:=sz_res
   go_wp2_with (first | (refine st_row (by kernel_rfl) 88 _ _ rfl _ #[.int .i64 6,.int .i64 0,.bool false,.bool false,.int .i64 0,.bool false,.slice none 0 0,.slice none 0 0,.slice none 0 0] rfl rfl 88 _ Rb hsr rfl (by simp [Value.oneCell']) ?_))
   obtain ⟨q0,q1,q2,q3,q4,q5,q6,q7,q8⟩:=Rr.cel9
   exact bodyPost_ret (v:=.agg #[.int .i64 6,.int .i64 0,.bool false,.bool false,.int .i64 0,.bool false,.slice none 0 0,.slice none 0 0,.slice none 0 0]) (by simp [results,Tryz.results53,go_sem,q0,q1,q2,q3,q4,q5,q6,q7,q8]) rfl ⟨inst0,by rw [E1.out.1];rfl,E1.out.2.symm,inst0_own _,inst0_nd,fun k hk=>by rw [inst0_ft] at hk;simp at hk,hBr⟩

  case pos=>
   have hq:(PP != 3)=false:=by rw [hp3];rfl
   by_cases hp4:RE=3
   case pos=>
    have E1:Hid (D=8∧E=ine0):=F8.out hp3 hp4
    have hq4:(RE == 3)=true:=by rw [hp4];rfl
    clear F6 F8 FP F0 hp3 hp4 hLE hco hsp
    go_wp2_with fail
    refine (l6Bad_any 8 _).mono ?_
    rintro e w8 ⟨rfl,hb8⟩
    replace hB:=hB.trans (hb8.mono hB.size)
    replace Rb:=Rb.below hb8
    clear hb8
    have Rr:=Rb.row #[.int .i64 8,.int .i64 0,.bool false,.bool false,.int .i64 0,.bool false,.slice none 0 0,.slice none 0 0,.slice none 0 0]
    have hBr:=below_row hB (g:=w.heap.size) (by omega) #[.int .i64 8,.int .i64 0,.bool false,.bool false,.int .i64 0,.bool false,.slice none 0 0,.slice none 0 0,.slice none 0 0]
    have hsr:(Tryz.prog.info? 88).map (·.size)=some (#[.int .i64 8,.int .i64 0,.bool false,.bool false,.int .i64 0,.bool false,.slice none 0 0,.slice none 0 0,.slice none 0 0]:Array Value).size:=sz_res
    go_wp2_with (first | (refine st_row (by kernel_rfl) 88 _ _ rfl _ #[.int .i64 8,.int .i64 0,.bool false,.bool false,.int .i64 0,.bool false,.slice none 0 0,.slice none 0 0,.slice none 0 0] rfl rfl 88 _ Rb hsr rfl (by simp [Value.oneCell']) ?_))
    obtain ⟨q0,q1,q2,q3,q4,q5,q6,q7,q8⟩:=Rr.cel9
    exact bodyPost_ret (v:=.agg #[.int .i64 8,.int .i64 0,.bool false,.bool false,.int .i64 0,.bool false,.slice none 0 0,.slice none 0 0,.slice none 0 0]) (by simp [results,Tryz.results53,go_sem,q0,q1,q2,q3,q4,q5,q6,q7,q8]) rfl ⟨inst0,by rw [E1.out.1];rfl,E1.out.2.symm,inst0_own _,inst0_nd,fun k hk=>by rw [inst0_ft] at hk;simp at hk,hBr⟩

   case neg=>
    have F1:Hid ((PC≠0→D=PC∧E=ine0)∧(PC=0→D=0∧E=⟨pe.has,pe.batch,rstP pe.rounds r n PV,pe.dec⟩)):=⟨FP.out hp3 hp4,F0.out hp3 hp4⟩
    have hq4:(RE == 3)=false:=by simpa using hp4
    clear F6 F8 FP F0 hp3 hp4
    go_wp2_with fail
    clear hq hq4 kx ky k0 k1 c0 c1 c2 c3
    refine (hsp _ _ w1 (Rx.below hB)).mono ?_
    rintro e w2 ⟨rfl,hb2⟩
    have hbA:Below w2.heap.size w2 (w2.alloc (.cells #[.int .i64 PC,.int .i64 PV] 31)):=by go_grown
    have BI:=Blk.new w2 31 #[.int .i64 PC,.int .i64 PV]
    have h12:w.heap.size < w2.heap.size:=(Rb.below hb2).lt
    replace Rb:=(Rb.below hb2).below hbA
    replace hB:=hB.trans (hb2.mono hB.size)
    replace hB:=hB.trans (hbA.mono hB.size)
    clear hb2 hsp hbA hPW
    by_cases hpc:PC=0
    case neg=>
     have E1:Hid (D=PC∧E=ine0):=F1.out.1 hpc
     have h0' : (PC != 0)=true:=by simpa using hpc
     clear F1 hpc hLE hco
     go_wp2_with fail
     refine (l6Bad_any PC _).mono ?_
     rintro e w8 ⟨rfl,hb8⟩
     replace hB:=hB.trans (hb8.mono hB.size)
     replace Rb:=Rb.below hb8
     clear hb8
     have Rr:=Rb.row #[.int .i64 PC,.int .i64 0,.bool false,.bool false,.int .i64 0,.bool false,.slice none 0 0,.slice none 0 0,.slice none 0 0]
     have hBr:=below_row hB (g:=w.heap.size) (by omega) #[.int .i64 PC,.int .i64 0,.bool false,.bool false,.int .i64 0,.bool false,.slice none 0 0,.slice none 0 0,.slice none 0 0]
     have hsr:(Tryz.prog.info? 88).map (·.size)=some (#[.int .i64 PC,.int .i64 0,.bool false,.bool false,.int .i64 0,.bool false,.slice none 0 0,.slice none 0 0,.slice none 0 0]:Array Value).size:=sz_res
     go_wp2_with (first | (refine st_row (by kernel_rfl) 88 _ _ rfl _ #[.int .i64 PC,.int .i64 0,.bool false,.bool false,.int .i64 0,.bool false,.slice none 0 0,.slice none 0 0,.slice none 0 0] rfl rfl 88 _ Rb hsr rfl (by simp [Value.oneCell']) ?_))
     obtain ⟨q0,q1,q2,q3,q4,q5,q6,q7,q8⟩:=Rr.cel9
     exact bodyPost_ret (v:=.agg #[.int .i64 PC,.int .i64 0,.bool false,.bool false,.int .i64 0,.bool false,.slice none 0 0,.slice none 0 0,.slice none 0 0]) (by simp [results,Tryz.results53,go_sem,q0,q1,q2,q3,q4,q5,q6,q7,q8]) rfl ⟨inst0,by rw [E1.out.1];rfl,E1.out.2.symm,inst0_own _,inst0_nd,fun k hk=>by rw [inst0_ft] at hk;simp at hk,hBr⟩

    case pos=>
     have E1:Hid (D=0∧E=⟨pe.has,pe.batch,rstP pe.rounds r n PV,pe.dec⟩):=F1.out.2 hpc
     subst hpc
     clear F1
     have hPW:=hP.below hB
     obtain ⟨c0,c1,c2,c3⟩:=hPW.box
     dsimp only at c0 c1 c2 c3
     go_wp2_with fail
     clear c0 c1 c2 c3
     generalize (w2.alloc (.cells #[.int .i64 0,.int .i64 PV] 31))=Y at *
     refine (hco Y (hrb Y hB)).mono ?_
     rintro e w3 ⟨q,rfl,eq,oq,nq,gq,hb3⟩
     have hY:=BI.lt
     replace Rb:=Rb.below hb3
     replace BI:=BI.below hb3
     replace hB:=hB.trans (hb3.mono hB.size)
     obtain ⟨hrq,_,hpq⟩:=hLE q eq r hr
     have HQE:=HPE.out q eq r n PV hrq
     have M:=instK.own_lt oq
     obtain ⟨qh,qb,qbs,qr,qrs,qd,qds⟩:=q
     obtain ⟨s1,t1,rfl⟩:∃ a c,qb=.slice a qbs.length c:=oq.1.shape
     obtain ⟨s2,t2,rfl⟩:∃ a c,qr=.slice a qrs.length c:=oq.2.1.shape
     obtain ⟨s3,t3,rfl⟩:∃ a c,qd=.slice a qds.length c:=oq.2.2.shape
     obtain ⟨gr,rfl⟩:=oq.2.1.blkOf (by exact Nat.lt_of_le_of_lt (Nat.zero_le _) hrq)
     have hbA:Below w3.heap.size w3 (w3.alloc (.cells #[.bool qh,.slice s1 qbs.length t1,.slice (some ⟨gr,0,none⟩) qrs.length t2,.slice s3 qds.length t3] 28)):=by go_grown
     have Gz:=Blk.new w3 28 #[.bool qh,.slice s1 qbs.length t1,.slice (some ⟨gr,0,none⟩) qrs.length t2,.slice s3 qds.length t3]
     replace Rb:=Rb.below hbA
     replace BI:=BI.below hbA
     replace hB:=hB.trans (hbA.mono hB.size)
     replace oq:=instK.own_out (F:=[]) oq (Out.of_below hbA) (fun _ _=>by simp)
     go_wp2_with fail
     generalize w3.alloc (.cells #[.bool qh,.slice s1 qbs.length t1,.slice (some ⟨gr,0,none⟩) qrs.length t2,.slice s3 qds.length t3] 28)=Y3 at *
     replace hrq:r < qrs.length:=hrq
     have hrq3:(r:Int) < qrs.length:=by omega
     obtain ⟨g5,cap5,hv5,hg5,kc,kf,own5,foot5⟩:=own_setP oq nq r n hrq (by show n < (qrs[r]).pro.length;have:(qrs[r]).pro.length=3:=hpq;omega) PV
     have hpl:(qrs[r]).pro.length=3:=hpq
     rw [show (InstQ.rounds (⟨qh,.slice s1 qbs.length t1,qbs,.slice (some ⟨gr,0,none⟩) qrs.length t2,qrs,.slice s3 qds.length t3,qds⟩:InstQ))[r]=qrs[r] from rfl,hpl] at hv5
     have hcr:=oq.2.1.cell r hrq 1 (.slice (some ⟨g5,0,none⟩) 3 cap5) (by show ([(qrs[r]).vr,(qrs[r]).vp]:List Value)[1]? = _;rw [← hv5];rfl)
     have hcr2:Y3.cell? ⟨gr,r * 2 + 1,none⟩=some (.slice (some ⟨g5,0,none⟩) 3 cap5):=hcr.1
     have hgr:gr≠g5:=by
      intro e
      have hn2:=(List.nodup_append.1 (List.nodup_append.1 nq).2.1).1
      have hx:=(List.nodup_append.1 hn2).2.2 gr (by simp [blk,Value.ownBlock]) g5 (List.mem_flatMap.2 ⟨qrs[r],List.getElem_mem hrq,List.mem_append_right _ (by rw [hv5,fp_int];simp)⟩)
      exact hx e
     have hg5l:Y.heap.size≤g5∧g5 < w3.heap.size:=⟨gq g5 hg5,M g5 hg5⟩
     have hYd:Below Y3.heap.size Y3 Y3.drew:=(Below.refl _ _).drew
     have z2:=lato_cell (F:=[g5]) (Gz.cell 2 _ rfl) (by simp only [List.mem_singleton];omega)
     have z1:=lato_cell (F:=[g5]) (BI.cell 1 _ rfl) (by simp only [List.mem_singleton];omega)
     have zr:=lato_cell (F:=[g5]) hcr2 (by simp only [List.mem_singleton];exact hgr)
     have hnn:Nonempty (LatO [g5] Y3):=⟨⟨Y3,Out.refl _ _⟩⟩
     have hS0:∃ u:LatO [g5] Y3,Y3.drew=u.val:=⟨⟨_,Out.of_below hYd⟩,rfl⟩
     refine text_begin (S:=fun w' => ∃ u:LatO [g5] Y3,w' = u.val) (by kernel_rfl) ?_
     refine sgr [(0,10)] 1 (by kernel_rfl) hS0 ?_
     simp only [pkE]
     repeat go_big_quiet_step (fail)
     refine wpQuiet_nil ?_
     refine ona 10 0 rfl (by kernel_rfl) ?_
     clear z2 z1 zr hcr hcr2 hgr
     have kc' : Y3.drew.cell? ⟨g5,n,none⟩=some _:=kc
     have kf' : Y3.drew.frozen? ⟨g5,n,none⟩=false:=kf
     have hUU:Out [g5] Y3 (Y3.drew.setCell ⟨g5,n,none⟩ (iv PV)):=(Out.of_below hYd).set (by simp)
     have hG5:Blk (Y3.drew.setCell ⟨g5,n,none⟩ (iv PV)) w3.heap.size 28 #[.bool qh,.slice s1 qbs.length t1,.slice (some ⟨gr,0,none⟩) qrs.length t2,.slice s3 qds.length t3]:=(Gz.below hYd).other (b' := g5) (by omega) n (iv PV)
     have R3:=(Rb.below hYd).other (b' := g5) (by omega) n (iv PV)
     have hBg:Below w.heap.size w (Y3.drew.setCell ⟨g5,n,none⟩ (iv PV)):=(hB.trans (hYd.mono hB.size)).setCell (p:=⟨g5,n,none⟩) (by show w.heap.size≤g5;omega) _
     have own6:instK.own (Y3.drew.setCell ⟨g5,n,none⟩ (iv PV)) (InstQ.setP (⟨qh,.slice s1 qbs.length t1,qbs,.slice (some ⟨gr,0,none⟩) qrs.length t2,qrs,.slice s3 qds.length t3,qds⟩:InstQ) r n PV hrq):=own5
     have L5:∀ k∈instK.foot (InstQ.setP (⟨qh,.slice s1 qbs.length t1,qbs,.slice (some ⟨gr,0,none⟩) qrs.length t2,qrs,.slice s3 qds.length t3,qds⟩:InstQ) r n PV hrq),w.heap.size < k:=fun k hk=>by rw [foot5] at hk;have:=gq k hk;omega
     have N5:(instK.foot (InstQ.setP (⟨qh,.slice s1 qbs.length t1,qbs,.slice (some ⟨gr,0,none⟩) qrs.length t2,qrs,.slice s3 qds.length t3,qds⟩:InstQ) r n PV hrq)).Nodup:=by rw [foot5];exact nq
     have hous:∀ cs,instK.own ((Y3.drew.setCell ⟨g5,n,none⟩ (iv PV)).setRow w.heap.size cs) (InstQ.setP (⟨qh,.slice s1 qbs.length t1,qbs,.slice (some ⟨gr,0,none⟩) qrs.length t2,qrs,.slice s3 qds.length t3,qds⟩:InstQ) r n PV hrq):=fun cs=>instK.own_out own6 (out_row _ w.heap.size cs) (fun k hk=>by have:=L5 k hk;simp only [List.mem_singleton];omega)
     have HQ:Hid ((InstQ.setP (⟨qh,.slice s1 qbs.length t1,qbs,.slice (some ⟨gr,0,none⟩) qrs.length t2,qrs,.slice s3 qds.length t3,qds⟩:InstQ) r n PV hrq).e=E∧(instK.foot (InstQ.setP (⟨qh,.slice s1 qbs.length t1,qbs,.slice (some ⟨gr,0,none⟩) qrs.length t2,qrs,.slice s3 qds.length t3,qds⟩:InstQ) r n PV hrq)).Nodup∧(∀ k∈instK.foot (InstQ.setP (⟨qh,.slice s1 qbs.length t1,qbs,.slice (some ⟨gr,0,none⟩) qrs.length t2,qrs,.slice s3 qds.length t3,qds⟩:InstQ) r n PV hrq),w.heap.size≤k)∧∀ cs,instK.own ((Y3.drew.setCell ⟨g5,n,none⟩ (iv PV)).setRow w.heap.size cs) (InstQ.setP (⟨qh,.slice s1 qbs.length t1,qbs,.slice (some ⟨gr,0,none⟩) qrs.length t2,qrs,.slice s3 qds.length t3,qds⟩:InstQ) r n PV hrq)):=⟨by rw [E1.out.2];exact HQE,N5,fun k hk=>by have:=L5 k hk;omega,hous⟩
     have HD0:Hid (D=0):=E1.out.1
     clear Gz Rb hB BI own5 own6 foot5 L5 N5 hous HQE E1 oq nq gq eq hb3 hco hS0 hYd M hbA
     change Blk (Y3.setCell ⟨g5,n,none⟩ (iv PV)).drew _ _ _ at hG5
     change Blk (Y3.setCell ⟨g5,n,none⟩ (iv PV)).drew _ _ _ at R3
     change Below _ _ (Y3.setCell ⟨g5,n,none⟩ (iv PV)).drew at hBg
     change Out _ _ (Y3.setCell ⟨g5,n,none⟩ (iv PV)).drew at hUU
     change Hid (_∧_∧_∧∀ cs,instK.own (((Y3.setCell ⟨g5,n,none⟩ (iv PV)).drew).setRow w.heap.size cs) _) at HQ
     go_wp2
     refine ThenGo.to ⟨⟨⟨_,hUU⟩,rfl⟩,?_⟩
     refine text_end (by kernel_rfl) ?_
     clear kc kf kc' kf' hUU hnn
     generalize (Y3.setCell ⟨g5,n,none⟩ (iv PV)).drew=X5 at *
     have Rr:=R3.row #[.int .i64 0,.int .i64 0,.bool false,.bool false,.int .i64 0,.bool qh,.slice s1 qbs.length t1,.slice (some ⟨gr,0,none⟩) qrs.length t2,.slice s3 qds.length t3]
     have hBr:=below_row hBg (g:=w.heap.size) (Nat.le_refl _) #[.int .i64 0,.int .i64 0,.bool false,.bool false,.int .i64 0,.bool qh,.slice s1 qbs.length t1,.slice (some ⟨gr,0,none⟩) qrs.length t2,.slice s3 qds.length t3]
     have hsr:(Tryz.prog.info? 88).map (·.size)=some (#[.int .i64 0,.int .i64 0,.bool false,.bool false,.int .i64 0,.bool qh,.slice s1 qbs.length t1,.slice (some ⟨gr,0,none⟩) qrs.length t2,.slice s3 qds.length t3]:Array Value).size:=sz_res
     obtain ⟨z0,z1,z2,z3⟩:=hG5.cel4
     go_wp2_with (first | (refine st_row (by kernel_rfl) 88 _ _ rfl _ #[.int .i64 0,.int .i64 0,.bool false,.bool false,.int .i64 0,.bool qh,.slice s1 qbs.length t1,.slice (some ⟨gr,0,none⟩) qrs.length t2,.slice s3 qds.length t3] rfl rfl 88 _ R3 hsr rfl (by simp [Value.oneCell']) ?_))
     obtain ⟨q0,q1,q2,q3,q4,q5,q6,q7,q8⟩:=Rr.cel9
     exact bodyPost_ret (v:=.agg #[.int .i64 0,.int .i64 0,.bool false,.bool false,.int .i64 0,.bool qh,.slice s1 qbs.length t1,.slice (some ⟨gr,0,none⟩) qrs.length t2,.slice s3 qds.length t3]) (by simp [results,Tryz.results53,go_sem,q0,q1,q2,q3,q4,q5,q6,q7,q8]) rfl ⟨InstQ.setP (⟨qh,.slice s1 qbs.length t1,qbs,.slice (some ⟨gr,0,none⟩) qrs.length t2,qrs,.slice s3 qds.length t3,qds⟩:InstQ) r n PV hrq,by rw [HD0.out];rfl,HQ.out.1,HQ.out.2.2.2 _,HQ.out.2.1,HQ.out.2.2.1,hBr⟩

end Go.Proofs.YtnnenkoeklabpaaGreatDoor
namespace Go.Proofs.YtnnenkoeklabpaaGreatDoor
open Go.RowKit
open Go.BigFrame
set_option maxRecDepth 100000
theorem Blk.outs {w w' : World} {b:Nat} {t:TypeId} {cs:Array Value} {F:List Nat} (h:Blk w b t cs) (hU:Out F w w') (hF:b ∉ F):Blk w' b t cs:=(hU.block b h.lt hF).trans h

theorem nmL_map {P E:Type} (f:P→E) (nm:E→Nat) (ps:List P):nmL nm (ps.map f)=nmL (fun p=>nm (f p)) ps:=by
 simp [nmL,Function.comp_def]

theorem inst_ne (q:InstQ):q.n=InstE.n q.e:=by
 unfold InstQ.n InstE.n txnsN roundsN
 rw [show q.e.batch=q.batch.map TxnQ.e from rfl,show q.e.rounds=q.rounds.map RoundQ.e from rfl,nmL_map,nmL_map,List.length_map,List.length_map]
 rfl

theorem nmL_set {P:Type} (nm:P→Nat) (ps:List P) (i:Nat) (p d:P) (h:nm p=nm (ps.getD i d)):nmL nm (ps.set i p)=nmL nm ps:=by
 induction ps generalizing i with
 | nil=>rfl
 | cons q t ih=>
  cases i with
  | zero=>
   have:nm p=nm q:=h
   simp [nmL,this]
  | succ i=>
   have:=ih i (by simpa [List.getD] using h)
   simp only [nmL,List.set_cons_succ,List.map_cons,List.sum_cons] at this ⊢
   rw [this]

theorem rstP_n (rs:List RoundE) (r n:Nat) (v:Int):roundsN (rstP rs r n v)=roundsN rs:=by
 unfold roundsN rstP
 rw [List.length_set,nmL_set RoundE.n rs r _ rnd0 (by simp [RoundE.n])]

theorem rstR_n (rs:List RoundE) (r n:Nat) (v:Int):roundsN (rstR rs r n v)=roundsN rs:=by
 unfold roundsN rstR
 rw [List.length_set,nmL_set RoundE.n rs r _ rnd0 (by simp [RoundE.n])]

end Go.Proofs.YtnnenkoeklabpaaGreatDoor
namespace Go.Proofs.YtnnenkoeklabpaaGreatDoor
open Go.RowKit
open Go.BigFrame
set_option maxRecDepth 100000
/-- An open round; the round behind the last one comes to be. -/
def opn3:RoundE:=⟨[3,3,3],[3,3,3]⟩

def ensR (rs:List RoundE) (r:Nat):List RoundE:=if r=rs.length then rs ++ [opn3] else rs

theorem ensR_lt (rs:List RoundE) (r:Nat) (hr:r≤rs.length):r < (ensR rs r).length:=by
 unfold ensR
 split
 ·simp;omega
 ·omega

end Go.Proofs.YtnnenkoeklabpaaGreatDoor
namespace Go.Proofs.YtnnenkoeklabpaaGreatDoor
open Go.RowKit
open Go.BigFrame
set_option maxRecDepth 100000
/-- FirstReport, plainly: its code, and its instance. -/
def frC (x:InstE) (node value:Int):Int:=if atC x node 0=0 then (if inB value 0 1 then (if repA x.rounds 0 node.toNat=3 then (if value=1∧x.has=false then 10 else 0) else 6) else 3) else atC x node 0

def frI (x:InstE) (node value:Int):InstE:=if frC x node value=0 then ⟨x.has,x.batch,rstR x.rounds 0 node.toNat value,x.dec⟩ else ine0

theorem fr_facts (x:InstE) (node value:Int):(atC x node 0≠0→frC x node value=atC x node 0∧frI x node value=ine0) ∧
  (atC x node 0=0→insF x=0∧∃ n:Nat,node=(n:Int)∧n < 3∧0 < x.rounds.length ∧
   (inB value 0 1=false→frC x node value=3∧frI x node value=ine0) ∧
   (inB value 0 1=true→repA x.rounds 0 n≠3→frC x node value=6∧frI x node value=ine0) ∧
   (inB value 0 1=true→repA x.rounds 0 n=3→value=1→x.has=false→frC x node value=10∧frI x node value=ine0) ∧
   (inB value 0 1=true→repA x.rounds 0 n=3→¬ (value=1∧x.has=false)→frC x node value=0∧frI x node value=⟨x.has,x.batch,rstR x.rounds 0 n value,x.dec⟩)):=by
 have hne:∀ c,frC x node value=c→c≠0→frI x node value=ine0:=fun c hc h0=>if_neg (by rw [hc];exact h0)
 refine ⟨fun h0=>?_,fun h0=>?_⟩
 ·have e:frC x node value=atC x node 0:=if_neg h0
  exact ⟨e,hne _ e h0⟩
 ·obtain ⟨hi,n,r,rfl,hr0,hn,hr⟩:=at_zero h0
  refine ⟨hi,n,rfl,hn,by omega,fun h1=>?_,fun h1 h2=>?_,fun h1 h2 h3 h4=>?_,fun h1 h2 h3=>?_⟩
  ·have e:frC x n value=3:=by unfold frC;rw [if_pos h0,h1];rfl
   exact ⟨e,hne _ e (by decide)⟩
  ·have e:frC x n value=6:=by unfold frC;rw [if_pos h0,h1,if_pos rfl,Int.toNat_natCast,if_neg h2]
   exact ⟨e,hne _ e (by decide)⟩
  ·have e:frC x n value=10:=by unfold frC;rw [if_pos h0,h1,if_pos rfl,Int.toNat_natCast,if_pos h2,if_pos ⟨h3,h4⟩]
   exact ⟨e,hne _ e (by decide)⟩
  ·have e:frC x n value=0:=by unfold frC;rw [if_pos h0,h1,if_pos rfl,Int.toNat_natCast,if_pos h2,if_neg h3]
   exact ⟨e,by unfold frI;rw [if_pos e,Int.toNat_natCast]⟩

end Go.Proofs.YtnnenkoeklabpaaGreatDoor
namespace Go.Proofs.YtnnenkoeklabpaaGreatDoor
open Go.RowKit
open Go.BigFrame
set_option maxRecDepth 100000
set_option maxHeartbeats 4000000 in
theorem l6First_any (b o:Nat) (p:InstQ) (node value:Int) (w:World) (hP:InstP w b o p) (hbw:b < w.heap.size) (hl:p.n≤1048576) (h0:insF p.e=0) :
  Calls Tryz.prog 50 #[.pointer (some ⟨b,o,none⟩),.int .i64 node,.int .i64 value] w fun e w' => ∃ q:InstQ,e=.returned (.agg (resC (frC p.e node value) 0 false false 0 q))∧q.e=frI p.e node value∧instK.own w' q∧(instK.foot q).Nodup∧(∀ k∈instK.foot q,w.heap.size≤k)∧Below w.heap.size w w' := by
 obtain ⟨hne,hro,hd0⟩:=ins_low h0
 obtain ⟨hwel,⟨h1,h4⟩,hd3,hF,_⟩:=ins_ok h0
 have hco:=fun w h=>l6Copy_any p w h hl hne hro hd0
 have hrl:p.e.rounds.length=p.rounds.length:=List.length_map _
 have hIR:=inst_round hP 0 (by omega) hF
 have hLE:=fun (q:InstQ) (hq:q.e=p.e) (r:Nat) (hr:r < p.e.rounds.length)=>copy_len hq hwel r hr
 have HF:=fr_facts p.e node value
 have HA:Hid (inB node 0 2=false→atC p.e node 0=3):=fun hA=>by
  unfold atC
  rw [if_pos h0,hA]
  rfl
 have HA2:Hid (inB node 0 2=true→atC p.e node 0=0):=fun hA=>by
  unfold atC
  have:inB 0 0 ((p.e.rounds.length:Int) - 1)=true:=by unfold inB;rw [decide_eq_true_eq];omega
  rw [if_pos h0,hA,this]
  rfl
 have HPE:Hid (∀ (q:InstQ),q.e=p.e→∀ r n v hq,(q.setR r n v hq).e=⟨p.e.has,p.e.batch,rstR p.e.rounds r n v,p.e.dec⟩):=fun q hq r n v hh=>by rw [setR_e,hq]
 have HH:Hid (p.e.has=p.has):=(rfl:_=_)
 clear hne hro hd0 hF h0
 generalize frC p.e node value=D at *
 generalize frI p.e node value=E at *
 generalize atC p.e node 0=C at *
 replace HF:Hid _:=HF
 have hrd:=hP.rd
 have hrb:=fun (w' : World) hb=>instK.rd_below (w' := w') hrd hb
 have HRL:Hid (p.e.rounds.length=p.rounds.length):=hrl
 clear hrl
 generalize hpe:p.e=pe at *
 clear hpe
 obtain ⟨has,vb,batch,vr,rounds,vd,dec⟩:=p
 obtain ⟨ba,bk,rfl⟩:∃ a c,vb=.slice a batch.length c:=hrd.1.shape
 obtain ⟨va,vk,rfl⟩:∃ a c,vr=.slice a rounds.length c:=hrd.2.1.shape
 obtain ⟨da,dk,rfl⟩:∃ a c,vd=.slice a dec.length c:=hrd.2.2.shape
 dsimp only at hco hrb hIR HRL HH
 have hB:Below w.heap.size w (w.alloc (.cells #[.int .i64 0,.int .i64 0,.bool false,.bool false,.int .i64 0,.bool false,.slice none 0 0,.slice none 0 0,.slice none 0 0] 88)):=by go_grown
 have Rb:=Blk.new w 88 #[.int .i64 0,.int .i64 0,.bool false,.bool false,.int .i64 0,.bool false,.slice none 0 0,.slice none 0 0,.slice none 0 0]
 cases hN:inB node 0 2 with
 | false=>
  have hC:C=3:=HA.out hN
  have E1:Hid (D=3∧E=ine0):=by
   obtain ⟨h1,h2⟩:=HF.out.1 (by rw [hC];decide)
   exact ⟨h1.trans hC,h2⟩
  clear HF hIR hLE hco hC HA HA2
  go_enter Tryz.func50,Tryz.ntmps50
  go_wp2_with (first | (go_at_call 73;refine (l6Node_any _ _).mono ?_;rintro e w' ⟨rfl,rfl⟩) | (go_at_call 70;refine (l1In_any _ _ _ _).mono ?_;rintro e w' ⟨rfl,rfl⟩))
  refine (l6Bad_any 3 _).mono ?_
  rintro e w8 ⟨rfl,hb8⟩
  replace hB:=hB.trans (hb8.mono hB.size)
  replace Rb:=Rb.below hb8
  clear hb8
  have Rr:=Rb.row #[.int .i64 3,.int .i64 0,.bool false,.bool false,.int .i64 0,.bool false,.slice none 0 0,.slice none 0 0,.slice none 0 0]
  have hBr:=below_row hB (g:=w.heap.size) (by omega) #[.int .i64 3,.int .i64 0,.bool false,.bool false,.int .i64 0,.bool false,.slice none 0 0,.slice none 0 0,.slice none 0 0]
  have hsr:(Tryz.prog.info? 88).map (·.size)=some (#[.int .i64 3,.int .i64 0,.bool false,.bool false,.int .i64 0,.bool false,.slice none 0 0,.slice none 0 0,.slice none 0 0]:Array Value).size:=sz_res
  go_wp2_with (first | (refine st_row (by kernel_rfl) 88 _ _ rfl _ #[.int .i64 3,.int .i64 0,.bool false,.bool false,.int .i64 0,.bool false,.slice none 0 0,.slice none 0 0,.slice none 0 0] rfl rfl 88 _ Rb hsr rfl (by simp [Value.oneCell']) ?_))
  obtain ⟨q0,q1,q2,q3,q4,q5,q6,q7,q8⟩:=Rr.cel9
  exact bodyPost_ret (v:=.agg #[.int .i64 3,.int .i64 0,.bool false,.bool false,.int .i64 0,.bool false,.slice none 0 0,.slice none 0 0,.slice none 0 0]) (by simp [results,Tryz.results50,go_sem,q0,q1,q2,q3,q4,q5,q6,q7,q8]) rfl ⟨inst0,by rw [E1.out.1];rfl,E1.out.2.symm,inst0_own _,inst0_nd,fun k hk=>by rw [inst0_ft] at hk;simp at hk,hBr⟩

 | true=>
  obtain ⟨hi0,n,rfl,hn,hr,f3,f6,f10,f0⟩:=HF.out.2 (HA2.out hN)
  rw [HH.out] at f10 f0
  have F3:Hid _:=f3
  have F6:Hid _:=f6
  have F10:Hid _:=f10
  have F0:Hid _:=f0
  clear hi0 f3 f6 f10 f0 HF HA HA2
  cases hV:inB value 0 1 with
  | false=>
   have E1:Hid (D=3∧E=ine0):=F3.out hV
   clear F3 F6 F10 F0 hLE hco hIR
   go_enter Tryz.func50,Tryz.ntmps50
   go_wp2_with (first | (go_at_call 73;refine (l6Node_any _ _).mono ?_;rintro e w' ⟨rfl,rfl⟩) | (go_at_call 70;refine (l1In_any _ _ _ _).mono ?_;rintro e w' ⟨rfl,rfl⟩))
   refine (l6Bad_any 3 _).mono ?_
   rintro e w8 ⟨rfl,hb8⟩
   replace hB:=hB.trans (hb8.mono hB.size)
   replace Rb:=Rb.below hb8
   clear hb8
   have Rr:=Rb.row #[.int .i64 3,.int .i64 0,.bool false,.bool false,.int .i64 0,.bool false,.slice none 0 0,.slice none 0 0,.slice none 0 0]
   have hBr:=below_row hB (g:=w.heap.size) (by omega) #[.int .i64 3,.int .i64 0,.bool false,.bool false,.int .i64 0,.bool false,.slice none 0 0,.slice none 0 0,.slice none 0 0]
   have hsr:(Tryz.prog.info? 88).map (·.size)=some (#[.int .i64 3,.int .i64 0,.bool false,.bool false,.int .i64 0,.bool false,.slice none 0 0,.slice none 0 0,.slice none 0 0]:Array Value).size:=sz_res
   go_wp2_with (first | (refine st_row (by kernel_rfl) 88 _ _ rfl _ #[.int .i64 3,.int .i64 0,.bool false,.bool false,.int .i64 0,.bool false,.slice none 0 0,.slice none 0 0,.slice none 0 0] rfl rfl 88 _ Rb hsr rfl (by simp [Value.oneCell']) ?_))
   obtain ⟨q0,q1,q2,q3,q4,q5,q6,q7,q8⟩:=Rr.cel9
   exact bodyPost_ret (v:=.agg #[.int .i64 3,.int .i64 0,.bool false,.bool false,.int .i64 0,.bool false,.slice none 0 0,.slice none 0 0,.slice none 0 0]) (by simp [results,Tryz.results50,go_sem,q0,q1,q2,q3,q4,q5,q6,q7,q8]) rfl ⟨inst0,by rw [E1.out.1];rfl,E1.out.2.symm,inst0_own _,inst0_nd,fun k hk=>by rw [inst0_ft] at hk;simp at hk,hBr⟩

  | true=>
   obtain ⟨rb,ro,vk',xb,xo,xc,yb,yo,yc,hvr,k0,_,kx,_,_,_⟩:=hIR
   simp only [Value.slice.injEq,true_and] at hvr
   obtain ⟨rfl,rfl⟩:=hvr
   replace kx:=kx n hn
   rw [Nat.zero_mul,Nat.add_zero] at k0
   replace k0:=cellB k0 hB
   replace kx:=cellB kx hB
   have hPW:=hP.below hB
   obtain ⟨c0,c1,c2,c3⟩:=hPW.box
   dsimp only at c0 c1 c2 c3
   have hr4:(0:Int) < rounds.length:=by have:=HRL.out;omega
   have hn3:(n:Int) < 3:=by omega
   generalize hre:repA pe.rounds 0 n=RE at *
   clear hre
   by_cases hp4:RE=3
   case neg=>
    have E1:Hid (D=6∧E=ine0):=F6.out hV hp4
    have hq4:(RE != 3)=true:=by simpa using hp4
    clear F3 F6 F10 F0 hp4 hLE hco
    go_enter Tryz.func50,Tryz.ntmps50
    go_wp2_with (first | (go_at_call 73;refine (l6Node_any _ _).mono ?_;rintro e w' ⟨rfl,rfl⟩) | (go_at_call 70;refine (l1In_any _ _ _ _).mono ?_;rintro e w' ⟨rfl,rfl⟩))
    refine (l6Bad_any 6 _).mono ?_
    rintro e w8 ⟨rfl,hb8⟩
    replace hB:=hB.trans (hb8.mono hB.size)
    replace Rb:=Rb.below hb8
    clear hb8
    have Rr:=Rb.row #[.int .i64 6,.int .i64 0,.bool false,.bool false,.int .i64 0,.bool false,.slice none 0 0,.slice none 0 0,.slice none 0 0]
    have hBr:=below_row hB (g:=w.heap.size) (by omega) #[.int .i64 6,.int .i64 0,.bool false,.bool false,.int .i64 0,.bool false,.slice none 0 0,.slice none 0 0,.slice none 0 0]
    have hsr:(Tryz.prog.info? 88).map (·.size)=some (#[.int .i64 6,.int .i64 0,.bool false,.bool false,.int .i64 0,.bool false,.slice none 0 0,.slice none 0 0,.slice none 0 0]:Array Value).size:=sz_res
    go_wp2_with (first | (refine st_row (by kernel_rfl) 88 _ _ rfl _ #[.int .i64 6,.int .i64 0,.bool false,.bool false,.int .i64 0,.bool false,.slice none 0 0,.slice none 0 0,.slice none 0 0] rfl rfl 88 _ Rb hsr rfl (by simp [Value.oneCell']) ?_))
    obtain ⟨q0,q1,q2,q3,q4,q5,q6,q7,q8⟩:=Rr.cel9
    exact bodyPost_ret (v:=.agg #[.int .i64 6,.int .i64 0,.bool false,.bool false,.int .i64 0,.bool false,.slice none 0 0,.slice none 0 0,.slice none 0 0]) (by simp [results,Tryz.results50,go_sem,q0,q1,q2,q3,q4,q5,q6,q7,q8]) rfl ⟨inst0,by rw [E1.out.1];rfl,E1.out.2.symm,inst0_own _,inst0_nd,fun k hk=>by rw [inst0_ft] at hk;simp at hk,hBr⟩

   case pos=>
    have F1:Hid ((value=1→has=false→D=10∧E=ine0)∧(¬ (value=1∧has=false)→D=0∧E=⟨has,pe.batch,rstR pe.rounds 0 n value,pe.dec⟩)):=⟨F10.out hV hp4,F0.out hV hp4⟩
    rw [← HH.out] at F1
    have hq4:(RE != 3)=false:=by rw [hp4];rfl
    clear F3 F6 F10 F0 hp4
    by_cases hbad:value=1∧has=false
    case pos=>
     have E1:Hid (D=10∧E=ine0):=F1.out.1 hbad.1 (by rw [HH.out];exact hbad.2)
     obtain ⟨rfl,rfl⟩:=hbad
     clear F1 hLE hco
     go_enter Tryz.func50,Tryz.ntmps50
     go_wp2_with (first | (go_at_call 73;refine (l6Node_any _ _).mono ?_;rintro e w' ⟨rfl,rfl⟩) | (go_at_call 70;refine (l1In_any _ _ _ _).mono ?_;rintro e w' ⟨rfl,rfl⟩))
     refine (l6Bad_any 10 _).mono ?_
     rintro e w8 ⟨rfl,hb8⟩
     replace hB:=hB.trans (hb8.mono hB.size)
     replace Rb:=Rb.below hb8
     clear hb8
     have Rr:=Rb.row #[.int .i64 10,.int .i64 0,.bool false,.bool false,.int .i64 0,.bool false,.slice none 0 0,.slice none 0 0,.slice none 0 0]
     have hBr:=below_row hB (g:=w.heap.size) (by omega) #[.int .i64 10,.int .i64 0,.bool false,.bool false,.int .i64 0,.bool false,.slice none 0 0,.slice none 0 0,.slice none 0 0]
     have hsr:(Tryz.prog.info? 88).map (·.size)=some (#[.int .i64 10,.int .i64 0,.bool false,.bool false,.int .i64 0,.bool false,.slice none 0 0,.slice none 0 0,.slice none 0 0]:Array Value).size:=sz_res
     go_wp2_with (first | (refine st_row (by kernel_rfl) 88 _ _ rfl _ #[.int .i64 10,.int .i64 0,.bool false,.bool false,.int .i64 0,.bool false,.slice none 0 0,.slice none 0 0,.slice none 0 0] rfl rfl 88 _ Rb hsr rfl (by simp [Value.oneCell']) ?_))
     obtain ⟨q0,q1,q2,q3,q4,q5,q6,q7,q8⟩:=Rr.cel9
     exact bodyPost_ret (v:=.agg #[.int .i64 10,.int .i64 0,.bool false,.bool false,.int .i64 0,.bool false,.slice none 0 0,.slice none 0 0,.slice none 0 0]) (by simp [results,Tryz.results50,go_sem,q0,q1,q2,q3,q4,q5,q6,q7,q8]) rfl ⟨inst0,by rw [E1.out.1];rfl,E1.out.2.symm,inst0_own _,inst0_nd,fun k hk=>by rw [inst0_ft] at hk;simp at hk,hBr⟩

    case neg=>
     have E1:Hid (D=0∧E=⟨pe.has,pe.batch,rstR pe.rounds 0 n value,pe.dec⟩):=F1.out.2 (by rw [HH.out];exact hbad)
     clear F1
     by_cases hv1:value=1
     ·have hh:has=true:=by cases has with | true=>rfl | false=>exact absurd ⟨hv1,rfl⟩ hbad
      subst hh
      have hv1' : (value == 1)=true:=by rw [hv1];rfl
      clear hbad hv1
      go_enter Tryz.func50,Tryz.ntmps50
      have hPW2:=hP.below hB
      obtain ⟨d0,d1,d2,d3⟩:=hPW2.box
      dsimp only at d0 d1 d2 d3
      go_wp2_with (first | (go_at_call 73;refine (l6Node_any _ _).mono ?_;rintro e w' ⟨rfl,rfl⟩) | (go_at_call 70;refine (l1In_any _ _ _ _).mono ?_;rintro e w' ⟨rfl,rfl⟩))
      clear c0 c1 c2 c3 d0 d1 d2 d3 kx k0
      refine (hco _ (hrb _ hB)).mono ?_
      rintro e w3 ⟨q,rfl,eq,oq,nq,gq,hb3⟩
      have hW:=Rb.lt
      replace Rb:=Rb.below hb3
      replace hB:=hB.trans (hb3.mono hB.size)
      obtain ⟨hrq,hpq,_⟩:=hLE q eq 0 hr
      have HQE:=HPE.out q eq 0 n value hrq
      have M:=instK.own_lt oq
      obtain ⟨qh,qb,qbs,qr,qrs,qd,qds⟩:=q
      obtain ⟨s1,t1,rfl⟩:∃ a c,qb=.slice a qbs.length c:=oq.1.shape
      obtain ⟨s2,t2,rfl⟩:∃ a c,qr=.slice a qrs.length c:=oq.2.1.shape
      obtain ⟨s3,t3,rfl⟩:∃ a c,qd=.slice a qds.length c:=oq.2.2.shape
      obtain ⟨gr,rfl⟩:=oq.2.1.blkOf (by exact Nat.lt_of_le_of_lt (Nat.zero_le _) hrq)
      replace hrq:0 < qrs.length:=hrq
      have hrq3:(0:Int) < qrs.length:=by omega
      obtain ⟨g5,cap5,hv5,hg5,kc,kf,own5,foot5⟩:=own_setR oq nq 0 n hrq (by show n < (qrs[0]).rep.length;have:(qrs[0]).rep.length=3:=hpq;omega) value
      have hpl:(qrs[0]).rep.length=3:=hpq
      rw [show (InstQ.rounds (⟨qh,.slice s1 qbs.length t1,qbs,.slice (some ⟨gr,0,none⟩) qrs.length t2,qrs,.slice s3 qds.length t3,qds⟩:InstQ))[0]=qrs[0] from rfl,hpl] at hv5
      have hcr:=oq.2.1.cell 0 hrq 0 (.slice (some ⟨g5,0,none⟩) 3 cap5) (by show ([(qrs[0]).vr,(qrs[0]).vp]:List Value)[0]? = _;rw [← hv5];rfl)
      have hcr2:w3.cell? ⟨gr,0,none⟩=some (.slice (some ⟨g5,0,none⟩) 3 cap5):=hcr.1
      have hg5l:w.heap.size + 1≤g5∧g5 < w3.heap.size:=⟨by have:=gq g5 hg5;omega,M g5 hg5⟩
      have hbA:Below (w3.setCell ⟨g5,n,none⟩ (iv value)).heap.size (w3.setCell ⟨g5,n,none⟩ (iv value)) ((w3.setCell ⟨g5,n,none⟩ (iv value)).alloc (.cells #[.bool qh,.slice s1 qbs.length t1,.slice (some ⟨gr,0,none⟩) qrs.length t2,.slice s3 qds.length t3] 28)):=by go_grown
      have R3:=(Rb.other (b' := g5) (by omega) n (iv value)).below hbA
      have hBg:Below w.heap.size w ((w3.setCell ⟨g5,n,none⟩ (iv value)).alloc (.cells #[.bool qh,.slice s1 qbs.length t1,.slice (some ⟨gr,0,none⟩) qrs.length t2,.slice s3 qds.length t3] 28)):=by
       have h1:Below w.heap.size w (w3.setCell ⟨g5,n,none⟩ (iv value)):=hB.setCell (p:=⟨g5,n,none⟩) (by show w.heap.size≤g5;omega) _
       exact h1.trans (hbA.mono h1.size)
      replace own5:=instK.own_out (F:=[]) own5 (Out.of_below hbA) (fun _ _=>by simp)
      have L5:∀ k∈instK.foot (InstQ.setR (⟨qh,.slice s1 qbs.length t1,qbs,.slice (some ⟨gr,0,none⟩) qrs.length t2,qrs,.slice s3 qds.length t3,qds⟩:InstQ) 0 n value hrq),w.heap.size < k:=fun k hk=>by rw [foot5] at hk;have:=gq k hk;omega
      have N5:(instK.foot (InstQ.setR (⟨qh,.slice s1 qbs.length t1,qbs,.slice (some ⟨gr,0,none⟩) qrs.length t2,qrs,.slice s3 qds.length t3,qds⟩:InstQ) 0 n value hrq)).Nodup:=by rw [foot5];exact nq
      have hous:∀ cs,instK.own (((w3.setCell ⟨g5,n,none⟩ (iv value)).alloc (.cells #[.bool qh,.slice s1 qbs.length t1,.slice (some ⟨gr,0,none⟩) qrs.length t2,.slice s3 qds.length t3] 28)).setRow w.heap.size cs) (InstQ.setR (⟨qh,.slice s1 qbs.length t1,qbs,.slice (some ⟨gr,0,none⟩) qrs.length t2,qrs,.slice s3 qds.length t3,qds⟩:InstQ) 0 n value hrq):=fun cs=>instK.own_out own5 (out_row _ w.heap.size cs) (fun k hk=>by have:=L5 k hk;simp only [List.mem_singleton];omega)
      have HQ:Hid ((InstQ.setR (⟨qh,.slice s1 qbs.length t1,qbs,.slice (some ⟨gr,0,none⟩) qrs.length t2,qrs,.slice s3 qds.length t3,qds⟩:InstQ) 0 n value hrq).e=E∧(instK.foot (InstQ.setR (⟨qh,.slice s1 qbs.length t1,qbs,.slice (some ⟨gr,0,none⟩) qrs.length t2,qrs,.slice s3 qds.length t3,qds⟩:InstQ) 0 n value hrq)).Nodup∧(∀ k∈instK.foot (InstQ.setR (⟨qh,.slice s1 qbs.length t1,qbs,.slice (some ⟨gr,0,none⟩) qrs.length t2,qrs,.slice s3 qds.length t3,qds⟩:InstQ) 0 n value hrq),w.heap.size≤k)∧∀ cs,instK.own (((w3.setCell ⟨g5,n,none⟩ (iv value)).alloc (.cells #[.bool qh,.slice s1 qbs.length t1,.slice (some ⟨gr,0,none⟩) qrs.length t2,.slice s3 qds.length t3] 28)).setRow w.heap.size cs) (InstQ.setR (⟨qh,.slice s1 qbs.length t1,qbs,.slice (some ⟨gr,0,none⟩) qrs.length t2,qrs,.slice s3 qds.length t3,qds⟩:InstQ) 0 n value hrq)):=⟨by rw [E1.out.2];exact HQE,N5,fun k hk=>by have:=L5 k hk;omega,hous⟩
      have HD0:Hid (D=0):=E1.out.1
      obtain ⟨old,kc2⟩:∃ z,w3.cell? ⟨g5,n,none⟩=some (iv z):=⟨_,kc⟩
      have hAl:Below w3.heap.size w3 (w3.alloc (.cells #[.bool qh,.slice s1 qbs.length t1,.slice (some ⟨gr,0,none⟩) qrs.length t2,.slice s3 qds.length t3] 28)):=by go_grown
      have hcr3:=cellB hcr2 hAl
      have hgrl:gr < w3.heap.size:=World.block_lt_of_cell? w3 ⟨gr,0,none⟩ hcr2
      clear kc hAl
      clear Rb hB own5 foot5 L5 N5 hous HQE E1 oq nq gq eq hb3 hco M hcr hbA
      have Rr:=R3.row #[.int .i64 0,.int .i64 0,.bool false,.bool false,.int .i64 0,.bool qh,.slice s1 qbs.length t1,.slice (some ⟨gr,0,none⟩) qrs.length t2,.slice s3 qds.length t3]
      have hBr:=below_row hBg (g:=w.heap.size) (Nat.le_refl _) #[.int .i64 0,.int .i64 0,.bool false,.bool false,.int .i64 0,.bool qh,.slice s1 qbs.length t1,.slice (some ⟨gr,0,none⟩) qrs.length t2,.slice s3 qds.length t3]
      have hsr:(Tryz.prog.info? 88).map (·.size)=some (#[.int .i64 0,.int .i64 0,.bool false,.bool false,.int .i64 0,.bool qh,.slice s1 qbs.length t1,.slice (some ⟨gr,0,none⟩) qrs.length t2,.slice s3 qds.length t3]:Array Value).size:=sz_res
      go_wp2_with (first | (refine st_row (by kernel_rfl) 88 _ _ rfl _ #[.int .i64 0,.int .i64 0,.bool false,.bool false,.int .i64 0,.bool qh,.slice s1 qbs.length t1,.slice (some ⟨gr,0,none⟩) qrs.length t2,.slice s3 qds.length t3] rfl rfl 88 _ R3 hsr rfl (by simp [Value.oneCell']) ?_))
      obtain ⟨q0,q1,q2,q3,q4,q5,q6,q7,q8⟩:=Rr.cel9
      exact bodyPost_ret (v:=.agg #[.int .i64 0,.int .i64 0,.bool false,.bool false,.int .i64 0,.bool qh,.slice s1 qbs.length t1,.slice (some ⟨gr,0,none⟩) qrs.length t2,.slice s3 qds.length t3]) (by simp [results,Tryz.results50,go_sem,q0,q1,q2,q3,q4,q5,q6,q7,q8]) rfl ⟨InstQ.setR (⟨qh,.slice s1 qbs.length t1,qbs,.slice (some ⟨gr,0,none⟩) qrs.length t2,qrs,.slice s3 qds.length t3,qds⟩:InstQ) 0 n value hrq,by rw [HD0.out];rfl,HQ.out.1,HQ.out.2.2.2 _,HQ.out.2.1,HQ.out.2.2.1,hBr⟩

     ·have hv1' : (value == 1)=false:=by simpa using hv1
      clear hbad hv1
      go_enter Tryz.func50,Tryz.ntmps50
      have hPW2:=hP.below hB
      obtain ⟨d0,d1,d2,d3⟩:=hPW2.box
      dsimp only at d0 d1 d2 d3
      go_wp2_with (first | (go_at_call 73;refine (l6Node_any _ _).mono ?_;rintro e w' ⟨rfl,rfl⟩) | (go_at_call 70;refine (l1In_any _ _ _ _).mono ?_;rintro e w' ⟨rfl,rfl⟩))
      clear c0 c1 c2 c3 d0 d1 d2 d3 kx k0
      refine (hco _ (hrb _ hB)).mono ?_
      rintro e w3 ⟨q,rfl,eq,oq,nq,gq,hb3⟩
      have hW:=Rb.lt
      replace Rb:=Rb.below hb3
      replace hB:=hB.trans (hb3.mono hB.size)
      obtain ⟨hrq,hpq,_⟩:=hLE q eq 0 hr
      have HQE:=HPE.out q eq 0 n value hrq
      have M:=instK.own_lt oq
      obtain ⟨qh,qb,qbs,qr,qrs,qd,qds⟩:=q
      obtain ⟨s1,t1,rfl⟩:∃ a c,qb=.slice a qbs.length c:=oq.1.shape
      obtain ⟨s2,t2,rfl⟩:∃ a c,qr=.slice a qrs.length c:=oq.2.1.shape
      obtain ⟨s3,t3,rfl⟩:∃ a c,qd=.slice a qds.length c:=oq.2.2.shape
      obtain ⟨gr,rfl⟩:=oq.2.1.blkOf (by exact Nat.lt_of_le_of_lt (Nat.zero_le _) hrq)
      replace hrq:0 < qrs.length:=hrq
      have hrq3:(0:Int) < qrs.length:=by omega
      obtain ⟨g5,cap5,hv5,hg5,kc,kf,own5,foot5⟩:=own_setR oq nq 0 n hrq (by show n < (qrs[0]).rep.length;have:(qrs[0]).rep.length=3:=hpq;omega) value
      have hpl:(qrs[0]).rep.length=3:=hpq
      rw [show (InstQ.rounds (⟨qh,.slice s1 qbs.length t1,qbs,.slice (some ⟨gr,0,none⟩) qrs.length t2,qrs,.slice s3 qds.length t3,qds⟩:InstQ))[0]=qrs[0] from rfl,hpl] at hv5
      have hcr:=oq.2.1.cell 0 hrq 0 (.slice (some ⟨g5,0,none⟩) 3 cap5) (by show ([(qrs[0]).vr,(qrs[0]).vp]:List Value)[0]? = _;rw [← hv5];rfl)
      have hcr2:w3.cell? ⟨gr,0,none⟩=some (.slice (some ⟨g5,0,none⟩) 3 cap5):=hcr.1
      have hg5l:w.heap.size + 1≤g5∧g5 < w3.heap.size:=⟨by have:=gq g5 hg5;omega,M g5 hg5⟩
      have hbA:Below (w3.setCell ⟨g5,n,none⟩ (iv value)).heap.size (w3.setCell ⟨g5,n,none⟩ (iv value)) ((w3.setCell ⟨g5,n,none⟩ (iv value)).alloc (.cells #[.bool qh,.slice s1 qbs.length t1,.slice (some ⟨gr,0,none⟩) qrs.length t2,.slice s3 qds.length t3] 28)):=by go_grown
      have R3:=(Rb.other (b' := g5) (by omega) n (iv value)).below hbA
      have hBg:Below w.heap.size w ((w3.setCell ⟨g5,n,none⟩ (iv value)).alloc (.cells #[.bool qh,.slice s1 qbs.length t1,.slice (some ⟨gr,0,none⟩) qrs.length t2,.slice s3 qds.length t3] 28)):=by
       have h1:Below w.heap.size w (w3.setCell ⟨g5,n,none⟩ (iv value)):=hB.setCell (p:=⟨g5,n,none⟩) (by show w.heap.size≤g5;omega) _
       exact h1.trans (hbA.mono h1.size)
      replace own5:=instK.own_out (F:=[]) own5 (Out.of_below hbA) (fun _ _=>by simp)
      have L5:∀ k∈instK.foot (InstQ.setR (⟨qh,.slice s1 qbs.length t1,qbs,.slice (some ⟨gr,0,none⟩) qrs.length t2,qrs,.slice s3 qds.length t3,qds⟩:InstQ) 0 n value hrq),w.heap.size < k:=fun k hk=>by rw [foot5] at hk;have:=gq k hk;omega
      have N5:(instK.foot (InstQ.setR (⟨qh,.slice s1 qbs.length t1,qbs,.slice (some ⟨gr,0,none⟩) qrs.length t2,qrs,.slice s3 qds.length t3,qds⟩:InstQ) 0 n value hrq)).Nodup:=by rw [foot5];exact nq
      have hous:∀ cs,instK.own (((w3.setCell ⟨g5,n,none⟩ (iv value)).alloc (.cells #[.bool qh,.slice s1 qbs.length t1,.slice (some ⟨gr,0,none⟩) qrs.length t2,.slice s3 qds.length t3] 28)).setRow w.heap.size cs) (InstQ.setR (⟨qh,.slice s1 qbs.length t1,qbs,.slice (some ⟨gr,0,none⟩) qrs.length t2,qrs,.slice s3 qds.length t3,qds⟩:InstQ) 0 n value hrq):=fun cs=>instK.own_out own5 (out_row _ w.heap.size cs) (fun k hk=>by have:=L5 k hk;simp only [List.mem_singleton];omega)
      have HQ:Hid ((InstQ.setR (⟨qh,.slice s1 qbs.length t1,qbs,.slice (some ⟨gr,0,none⟩) qrs.length t2,qrs,.slice s3 qds.length t3,qds⟩:InstQ) 0 n value hrq).e=E∧(instK.foot (InstQ.setR (⟨qh,.slice s1 qbs.length t1,qbs,.slice (some ⟨gr,0,none⟩) qrs.length t2,qrs,.slice s3 qds.length t3,qds⟩:InstQ) 0 n value hrq)).Nodup∧(∀ k∈instK.foot (InstQ.setR (⟨qh,.slice s1 qbs.length t1,qbs,.slice (some ⟨gr,0,none⟩) qrs.length t2,qrs,.slice s3 qds.length t3,qds⟩:InstQ) 0 n value hrq),w.heap.size≤k)∧∀ cs,instK.own (((w3.setCell ⟨g5,n,none⟩ (iv value)).alloc (.cells #[.bool qh,.slice s1 qbs.length t1,.slice (some ⟨gr,0,none⟩) qrs.length t2,.slice s3 qds.length t3] 28)).setRow w.heap.size cs) (InstQ.setR (⟨qh,.slice s1 qbs.length t1,qbs,.slice (some ⟨gr,0,none⟩) qrs.length t2,qrs,.slice s3 qds.length t3,qds⟩:InstQ) 0 n value hrq)):=⟨by rw [E1.out.2];exact HQE,N5,fun k hk=>by have:=L5 k hk;omega,hous⟩
      have HD0:Hid (D=0):=E1.out.1
      obtain ⟨old,kc2⟩:∃ z,w3.cell? ⟨g5,n,none⟩=some (iv z):=⟨_,kc⟩
      have hAl:Below w3.heap.size w3 (w3.alloc (.cells #[.bool qh,.slice s1 qbs.length t1,.slice (some ⟨gr,0,none⟩) qrs.length t2,.slice s3 qds.length t3] 28)):=by go_grown
      have hcr3:=cellB hcr2 hAl
      have hgrl:gr < w3.heap.size:=World.block_lt_of_cell? w3 ⟨gr,0,none⟩ hcr2
      clear kc hAl
      clear Rb hB own5 foot5 L5 N5 hous HQE E1 oq nq gq eq hb3 hco M hcr hbA
      have Rr:=R3.row #[.int .i64 0,.int .i64 0,.bool false,.bool false,.int .i64 0,.bool qh,.slice s1 qbs.length t1,.slice (some ⟨gr,0,none⟩) qrs.length t2,.slice s3 qds.length t3]
      have hBr:=below_row hBg (g:=w.heap.size) (Nat.le_refl _) #[.int .i64 0,.int .i64 0,.bool false,.bool false,.int .i64 0,.bool qh,.slice s1 qbs.length t1,.slice (some ⟨gr,0,none⟩) qrs.length t2,.slice s3 qds.length t3]
      have hsr:(Tryz.prog.info? 88).map (·.size)=some (#[.int .i64 0,.int .i64 0,.bool false,.bool false,.int .i64 0,.bool qh,.slice s1 qbs.length t1,.slice (some ⟨gr,0,none⟩) qrs.length t2,.slice s3 qds.length t3]:Array Value).size:=sz_res
      go_wp2_with (first | (refine st_row (by kernel_rfl) 88 _ _ rfl _ #[.int .i64 0,.int .i64 0,.bool false,.bool false,.int .i64 0,.bool qh,.slice s1 qbs.length t1,.slice (some ⟨gr,0,none⟩) qrs.length t2,.slice s3 qds.length t3] rfl rfl 88 _ R3 hsr rfl (by simp [Value.oneCell']) ?_))
      obtain ⟨q0,q1,q2,q3,q4,q5,q6,q7,q8⟩:=Rr.cel9
      exact bodyPost_ret (v:=.agg #[.int .i64 0,.int .i64 0,.bool false,.bool false,.int .i64 0,.bool qh,.slice s1 qbs.length t1,.slice (some ⟨gr,0,none⟩) qrs.length t2,.slice s3 qds.length t3]) (by simp [results,Tryz.results50,go_sem,q0,q1,q2,q3,q4,q5,q6,q7,q8]) rfl ⟨InstQ.setR (⟨qh,.slice s1 qbs.length t1,qbs,.slice (some ⟨gr,0,none⟩) qrs.length t2,qrs,.slice s3 qds.length t3,qds⟩:InstQ) 0 n value hrq,by rw [HD0.out];rfl,HQ.out.1,HQ.out.2.2.2 _,HQ.out.2.1,HQ.out.2.2.1,hBr⟩

end Go.Proofs.YtnnenkoeklabpaaGreatDoor
