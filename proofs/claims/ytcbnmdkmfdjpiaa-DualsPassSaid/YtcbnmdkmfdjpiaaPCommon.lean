import Derived.Test.YtcbnmdkmfdjpiaaPBehind
import Derived.Test.YtcbnmdkmfdjpiaaPShort
namespace Go.Proofs.Ytcbnmdkmfdjpiaa
set_option maxRecDepth 100000
open Go.RowKit
set_option linter.unusedSimpArgs false
set_option linter.unusedVariables false
attribute [local go_sem ↓] Go.wp_at_zero Go.wp_at_succ

theorem num_zero:num 0=.agg #[.int .u64 0,.int .u64 0,.int .u64 0,.int .u64 0]:=rfl
theorem eqZ (X:Nat) (hX:X<2^256) (w:World):(Op.equalIn 10000 24 (num X) (.agg #[.int .u64 0,.int .u64 0,.int .u64 0,.int .u64 0])).run Try.prog w=.ok (decide (X=0)) w:=by
 rw [← num_zero];exact eqN X 0 hX (by decide) w

set_option maxHeartbeats 1000000 in
theorem div_some (A B Q r:Nat) (hB:B<2^256) (hB0:B≠0)
  (C:∀ w,Calls Try.prog 81 #[num 0,num A,num B] w fun e w'=>e=.returned (.tuple #[num Q,num r])∧Below w.heap.size w w') (w:World) :
  Calls Try.prog 75 #[num A,num B] w fun e w'=>e=.returned (.tuple #[num Q,num r,.int .i64 0])∧Below w.heap.size w w':=by
 have eq:∀ w,(Op.equalIn 10000 24 (num B) (.agg #[.int .u64 0,.int .u64 0,.int .u64 0,.int .u64 0])).run Try.prog w=.ok false w:=fun w=>by rw [eqZ B hB];simp [hB0]
 rw [num_zero] at C
 have HC:=Jgm C
 clear C hB hB0
 go_enter Try.func75,Try.ntmps75
 go_wp2_with (simp only [eq])
 have BW:=Jgm (Below.refl w.heap.size w)
 generalize hW1:((((w.alloc (.cells (ncs A) 24)).alloc (.cells (ncs B) 24)).alloc (.cells #[.int .u64 0,.int .u64 0,.int .u64 0,.int .u64 0] 24)).alloc (.cells #[.int .u64 0,.int .u64 0,.int .u64 0,.int .u64 0] 24))=W1 at *
 clear eq
 have Na:At W1 (w.heap.size) _ _:=Jd hW1 ((((At.at_ _ _ _ _ (by simp)).alloc _).alloc _).alloc _)
 have Nb:At W1 (w.heap.size+1) _ _:=Jd hW1 (((At.at_ _ _ _ _ (by simp)).alloc _).alloc _)
 have Nq:At W1 (w.heap.size+1+1) _ _:=Jd hW1 ((At.at_ _ _ _ _ (by simp)).alloc _)
 have Eq:w.heap.size≤w.heap.size+1+1:=by have:=BW.out.size;omega
 have Daq:w.heap.size≠w.heap.size+1+1:=by omega
 have Dbq:w.heap.size+1≠w.heap.size+1+1:=by omega
 have Nr:At W1 (w.heap.size+1+1+1) _ _:=Jd hW1 (At.at_ _ _ _ _ (by simp))
 have Er:w.heap.size≤w.heap.size+1+1+1:=by have:=BW.out.size;omega
 have Dar:w.heap.size≠w.heap.size+1+1+1:=by omega
 have Dbr:w.heap.size+1≠w.heap.size+1+1+1:=by omega
 have Dqr:w.heap.size+1+1≠w.heap.size+1+1+1:=by omega
 have NB:=Ke hW1 (Jb (Jb (Jb (Jb BW.out _) _) _) _)
 clear BW
 clear hW1
 generalize w.heap.size+1+1+1=gr at *
 generalize w.heap.size+1+1=gq at *
 generalize w.heap.size+1=gb at *
 obtain ⟨ga,hg0⟩:∃ g,g=w.heap.size:=⟨_,rfl⟩
 rw [← hg0] at Na ⊢
 rw [← hg0] at Daq Dar
 clear hg0
 have Fa:=Jgm Na
 have Fb:=Jgm Nb
 have Fq:=Jgm Nq
 have Fr:=Jgm Nr
 have BW:=Jgm NB
 clear NB Na Nb Nq Nr
 refine (HC.out _).mono ?_
 rintro e v2 ⟨rfl,z2⟩
 have Na:=Jgm (Fa.out.on z2)
 have Nb:=Jgm (Fb.out.on z2)
 have Nq:=Jgm (Fq.out.on z2)
 have Nr:=Jgm (Fr.out.on z2)
 have NB:=Jgm (Jw BW.out z2)
 clear BW z2 Fa Fb Fq Fr
 have Fa:=Na
 have Fb:=Nb
 have Fq:=Nq
 have Fr:=Nr
 have BW:=NB
 clear NB Na Nb Nq Nr
 have Lq:=Fq.out.lt
 have cq0:v2.cell? ⟨gq,0,none⟩=some (.int .u64 0):=Fq.out.cell 0
 have cq1:v2.cell? ⟨gq,1,none⟩=some (.int .u64 0):=Fq.out.cell 1
 have cq2:v2.cell? ⟨gq,2,none⟩=some (.int .u64 0):=Fq.out.cell 2
 have cq3:v2.cell? ⟨gq,3,none⟩=some (.int .u64 0):=Fq.out.cell 3
 obtain ⟨fq0,fq1,fq2,fq3⟩:=Wc Fq.out
 have Lr:=Fr.out.lt
 have cr0:v2.cell? ⟨gr,0,none⟩=some (.int .u64 0):=Fr.out.cell 0
 have cr1:v2.cell? ⟨gr,1,none⟩=some (.int .u64 0):=Fr.out.cell 1
 have cr2:v2.cell? ⟨gr,2,none⟩=some (.int .u64 0):=Fr.out.cell 2
 have cr3:v2.cell? ⟨gr,3,none⟩=some (.int .u64 0):=Fr.out.cell 3
 obtain ⟨fr0,fr1,fr2,fr3⟩:=Wc Fr.out
 go_wp2_with fail
 generalize hW3:((((((((v2.setCell ⟨gq,0,none⟩ (.int .u64 (wd Q 0))).setCell ⟨gq,1,none⟩ (.int .u64 (wd Q 1))).setCell ⟨gq,2,none⟩ (.int .u64 (wd Q 2))).setCell ⟨gq,3,none⟩ (.int .u64 (wd Q 3))).setCell ⟨gr,0,none⟩ (.int .u64 (wd r 0))).setCell ⟨gr,1,none⟩ (.int .u64 (wd r 1))).setCell ⟨gr,2,none⟩ (.int .u64 (wd r 2))).setCell ⟨gr,3,none⟩ (.int .u64 (wd r 3)))=W3 at *
 clear Lq cq0 cq1 cq2 cq3 fq0 fq1 fq2 fq3 Lr cr0 cr1 cr2 cr3 fr0 fr1 fr2 fr3
 have Na_1:=Jd hW3 ((((Fa.out).far4 Daq _ _ _ _)).far4 Dar _ _ _ _)
 have Nb_1:=Jd hW3 ((((Fb.out).far4 Dbq _ _ _ _)).far4 Dbr _ _ _ _)
 have Nq_1:=Jd hW3 ((((Fq.out).put4 _ _ _ _)).far4 Dqr _ _ _ _)
 have Nr_1:=Jd hW3 ((((Fr.out).far4 Dqr.symm _ _ _ _)).put4 _ _ _ _)
 have NB_1:=Ke hW3 ((((((((((BW.out).setCell Eq _).setCell Eq _).setCell Eq _).setCell Eq _)).setCell Er _).setCell Er _).setCell Er _).setCell Er _)
 have Na:=Na_1
 have Nb:=Nb_1
 have Nq:=Nq_1
 have Nr:=Nr_1
 have NB:=NB_1
 clear BW Fa Fb Fq Fr Na_1 Nb_1 Nq_1 Nr_1 NB_1
 clear hW3
 have Fa:=Jgm Na
 have Fb:=Jgm Nb
 have Fq:=Jgm Nq
 have Fr:=Jgm Nr
 have BW:=Jgm NB
 clear NB Na Nb Nq Nr
 try simp only [List.append_eq,List.cons_append,List.nil_append]
 refine wp_region_noPanic ?_
 refine wp_region_held_drew (S:=fun w'=>At w' gq 24 (ncs Q)∧At w' gr 24 (ncs r)) (by kernel_rfl) (⟨Fq.out.drew,Fr.out.drew⟩) (fun _=>?_)
 refine Kf (fuel:=3) (⟨0,19,[],Kind.val (num Q),true⟩::⟨1,20,[],Kind.val (num r),true⟩::[]) _ _ W3 _ ?_ ?_ ?_ ?_ ?_ ?_ ?_ ?_ ?_ ?_ ?_
 ·rfl
 ·kernel_rfl
 ·exact of_decide_eq_true rfl
 ·(repeat refine all_cons ⟨_,rfl,rfl⟩ ?_);exact Jj
 ·exact fun _ hb=>⟨Fq.out.on hb,Fr.out.on hb⟩
 ·exact (Below.refl _ _).drew
 ·kernel_rfl
 ·exact fun _ _ _ _ _ h=>h
 ·refine all_cons ?_ (all_cons ?_ (Jj))
  ·exact Wj _ _ _ _ _ gq _ _ _ _ (by rfl) (by rfl) (ko 4) (fun _ hs=>hs.1)
  ·exact Wj _ _ _ _ _ gr _ _ _ _ (by rfl) (by rfl) (ko 5) (fun _ hs=>hs.2)
 ·refine all_cons ?_ (all_cons ?_ (Jj))
  ·exact sA
  ·exact sA
 intro vs y4 hc
 obtain ⟨vv0,vv1,rfl⟩:=len2 vs hc.lv
 have qq0:=okv hc 0
 have qq1:=okv hc 1
 have BZ:=hc.bel
 clear hc
 have Na:=Fa.out.on BZ
 have Nb:=Fb.out.on BZ
 have Nq:=Fq.out.on BZ
 have Nr:=Fr.out.on BZ
 have HSZ4:=BW.out.size
 have NB:=Jw BW.out BZ
 clear BW BZ Fa Fb Fq Fr
 subst qq0 qq1
 simp only [List.map_cons,List.map_nil,over,Act.put,List.setIfInBounds_toArray,List.set_cons_zero,List.set_cons_succ]
 have OLD:=Nq
 replace Na:=p4f Na Daq Q
 replace Nb:=p4f Nb Dbq Q
 replace Nq:=p4a Nq Q
 replace Nr:=p4f Nr Dqr.symm Q
 replace NB:=p4b NB Eq Q
 refine Uu (i:=2) _ _ _ _ _ gq _ _ _ _ _ _ _ _ (by kernel_rfl) (by rfl) (by rfl) (by rfl) OLD (⟨Nq,Nr⟩) ?_
 clear OLD
 generalize (put4 y4 gq (.int .u64 (wd Q 0)) (.int .u64 (wd Q 1)) (.int .u64 (wd Q 2)) (.int .u64 (wd Q 3)))=y4_2 at *
 have OLD:=Nr
 replace Na:=p4f Na Dar r
 replace Nb:=p4f Nb Dbr r
 replace Nq:=p4f Nq Dqr r
 replace Nr:=p4a Nr r
 replace NB:=p4b NB Er r
 refine Uu (i:=3) _ _ _ _ _ gr _ _ _ _ _ _ _ _ (by kernel_rfl) (by rfl) (by rfl) (by rfl) OLD (⟨Nq,Nr⟩) ?_
 clear OLD
 generalize (put4 y4_2 gr (.int .u64 (wd r 0)) (.int .u64 (wd r 1)) (.int .u64 (wd r 2)) (.int .u64 (wd r 3)))=y4_3 at *
 refine Vn (i:=4) _ 6 _ _ _ _ (by kernel_rfl) (by rfl) (by rfl) (⟨Nq,Nr⟩) ?_
 try simp only [Act.put,List.setIfInBounds_toArray,List.set_cons_zero,List.set_cons_succ]
 refine wpAnyH_done (by kernel_rfl) ?_ _
 refine NoPanic.normal ?_
 have Fa:=Jgm Na
 have Fb:=Jgm Nb
 have Fq:=Jgm Nq
 have Fr:=Jgm Nr
 have BW:=Jgm NB
 clear NB Na Nb Nq Nr
 clear HSZ4
 have Lq:=Fq.out.lt
 obtain ⟨cq0,cq1,cq2,cq3⟩:=Ku Fq.out
 have Lr:=Fr.out.lt
 obtain ⟨cr0,cr1,cr2,cr3⟩:=Ku Fr.out
 go_wp2_with fail
 refine bodyPost_ret (v:=.tuple #[num Q,num r,.int .i64 0]) (by simp [results,Try.results75,go_sem, *]) rfl ⟨rfl,BW.out⟩

theorem div_ex (A B:Nat) (hA:A<2^256) (hB:B<2^256) (hB0:B≠0):∃ Q r:Nat,Q<2^256∧r<B∧A=Q*B+r ∧
  ∀ w,Calls Try.prog 75 #[num A,num B] w fun e w'=>e=.returned (.tuple #[num Q,num r,.int .i64 0])∧Below w.heap.size w w':=by
 obtain ⟨Q,r,hQ,hr,he,C⟩:=behind_ex 0 A B (by omega) hA hB
 exact ⟨Q,r,hQ,hr,by rw [← he];simp [wide],fun w=>div_some A B Q r hB hB0 C w⟩
set_option maxHeartbeats 1000000 in
theorem wide_some (A R M Q y Q2 r:Nat)
  (C:∀ w,Calls Try.prog 75 #[num R,num M] w fun e w'=>e=.returned (.tuple #[num Q,num y,.int .i64 0])∧Below w.heap.size w w')
  (D:∀ w,Calls Try.prog 81 #[num y,num A,num M] w fun e w'=>e=.returned (.tuple #[num Q2,num r])∧Below w.heap.size w w') (w:World) :
  Calls Try.prog 77 #[num A,num R,num M] w fun e w'=>e=.returned (.tuple #[num r,.int .i64 0])∧Below w.heap.size w w':=by
 have HC:=Jgm C
 have HD:=Jgm D
 clear C D
 go_enter Try.func77,Try.ntmps77
 go_wp2_with fail
 have BW:=Jgm (Below.refl w.heap.size w)
 generalize hW1:((((w.alloc (.cells (ncs A) 24)).alloc (.cells (ncs R) 24)).alloc (.cells (ncs M) 24)).alloc (.cells #[.int .u64 0,.int .u64 0,.int .u64 0,.int .u64 0] 24))=W1 at *
 have Na:At W1 (w.heap.size) _ _:=Jd hW1 ((((At.at_ _ _ _ _ (by simp)).alloc _).alloc _).alloc _)
 have Nh:At W1 (w.heap.size+1) _ _:=Jd hW1 (((At.at_ _ _ _ _ (by simp)).alloc _).alloc _)
 have Nm:At W1 (w.heap.size+1+1) _ _:=Jd hW1 ((At.at_ _ _ _ _ (by simp)).alloc _)
 have Nx:At W1 (w.heap.size+1+1+1) _ _:=Jd hW1 (At.at_ _ _ _ _ (by simp))
 have Ex:w.heap.size≤w.heap.size+1+1+1:=by have:=BW.out.size;omega
 have Dax:w.heap.size≠w.heap.size+1+1+1:=by omega
 have Dhx:w.heap.size+1≠w.heap.size+1+1+1:=by omega
 have Dmx:w.heap.size+1+1≠w.heap.size+1+1+1:=by omega
 have NB:=Ke hW1 (Jb (Jb (Jb (Jb BW.out _) _) _) _)
 clear BW
 clear hW1
 generalize w.heap.size+1+1+1=gx at *
 generalize w.heap.size+1+1=gm at *
 generalize w.heap.size+1=gh at *
 obtain ⟨ga,hg0⟩:∃ g,g=w.heap.size:=⟨_,rfl⟩
 rw [← hg0] at Na ⊢
 rw [← hg0] at Dax
 clear hg0
 have Fa:=Jgm Na
 have Fh:=Jgm Nh
 have Fm:=Jgm Nm
 have Fx:=Jgm Nx
 have BW:=Jgm NB
 clear NB Na Nh Nm Nx
 refine (HC.out _).mono ?_
 rintro e v2 ⟨rfl,z2⟩
 have Na:=Jgm (Fa.out.on z2)
 have Nh:=Jgm (Fh.out.on z2)
 have Nm:=Jgm (Fm.out.on z2)
 have Nx:=Jgm (Fx.out.on z2)
 have NB:=Jgm (Jw BW.out z2)
 clear BW z2 Fa Fh Fm Fx
 have Fa:=Na
 have Fh:=Nh
 have Fm:=Nm
 have Fx:=Nx
 have BW:=NB
 clear NB Na Nh Nm Nx
 have La:=Fa.out.lt
 obtain ⟨ca0,ca1,ca2,ca3⟩:=Ku Fa.out
 have Lm:=Fm.out.lt
 obtain ⟨cm0,cm1,cm2,cm3⟩:=Ku Fm.out
 go_wp2_with fail
 generalize hW3:((v2.alloc (.cells (ncs Q) 24)).alloc (.cells (ncs y) 24))=W3 at *
 clear La ca0 ca1 ca2 ca3 Lm cm0 cm1 cm2 cm3
 have Nq:At W3 (v2.heap.size) _ _:=Jd hW3 ((At.at_ _ _ _ _ (by simp)).alloc _)
 have Dxq:gx≠v2.heap.size:=by have:=Fx.out.lt;omega
 have Ny:At W3 (v2.heap.size+1) _ _:=Jd hW3 (At.at_ _ _ _ _ (by simp))
 have Ey:w.heap.size≤v2.heap.size+1:=by have:=BW.out.size;omega
 have Day:ga≠v2.heap.size+1:=by have:=Fa.out.lt;omega
 have Dhy:gh≠v2.heap.size+1:=by have:=Fh.out.lt;omega
 have Dmy:gm≠v2.heap.size+1:=by have:=Fm.out.lt;omega
 have Dxy:gx≠v2.heap.size+1:=by have:=Fx.out.lt;omega
 have Dqy:v2.heap.size≠v2.heap.size+1:=by omega
 have Na:=Jd hW3 ((Fa.out.alloc _).alloc _)
 have Nh:=Jd hW3 ((Fh.out.alloc _).alloc _)
 have Nm:=Jd hW3 ((Fm.out.alloc _).alloc _)
 have Nx:=Jd hW3 ((Fx.out.alloc _).alloc _)
 have NB:=Ke hW3 (Jb (Jb BW.out _) _)
 clear BW Fa Fh Fm Fx
 clear hW3
 generalize v2.heap.size+1=gy at *
 generalize v2.heap.size=gq at *
 have Fa:=Jgm Na
 have Fh:=Jgm Nh
 have Fm:=Jgm Nm
 have Fx:=Jgm Nx
 have Fq:=Jgm Nq
 have Fy:=Jgm Ny
 have BW:=Jgm NB
 clear NB Na Nh Nm Nx Nq Ny
 clear Fh
 clear Fq
 refine (HD.out _).mono ?_
 rintro e v4 ⟨rfl,z4⟩
 have Na:=Jgm (Fa.out.on z4)
 have Nm:=Jgm (Fm.out.on z4)
 have Nx:=Jgm (Fx.out.on z4)
 have Ny:=Jgm (Fy.out.on z4)
 have NB:=Jgm (Jw BW.out z4)
 clear BW z4 Fa Fm Fx Fy
 have Fa:=Na
 have Fm:=Nm
 have Fx:=Nx
 have Fy:=Ny
 have BW:=NB
 clear NB Na Nm Nx Ny
 clear Fa
 clear Fm
 have Ly:=Fy.out.lt
 obtain ⟨cy0,cy1,cy2,cy3⟩:=Ku Fy.out
 obtain ⟨fy0,fy1,fy2,fy3⟩:=Wc Fy.out
 have Lx:=Fx.out.lt
 have cx0:v4.cell? ⟨gx,0,none⟩=some (.int .u64 0):=Fx.out.cell 0
 have cx1:v4.cell? ⟨gx,1,none⟩=some (.int .u64 0):=Fx.out.cell 1
 have cx2:v4.cell? ⟨gx,2,none⟩=some (.int .u64 0):=Fx.out.cell 2
 have cx3:v4.cell? ⟨gx,3,none⟩=some (.int .u64 0):=Fx.out.cell 3
 obtain ⟨fx0,fx1,fx2,fx3⟩:=Wc Fx.out
 go_wp2_with fail
 generalize hW5:((((((((v4.setCell ⟨gy,0,none⟩ (.int .u64 (wd r 0))).setCell ⟨gy,1,none⟩ (.int .u64 (wd r 1))).setCell ⟨gy,2,none⟩ (.int .u64 (wd r 2))).setCell ⟨gy,3,none⟩ (.int .u64 (wd r 3))).setCell ⟨gx,0,none⟩ (.int .u64 (wd r 0))).setCell ⟨gx,1,none⟩ (.int .u64 (wd r 1))).setCell ⟨gx,2,none⟩ (.int .u64 (wd r 2))).setCell ⟨gx,3,none⟩ (.int .u64 (wd r 3)))=W5 at *
 clear Ly cy0 cy1 cy2 cy3 fy0 fy1 fy2 fy3 Lx cx0 cx1 cx2 cx3 fx0 fx1 fx2 fx3
 have Nx_1:=Jd hW5 ((((Fx.out).far4 Dxy _ _ _ _)).put4 _ _ _ _)
 have Ny_1:=Jd hW5 ((((Fy.out).put4 _ _ _ _)).far4 Dxy.symm _ _ _ _)
 have NB_1:=Ke hW5 ((((((((((BW.out).setCell Ey _).setCell Ey _).setCell Ey _).setCell Ey _)).setCell Ex _).setCell Ex _).setCell Ex _).setCell Ex _)
 have Nx:=Nx_1
 have Ny:=Ny_1
 have NB:=NB_1
 clear BW Fx Fy Nx_1 Ny_1 NB_1
 clear hW5
 have Fx:=Jgm Nx
 have Fy:=Jgm Ny
 have BW:=Jgm NB
 clear NB Nx Ny
 have Lx:=Fx.out.lt
 obtain ⟨cx0,cx1,cx2,cx3⟩:=Ku Fx.out
 refine bodyPost_ret (v:=.tuple #[num r,.int .i64 0]) (by simp [results,Try.results77,go_sem, *]) rfl ⟨rfl,BW.out⟩

theorem wide_ex (A R M:Nat) (hA:A<2^256) (hR:R<2^256) (hM:M<2^256) (hM0:M≠0):∃ r:Nat,r<M∧r=wide R A%M ∧
  ∀ w,Calls Try.prog 77 #[num A,num R,num M] w fun e w'=>e=.returned (.tuple #[num r,.int .i64 0])∧Below w.heap.size w w':=by
 obtain ⟨Q,y,hQ,hy,he,C⟩:=div_ex R M hR hM hM0
 obtain ⟨Q2,r,hQ2,hr,he2,D⟩:=behind_ex y A M hy hA hM
 refine ⟨r,hr,?_,fun w=>wide_some A R M Q y Q2 r C D w⟩
 have:wide R A=(Q*2^256+Q2)*M+r:=by
  unfold wide at he2 ⊢
  rw [he]
  generalize 2^256=b at he2 ⊢
  rw [Nat.add_mul,Nat.add_mul,Nat.add_assoc,he2,← Nat.add_assoc,Nat.mul_assoc Q M,Nat.mul_comm M b,← Nat.mul_assoc]
 rw [this,Nat.mul_comm,Nat.mul_add_mod,Nat.mod_eq_of_lt hr]
def Jbg (w:World) (g:Nat):Nat:=match w.heap[g]? with
 | some (.cells cs _ _)=>(intOf (cs.getD 0 undef)).toNat+18446744073709551616*(intOf (cs.getD 1 undef)).toNat+340282366920938463463374607431768211456*(intOf (cs.getD 2 undef)).toNat+6277101735386680763835789423207666416102355444464034512896*(intOf (cs.getD 3 undef)).toNat
 | _=>0
theorem At.val {w:World} {g X:Nat} {t:TypeId} (hX:X<2^256) (h:At w g t (ncs X)):Jbg w g=X:=by
 unfold At at h
 unfold Jbg
 rw [h]
 have:=Xt X hX
 simp [intOf]
 omega

end Go.Proofs.Ytcbnmdkmfdjpiaa
