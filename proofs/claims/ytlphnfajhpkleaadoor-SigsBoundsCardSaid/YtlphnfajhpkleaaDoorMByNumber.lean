/-
 divides.Div.
-/
import Derived.Test.YtlphnfajhpkleaaDoorMBehind
import Derived.Test.YtlphnfajhpkleaaDoorMSmall
namespace Go.Proofs.YtlphnfajhpkleaaDoor
set_option maxRecDepth 100000
open Go.RowKit
set_option linter.unusedSimpArgs false
set_option linter.unusedVariables false
attribute [local go_sem ↓] Go.wp_at_zero Go.wp_at_succ

theorem num_zero:num 0=.agg #[.int .u64 0,.int .u64 0,.int .u64 0,.int .u64 0]:=rfl
theorem eqZ (X:Nat) (hX:X<2^256) (w:World):(Op.equalIn 10000 24 (num X) (.agg #[.int .u64 0,.int .u64 0,.int .u64 0,.int .u64 0])).run Tryd.prog w=.ok (decide (X=0)) w:=by
 rw [← num_zero];exact eqN X 0 hX (by decide) w

theorem div_zero (A:Nat) (w:World):Calls Tryd.prog 60 #[num A,num 0] w fun e w'=>e=.returned (.tuple #[num 0,num 0,.int .i64 1])∧Below w.heap.size w w':=by
 have eq:∀ w,(Op.equalIn 10000 24 (.agg #[.int .u64 0,.int .u64 0,.int .u64 0,.int .u64 0]) (.agg #[.int .u64 0,.int .u64 0,.int .u64 0,.int .u64 0])).run Tryd.prog w=.ok true w:=fun w=>by rw [← num_zero,eqN 0 0 (by decide) (by decide)];rfl
 rw [num_zero]
 go_enter Tryd.func60,Tryd.ntmps60
 go_wp2_with (simp only [eq])
 refine bodyPost_ret (v:=.tuple #[.agg #[.int .u64 0,.int .u64 0,.int .u64 0,.int .u64 0],.agg #[.int .u64 0,.int .u64 0,.int .u64 0,.int .u64 0],.int .i64 1]) (by simp [results,Tryd.results60,go_sem]) rfl ⟨rfl,?_⟩
 repeat (first | exact Below.refl _ _ | refine gr_alloc ?_ _ | refine Below.setCell ?_ (by simp) _ | refine Below.setCell ?_ (by simp;omega) _ | refine Below.drew ?_ | refine bel_tr ?_ (by assumption))

set_option maxHeartbeats 1000000 in
theorem div_some (A B Q r:Nat) (hB:B<2^256) (hB0:B≠0)
  (C:∀ w,Calls Tryd.prog 72 #[num 0,num A,num B] w fun e w'=>e=.returned (.tuple #[num Q,num r])∧Below w.heap.size w w') (w:World) :
  Calls Tryd.prog 60 #[num A,num B] w fun e w'=>e=.returned (.tuple #[num Q,num r,.int .i64 0])∧Below w.heap.size w w':=by
 have eq:∀ w,(Op.equalIn 10000 24 (num B) (.agg #[.int .u64 0,.int .u64 0,.int .u64 0,.int .u64 0])).run Tryd.prog w=.ok false w:=fun w=>by rw [eqZ B hB];simp [hB0]
 rw [num_zero] at C
 have HC:=Lib.hid C
 clear C hB hB0
 go_enter Tryd.func60,Tryd.ntmps60
 go_wp2_with (simp only [eq])
 have BW:=Lib.hid (Below.refl w.heap.size w)
 generalize hW1:((((w.alloc (.cells (ncs A) 24)).alloc (.cells (ncs B) 24)).alloc (.cells #[.int .u64 0,.int .u64 0,.int .u64 0,.int .u64 0] 24)).alloc (.cells #[.int .u64 0,.int .u64 0,.int .u64 0,.int .u64 0] 24))=W1 at *
 clear eq
 have Na:At W1 (w.heap.size) _ _:=at_of hW1 ((((At.at_ _ _ _ _ (by simp)).alloc _).alloc _).alloc _)
 have Nb:At W1 (w.heap.size+1) _ _:=at_of hW1 (((At.at_ _ _ _ _ (by simp)).alloc _).alloc _)
 have Nq:At W1 (w.heap.size+1+1) _ _:=at_of hW1 ((At.at_ _ _ _ _ (by simp)).alloc _)
 have Eq:w.heap.size≤w.heap.size+1+1:=by have:=BW.out.size;omega
 have Daq:w.heap.size≠w.heap.size+1+1:=by omega
 have Dbq:w.heap.size+1≠w.heap.size+1+1:=by omega
 have Nr:At W1 (w.heap.size+1+1+1) _ _:=at_of hW1 (At.at_ _ _ _ _ (by simp))
 have Er:w.heap.size≤w.heap.size+1+1+1:=by have:=BW.out.size;omega
 have Dar:w.heap.size≠w.heap.size+1+1+1:=by omega
 have Dbr:w.heap.size+1≠w.heap.size+1+1+1:=by omega
 have Dqr:w.heap.size+1+1≠w.heap.size+1+1+1:=by omega
 have NB:=gr_of hW1 (gr_alloc (gr_alloc (gr_alloc (gr_alloc BW.out _) _) _) _)
 clear BW
 clear hW1
 generalize w.heap.size+1+1+1=gr at *
 generalize w.heap.size+1+1=gq at *
 generalize w.heap.size+1=gb at *
 obtain ⟨ga,hg0⟩:∃ g,g=w.heap.size:=⟨_,rfl⟩
 rw [← hg0] at Na ⊢
 rw [← hg0] at Daq Dar
 clear hg0
 have Fa:=Lib.hid Na
 have Fb:=Lib.hid Nb
 have Fq:=Lib.hid Nq
 have Fr:=Lib.hid Nr
 have BW:=Lib.hid NB
 clear NB Na Nb Nq Nr
 refine (HC.out _).mono ?_
 rintro e v2 ⟨rfl,z2⟩
 have Na:=Lib.hid (Fa.out.on z2)
 have Nb:=Lib.hid (Fb.out.on z2)
 have Nq:=Lib.hid (Fq.out.on z2)
 have Nr:=Lib.hid (Fr.out.on z2)
 have NB:=Lib.hid (bel_tr BW.out z2)
 clear BW z2 Fa Fb Fq Fr
 have Fa:=Na
 have Fb:=Nb
 have Fq:=Nq
 have Fr:=Nr
 have BW:=NB
 clear NB Na Nb Nq Nr
 have Lq:=Fq.out.lt
 have cq0:v2.cell? ⟨gq,0,none⟩=some (.int .u64 0):=Fq.out.cell 0
 have cq1:v2.cell? ⟨gq,1,none⟩=some (.int .u64 0):=Fq.out.cell 1
 have cq2:v2.cell? ⟨gq,2,none⟩=some (.int .u64 0):=Fq.out.cell 2
 have cq3:v2.cell? ⟨gq,3,none⟩=some (.int .u64 0):=Fq.out.cell 3
 obtain ⟨fq0,fq1,fq2,fq3⟩:=frz4 Fq.out
 have Lr:=Fr.out.lt
 have cr0:v2.cell? ⟨gr,0,none⟩=some (.int .u64 0):=Fr.out.cell 0
 have cr1:v2.cell? ⟨gr,1,none⟩=some (.int .u64 0):=Fr.out.cell 1
 have cr2:v2.cell? ⟨gr,2,none⟩=some (.int .u64 0):=Fr.out.cell 2
 have cr3:v2.cell? ⟨gr,3,none⟩=some (.int .u64 0):=Fr.out.cell 3
 obtain ⟨fr0,fr1,fr2,fr3⟩:=frz4 Fr.out
 go_wp2_with fail
 generalize hW3:((((((((v2.setCell ⟨gq,0,none⟩ (.int .u64 (wd Q 0:Nat))).setCell ⟨gq,1,none⟩ (.int .u64 (wd Q 1:Nat))).setCell ⟨gq,2,none⟩ (.int .u64 (wd Q 2:Nat))).setCell ⟨gq,3,none⟩ (.int .u64 (wd Q 3:Nat))).setCell ⟨gr,0,none⟩ (.int .u64 (wd r 0:Nat))).setCell ⟨gr,1,none⟩ (.int .u64 (wd r 1:Nat))).setCell ⟨gr,2,none⟩ (.int .u64 (wd r 2:Nat))).setCell ⟨gr,3,none⟩ (.int .u64 (wd r 3:Nat)))=W3 at *
 clear Lq cq0 cq1 cq2 cq3 fq0 fq1 fq2 fq3 Lr cr0 cr1 cr2 cr3 fr0 fr1 fr2 fr3
 have Na_1:=at_of hW3 ((((Fa.out).far4 Daq _ _ _ _)).far4 Dar _ _ _ _)
 have Nb_1:=at_of hW3 ((((Fb.out).far4 Dbq _ _ _ _)).far4 Dbr _ _ _ _)
 have Nq_1:=at_of hW3 ((((Fq.out).put4 _ _ _ _)).far4 Dqr _ _ _ _)
 have Nr_1:=at_of hW3 ((((Fr.out).far4 Dqr.symm _ _ _ _)).put4 _ _ _ _)
 have NB_1:=gr_of hW3 ((((((((((BW.out).setCell Eq _).setCell Eq _).setCell Eq _).setCell Eq _)).setCell Er _).setCell Er _).setCell Er _).setCell Er _)
 have Na:=Na_1
 have Nb:=Nb_1
 have Nq:=Nq_1
 have Nr:=Nr_1
 have NB:=NB_1
 clear BW Fa Fb Fq Fr Na_1 Nb_1 Nq_1 Nr_1 NB_1
 clear hW3
 have Fa:=Lib.hid Na
 have Fb:=Lib.hid Nb
 have Fq:=Lib.hid Nq
 have Fr:=Lib.hid Nr
 have BW:=Lib.hid NB
 clear NB Na Nb Nq Nr
 try simp only [List.append_eq,List.cons_append,List.nil_append]
 refine wp_region_noPanic ?_
 refine wp_region_held_drew (S:=fun w'=>At w' gq 24 (ncs Q)∧At w' gr 24 (ncs r)) (by kernel_rfl) (⟨Fq.out.drew,Fr.out.drew⟩) (fun _=>?_)
 refine wpAnyH_cores (fuel:=3) (⟨0,19,[],Kind.val (num Q),true⟩::⟨1,20,[],Kind.val (num r),true⟩::[]) _ _ W3 _ ?_ ?_ ?_ ?_ ?_ ?_ ?_ ?_ ?_ ?_ ?_
 ·rfl
 ·kernel_rfl
 ·exact of_decide_eq_true rfl
 ·(repeat refine all_cons ⟨_,rfl,rfl⟩ ?_);exact all_nil
 ·exact fun _ hb=>⟨Fq.out.on hb,Fr.out.on hb⟩
 ·exact (Below.refl _ _).drew
 ·kernel_rfl
 ·exact fun _ _ _ _ _ h=>h
 ·refine all_cons ?_ (all_cons ?_ (all_nil))
  ·exact core_loadP _ _ _ _ _ gq _ _ _ _ (by rfl) (by rfl) (ko 4) (fun _ hs=>hs.1)
  ·exact core_loadP _ _ _ _ _ gr _ _ _ _ (by rfl) (by rfl) (ko 5) (fun _ hs=>hs.2)
 ·refine all_cons ?_ (all_cons ?_ (all_nil))
  ·exact sA
  ·exact sA
 intro vs y4 hc
 obtain ⟨vv0,vv1,rfl⟩:=len2 vs hc.lv
 have qq0:=okv hc 0
 have qq1:=okv hc 1
 have BZ:=hc.bel
 clear hc
 have Na:=Fa.out.on BZ
 have Nb:=Fb.out.on BZ
 have Nq:=Fq.out.on BZ
 have Nr:=Fr.out.on BZ
 have HSZ4:=BW.out.size
 have NB:=bel_tr BW.out BZ
 clear BW BZ Fa Fb Fq Fr
 subst qq0 qq1
 simp only [List.map_cons,List.map_nil,over,Act.put,List.setIfInBounds_toArray,List.set_cons_zero,List.set_cons_succ]
 have OLD:=Nq
 replace Na:=put4_far Na Daq (.int .u64 (wd Q 0:Nat)) (.int .u64 (wd Q 1:Nat)) (.int .u64 (wd Q 2:Nat)) (.int .u64 (wd Q 3:Nat))
 replace Nb:=put4_far Nb Dbq (.int .u64 (wd Q 0:Nat)) (.int .u64 (wd Q 1:Nat)) (.int .u64 (wd Q 2:Nat)) (.int .u64 (wd Q 3:Nat))
 replace Nq:=put4_at Nq (.int .u64 (wd Q 0:Nat)) (.int .u64 (wd Q 1:Nat)) (.int .u64 (wd Q 2:Nat)) (.int .u64 (wd Q 3:Nat))
 replace Nr:=put4_far Nr Dqr.symm (.int .u64 (wd Q 0:Nat)) (.int .u64 (wd Q 1:Nat)) (.int .u64 (wd Q 2:Nat)) (.int .u64 (wd Q 3:Nat))
 replace NB:=put4_below NB Eq (.int .u64 (wd Q 0:Nat)) (.int .u64 (wd Q 1:Nat)) (.int .u64 (wd Q 2:Nat)) (.int .u64 (wd Q 3:Nat))
 refine store_one (i:=2) _ _ _ _ _ gq _ _ _ _ _ _ _ _ (by kernel_rfl) (by rfl) (by rfl) (by rfl) OLD (⟨Nq,Nr⟩) ?_
 clear OLD
 generalize (put4 y4 gq (.int .u64 (wd Q 0:Nat)) (.int .u64 (wd Q 1:Nat)) (.int .u64 (wd Q 2:Nat)) (.int .u64 (wd Q 3:Nat)))=y4_2 at *
 have OLD:=Nr
 replace Na:=put4_far Na Dar (.int .u64 (wd r 0:Nat)) (.int .u64 (wd r 1:Nat)) (.int .u64 (wd r 2:Nat)) (.int .u64 (wd r 3:Nat))
 replace Nb:=put4_far Nb Dbr (.int .u64 (wd r 0:Nat)) (.int .u64 (wd r 1:Nat)) (.int .u64 (wd r 2:Nat)) (.int .u64 (wd r 3:Nat))
 replace Nq:=put4_far Nq Dqr (.int .u64 (wd r 0:Nat)) (.int .u64 (wd r 1:Nat)) (.int .u64 (wd r 2:Nat)) (.int .u64 (wd r 3:Nat))
 replace Nr:=put4_at Nr (.int .u64 (wd r 0:Nat)) (.int .u64 (wd r 1:Nat)) (.int .u64 (wd r 2:Nat)) (.int .u64 (wd r 3:Nat))
 replace NB:=put4_below NB Er (.int .u64 (wd r 0:Nat)) (.int .u64 (wd r 1:Nat)) (.int .u64 (wd r 2:Nat)) (.int .u64 (wd r 3:Nat))
 refine store_one (i:=3) _ _ _ _ _ gr _ _ _ _ _ _ _ _ (by kernel_rfl) (by rfl) (by rfl) (by rfl) OLD (⟨Nq,Nr⟩) ?_
 clear OLD
 generalize (put4 y4_2 gr (.int .u64 (wd r 0:Nat)) (.int .u64 (wd r 1:Nat)) (.int .u64 (wd r 2:Nat)) (.int .u64 (wd r 3:Nat)))=y4_3 at *
 refine assign_one (i:=4) _ 6 _ _ _ _ (by kernel_rfl) (by rfl) (by rfl) (⟨Nq,Nr⟩) ?_
 try simp only [Act.put,List.setIfInBounds_toArray,List.set_cons_zero,List.set_cons_succ]
 refine wpAnyH_done (by kernel_rfl) ?_ _
 refine NoPanic.normal ?_
 have Fa:=Lib.hid Na
 have Fb:=Lib.hid Nb
 have Fq:=Lib.hid Nq
 have Fr:=Lib.hid Nr
 have BW:=Lib.hid NB
 clear NB Na Nb Nq Nr
 clear HSZ4
 have Lq:=Fq.out.lt
 obtain ⟨cq0,cq1,cq2,cq3⟩:=cel4 Fq.out
 have Lr:=Fr.out.lt
 obtain ⟨cr0,cr1,cr2,cr3⟩:=cel4 Fr.out
 go_wp2_with fail
 refine bodyPost_ret (v:=.tuple #[num Q,num r,.int .i64 0]) (by simp [results,Tryd.results60,go_sem, *]) rfl ⟨rfl,BW.out⟩

/-- divides.Div -/
theorem div_ex (A B:Nat) (hA:A<2^256) (hB:B<2^256) (hB0:B≠0):∃ Q r:Nat,Q<2^256∧r<B∧A=Q*B+r ∧
  ∀ w,Calls Tryd.prog 60 #[num A,num B] w fun e w'=>e=.returned (.tuple #[num Q,num r,.int .i64 0])∧Below w.heap.size w w':=by
 obtain ⟨Q,r,hQ,hr,he,C⟩:=behind_ex 0 A B (by omega) hA hB
 exact ⟨Q,r,hQ,hr,by rw [← he];simp [wide],fun w=>div_some A B Q r hB hB0 C w⟩
end Go.Proofs.YtlphnfajhpkleaaDoor

/-
 divides.Wide.
-/
namespace Go.Proofs.YtlphnfajhpkleaaDoor
set_option maxRecDepth 100000
open Go.RowKit
set_option linter.unusedSimpArgs false
set_option linter.unusedVariables false
attribute [local go_sem ↓] Go.wp_at_zero Go.wp_at_succ

set_option maxHeartbeats 1000000 in
theorem wide_none (A R:Nat) (w:World):Calls Tryd.prog 56 #[num A,num R,num 0] w fun e w'=>e=.returned (.tuple #[num 0,.int .i64 1])∧Below w.heap.size w w':=by
 have C:=div_zero R
 rw [num_zero] at C ⊢
 have HC:=Lib.hid C
 clear C
 go_enter Tryd.func56,Tryd.ntmps56
 go_wp2_with fail
 have BW:=Lib.hid (Below.refl w.heap.size w)
 generalize hW1:((((w.alloc (.cells (ncs A) 24)).alloc (.cells (ncs R) 24)).alloc (.cells #[.int .u64 0,.int .u64 0,.int .u64 0,.int .u64 0] 24)).alloc (.cells #[.int .u64 0,.int .u64 0,.int .u64 0,.int .u64 0] 24))=W1 at *
 have Na:At W1 (w.heap.size) _ _:=at_of hW1 ((((At.at_ _ _ _ _ (by simp)).alloc _).alloc _).alloc _)
 have Nh:At W1 (w.heap.size+1) _ _:=at_of hW1 (((At.at_ _ _ _ _ (by simp)).alloc _).alloc _)
 have Nm:At W1 (w.heap.size+1+1) _ _:=at_of hW1 ((At.at_ _ _ _ _ (by simp)).alloc _)
 have Nx:At W1 (w.heap.size+1+1+1) _ _:=at_of hW1 (At.at_ _ _ _ _ (by simp))
 have Ex:w.heap.size≤w.heap.size+1+1+1:=by have:=BW.out.size;omega
 have Dax:w.heap.size≠w.heap.size+1+1+1:=by omega
 have Dhx:w.heap.size+1≠w.heap.size+1+1+1:=by omega
 have Dmx:w.heap.size+1+1≠w.heap.size+1+1+1:=by omega
 have NB:=gr_of hW1 (gr_alloc (gr_alloc (gr_alloc (gr_alloc BW.out _) _) _) _)
 clear BW
 clear hW1
 generalize w.heap.size+1+1+1=gx at *
 generalize w.heap.size+1+1=gm at *
 generalize w.heap.size+1=gh at *
 obtain ⟨ga,hg0⟩:∃ g,g=w.heap.size:=⟨_,rfl⟩
 rw [← hg0] at Na ⊢
 rw [← hg0] at Dax
 clear hg0
 have Fa:=Lib.hid Na
 have Fh:=Lib.hid Nh
 have Fm:=Lib.hid Nm
 have Fx:=Lib.hid Nx
 have BW:=Lib.hid NB
 clear NB Na Nh Nm Nx
 refine (HC.out _).mono ?_
 rintro e v2 ⟨rfl,z2⟩
 have Na:=Lib.hid (Fa.out.on z2)
 have Nh:=Lib.hid (Fh.out.on z2)
 have Nm:=Lib.hid (Fm.out.on z2)
 have Nx:=Lib.hid (Fx.out.on z2)
 have NB:=Lib.hid (bel_tr BW.out z2)
 clear BW z2 Fa Fh Fm Fx
 have Fa:=Na
 have Fh:=Nh
 have Fm:=Nm
 have Fx:=Nx
 have BW:=NB
 clear NB Na Nh Nm Nx
 have Lx:=Fx.out.lt
 have cx0:v2.cell? ⟨gx,0,none⟩=some (.int .u64 0):=Fx.out.cell 0
 have cx1:v2.cell? ⟨gx,1,none⟩=some (.int .u64 0):=Fx.out.cell 1
 have cx2:v2.cell? ⟨gx,2,none⟩=some (.int .u64 0):=Fx.out.cell 2
 have cx3:v2.cell? ⟨gx,3,none⟩=some (.int .u64 0):=Fx.out.cell 3
 obtain ⟨fx0,fx1,fx2,fx3⟩:=frz4 Fx.out
 go_wp2_with fail
 generalize hW3:((((v2.setCell ⟨gx,0,none⟩ (.int .u64 0)).setCell ⟨gx,1,none⟩ (.int .u64 0)).setCell ⟨gx,2,none⟩ (.int .u64 0)).setCell ⟨gx,3,none⟩ (.int .u64 0))=W3 at *
 clear Lx cx0 cx1 cx2 cx3 fx0 fx1 fx2 fx3
 have Na_0:=at_of hW3 ((Fa.out).far4 Dax _ _ _ _)
 have Nh_0:=at_of hW3 ((Fh.out).far4 Dhx _ _ _ _)
 have Nm_0:=at_of hW3 ((Fm.out).far4 Dmx _ _ _ _)
 have Nx_0:=at_of hW3 ((Fx.out).put4 _ _ _ _)
 have NB_0:=gr_of hW3 (((((BW.out).setCell Ex _).setCell Ex _).setCell Ex _).setCell Ex _)
 have Na:=Na_0
 have Nh:=Nh_0
 have Nm:=Nm_0
 have Nx:=Nx_0
 have NB:=NB_0
 clear BW Fa Fh Fm Fx Na_0 Nh_0 Nm_0 Nx_0 NB_0
 clear hW3
 have Fa:=Lib.hid Na
 have Fh:=Lib.hid Nh
 have Fm:=Lib.hid Nm
 have Fx:=Lib.hid Nx
 have BW:=Lib.hid NB
 generalize hW4:((W3.alloc (.cells #[.int .u64 0,.int .u64 0,.int .u64 0,.int .u64 0] 24)).alloc (.cells #[.int .u64 0,.int .u64 0,.int .u64 0,.int .u64 0] 24))=W4 at *
 clear NB Na Nh Nm Nx
 have Nq:At W4 (W3.heap.size) _ _:=at_of hW4 ((At.at_ _ _ _ _ (by simp)).alloc _)
 have Dxq:gx≠W3.heap.size:=by have:=Fx.out.lt;omega
 have Ny:At W4 (W3.heap.size+1) _ _:=at_of hW4 (At.at_ _ _ _ _ (by simp))
 have Dxy:gx≠W3.heap.size+1:=by have:=Fx.out.lt;omega
 have Na:=at_of hW4 ((Fa.out.alloc _).alloc _)
 have Nh:=at_of hW4 ((Fh.out.alloc _).alloc _)
 have Nm:=at_of hW4 ((Fm.out.alloc _).alloc _)
 have Nx:=at_of hW4 ((Fx.out.alloc _).alloc _)
 have NB:=gr_of hW4 (gr_alloc (gr_alloc BW.out _) _)
 clear BW Fa Fh Fm Fx
 clear hW4
 generalize W3.heap.size+1=gy at *
 generalize W3.heap.size=gq at *
 have Fa:=Lib.hid Na
 have Fh:=Lib.hid Nh
 have Fm:=Lib.hid Nm
 have Fx:=Lib.hid Nx
 have Fq:=Lib.hid Nq
 have Fy:=Lib.hid Ny
 have BW:=Lib.hid NB
 clear NB Na Nh Nm Nx Nq Ny
 clear Fa
 clear Fh
 clear Fm
 clear Fq
 clear Fy
 have Lx:=Fx.out.lt
 have cx0:W4.cell? ⟨gx,0,none⟩=some (.int .u64 0):=Fx.out.cell 0
 have cx1:W4.cell? ⟨gx,1,none⟩=some (.int .u64 0):=Fx.out.cell 1
 have cx2:W4.cell? ⟨gx,2,none⟩=some (.int .u64 0):=Fx.out.cell 2
 have cx3:W4.cell? ⟨gx,3,none⟩=some (.int .u64 0):=Fx.out.cell 3
 refine bodyPost_ret (v:=.tuple #[.agg #[.int .u64 0,.int .u64 0,.int .u64 0,.int .u64 0],.int .i64 1]) (by simp [results,Tryd.results56,go_sem, *]) rfl ⟨rfl,BW.out⟩

set_option maxHeartbeats 1000000 in
theorem wide_some (A R M Q y Q2 r:Nat)
  (C:∀ w,Calls Tryd.prog 60 #[num R,num M] w fun e w'=>e=.returned (.tuple #[num Q,num y,.int .i64 0])∧Below w.heap.size w w')
  (D:∀ w,Calls Tryd.prog 72 #[num y,num A,num M] w fun e w'=>e=.returned (.tuple #[num Q2,num r])∧Below w.heap.size w w') (w:World) :
  Calls Tryd.prog 56 #[num A,num R,num M] w fun e w'=>e=.returned (.tuple #[num r,.int .i64 0])∧Below w.heap.size w w':=by
 have HC:=Lib.hid C
 have HD:=Lib.hid D
 clear C D
 go_enter Tryd.func56,Tryd.ntmps56
 go_wp2_with fail
 have BW:=Lib.hid (Below.refl w.heap.size w)
 generalize hW1:((((w.alloc (.cells (ncs A) 24)).alloc (.cells (ncs R) 24)).alloc (.cells (ncs M) 24)).alloc (.cells #[.int .u64 0,.int .u64 0,.int .u64 0,.int .u64 0] 24))=W1 at *
 have Na:At W1 (w.heap.size) _ _:=at_of hW1 ((((At.at_ _ _ _ _ (by simp)).alloc _).alloc _).alloc _)
 have Nh:At W1 (w.heap.size+1) _ _:=at_of hW1 (((At.at_ _ _ _ _ (by simp)).alloc _).alloc _)
 have Nm:At W1 (w.heap.size+1+1) _ _:=at_of hW1 ((At.at_ _ _ _ _ (by simp)).alloc _)
 have Nx:At W1 (w.heap.size+1+1+1) _ _:=at_of hW1 (At.at_ _ _ _ _ (by simp))
 have Ex:w.heap.size≤w.heap.size+1+1+1:=by have:=BW.out.size;omega
 have Dax:w.heap.size≠w.heap.size+1+1+1:=by omega
 have Dhx:w.heap.size+1≠w.heap.size+1+1+1:=by omega
 have Dmx:w.heap.size+1+1≠w.heap.size+1+1+1:=by omega
 have NB:=gr_of hW1 (gr_alloc (gr_alloc (gr_alloc (gr_alloc BW.out _) _) _) _)
 clear BW
 clear hW1
 generalize w.heap.size+1+1+1=gx at *
 generalize w.heap.size+1+1=gm at *
 generalize w.heap.size+1=gh at *
 obtain ⟨ga,hg0⟩:∃ g,g=w.heap.size:=⟨_,rfl⟩
 rw [← hg0] at Na ⊢
 rw [← hg0] at Dax
 clear hg0
 have Fa:=Lib.hid Na
 have Fh:=Lib.hid Nh
 have Fm:=Lib.hid Nm
 have Fx:=Lib.hid Nx
 have BW:=Lib.hid NB
 clear NB Na Nh Nm Nx
 refine (HC.out _).mono ?_
 rintro e v2 ⟨rfl,z2⟩
 have Na:=Lib.hid (Fa.out.on z2)
 have Nh:=Lib.hid (Fh.out.on z2)
 have Nm:=Lib.hid (Fm.out.on z2)
 have Nx:=Lib.hid (Fx.out.on z2)
 have NB:=Lib.hid (bel_tr BW.out z2)
 clear BW z2 Fa Fh Fm Fx
 have Fa:=Na
 have Fh:=Nh
 have Fm:=Nm
 have Fx:=Nx
 have BW:=NB
 clear NB Na Nh Nm Nx
 have La:=Fa.out.lt
 obtain ⟨ca0,ca1,ca2,ca3⟩:=cel4 Fa.out
 have Lm:=Fm.out.lt
 obtain ⟨cm0,cm1,cm2,cm3⟩:=cel4 Fm.out
 go_wp2_with fail
 generalize hW3:((v2.alloc (.cells (ncs Q) 24)).alloc (.cells (ncs y) 24))=W3 at *
 clear La ca0 ca1 ca2 ca3 Lm cm0 cm1 cm2 cm3
 have Nq:At W3 (v2.heap.size) _ _:=at_of hW3 ((At.at_ _ _ _ _ (by simp)).alloc _)
 have Dxq:gx≠v2.heap.size:=by have:=Fx.out.lt;omega
 have Ny:At W3 (v2.heap.size+1) _ _:=at_of hW3 (At.at_ _ _ _ _ (by simp))
 have Ey:w.heap.size≤v2.heap.size+1:=by have:=BW.out.size;omega
 have Day:ga≠v2.heap.size+1:=by have:=Fa.out.lt;omega
 have Dhy:gh≠v2.heap.size+1:=by have:=Fh.out.lt;omega
 have Dmy:gm≠v2.heap.size+1:=by have:=Fm.out.lt;omega
 have Dxy:gx≠v2.heap.size+1:=by have:=Fx.out.lt;omega
 have Dqy:v2.heap.size≠v2.heap.size+1:=by omega
 have Na:=at_of hW3 ((Fa.out.alloc _).alloc _)
 have Nh:=at_of hW3 ((Fh.out.alloc _).alloc _)
 have Nm:=at_of hW3 ((Fm.out.alloc _).alloc _)
 have Nx:=at_of hW3 ((Fx.out.alloc _).alloc _)
 have NB:=gr_of hW3 (gr_alloc (gr_alloc BW.out _) _)
 clear BW Fa Fh Fm Fx
 clear hW3
 generalize v2.heap.size+1=gy at *
 generalize v2.heap.size=gq at *
 have Fa:=Lib.hid Na
 have Fh:=Lib.hid Nh
 have Fm:=Lib.hid Nm
 have Fx:=Lib.hid Nx
 have Fq:=Lib.hid Nq
 have Fy:=Lib.hid Ny
 have BW:=Lib.hid NB
 clear NB Na Nh Nm Nx Nq Ny
 clear Fh
 clear Fq
 refine (HD.out _).mono ?_
 rintro e v4 ⟨rfl,z4⟩
 have Na:=Lib.hid (Fa.out.on z4)
 have Nm:=Lib.hid (Fm.out.on z4)
 have Nx:=Lib.hid (Fx.out.on z4)
 have Ny:=Lib.hid (Fy.out.on z4)
 have NB:=Lib.hid (bel_tr BW.out z4)
 clear BW z4 Fa Fm Fx Fy
 have Fa:=Na
 have Fm:=Nm
 have Fx:=Nx
 have Fy:=Ny
 have BW:=NB
 clear NB Na Nm Nx Ny
 clear Fa
 clear Fm
 have Ly:=Fy.out.lt
 obtain ⟨cy0,cy1,cy2,cy3⟩:=cel4 Fy.out
 obtain ⟨fy0,fy1,fy2,fy3⟩:=frz4 Fy.out
 have Lx:=Fx.out.lt
 have cx0:v4.cell? ⟨gx,0,none⟩=some (.int .u64 0):=Fx.out.cell 0
 have cx1:v4.cell? ⟨gx,1,none⟩=some (.int .u64 0):=Fx.out.cell 1
 have cx2:v4.cell? ⟨gx,2,none⟩=some (.int .u64 0):=Fx.out.cell 2
 have cx3:v4.cell? ⟨gx,3,none⟩=some (.int .u64 0):=Fx.out.cell 3
 obtain ⟨fx0,fx1,fx2,fx3⟩:=frz4 Fx.out
 go_wp2_with fail
 generalize hW5:((((((((v4.setCell ⟨gy,0,none⟩ (.int .u64 (wd r 0:Nat))).setCell ⟨gy,1,none⟩ (.int .u64 (wd r 1:Nat))).setCell ⟨gy,2,none⟩ (.int .u64 (wd r 2:Nat))).setCell ⟨gy,3,none⟩ (.int .u64 (wd r 3:Nat))).setCell ⟨gx,0,none⟩ (.int .u64 (wd r 0:Nat))).setCell ⟨gx,1,none⟩ (.int .u64 (wd r 1:Nat))).setCell ⟨gx,2,none⟩ (.int .u64 (wd r 2:Nat))).setCell ⟨gx,3,none⟩ (.int .u64 (wd r 3:Nat)))=W5 at *
 clear Ly cy0 cy1 cy2 cy3 fy0 fy1 fy2 fy3 Lx cx0 cx1 cx2 cx3 fx0 fx1 fx2 fx3
 have Nx_1:=at_of hW5 ((((Fx.out).far4 Dxy _ _ _ _)).put4 _ _ _ _)
 have Ny_1:=at_of hW5 ((((Fy.out).put4 _ _ _ _)).far4 Dxy.symm _ _ _ _)
 have NB_1:=gr_of hW5 ((((((((((BW.out).setCell Ey _).setCell Ey _).setCell Ey _).setCell Ey _)).setCell Ex _).setCell Ex _).setCell Ex _).setCell Ex _)
 have Nx:=Nx_1
 have Ny:=Ny_1
 have NB:=NB_1
 clear BW Fx Fy Nx_1 Ny_1 NB_1
 clear hW5
 have Fx:=Lib.hid Nx
 have Fy:=Lib.hid Ny
 have BW:=Lib.hid NB
 clear NB Nx Ny
 have Lx:=Fx.out.lt
 obtain ⟨cx0,cx1,cx2,cx3⟩:=cel4 Fx.out
 refine bodyPost_ret (v:=.tuple #[num r,.int .i64 0]) (by simp [results,Tryd.results56,go_sem, *]) rfl ⟨rfl,BW.out⟩

/-- divides.Wide -/
theorem wide_ex (A R M:Nat) (hA:A<2^256) (hR:R<2^256) (hM:M<2^256) (hM0:M≠0):∃ r:Nat,r<M∧r=wide R A%M ∧
  ∀ w,Calls Tryd.prog 56 #[num A,num R,num M] w fun e w'=>e=.returned (.tuple #[num r,.int .i64 0])∧Below w.heap.size w w':=by
 obtain ⟨Q,y,hQ,hy,he,C⟩:=div_ex R M hR hM hM0
 obtain ⟨Q2,r,hQ2,hr,he2,D⟩:=behind_ex y A M hy hA hM
 refine ⟨r,hr,?_,fun w=>wide_some A R M Q y Q2 r C D w⟩
 have:wide R A=(Q*2^256+Q2)*M+r:=by
  unfold wide at he2 ⊢
  rw [he]
  generalize 2^256=b at he2 ⊢
  rw [Nat.add_mul,Nat.add_mul,Nat.add_assoc,he2,← Nat.add_assoc,Nat.mul_assoc Q M,Nat.mul_comm M b,← Nat.mul_assoc]
 rw [this,Nat.mul_comm,Nat.mul_add_mod,Nat.mod_eq_of_lt hr]
end Go.Proofs.YtlphnfajhpkleaaDoor

/-
 divides.Common: by Euclid.
-/
namespace Go.Proofs.YtlphnfajhpkleaaDoor
set_option maxRecDepth 100000
open Go.RowKit
set_option linter.unusedSimpArgs false
set_option linter.unusedVariables false
attribute [local go_sem ↓] Go.wp_at_zero Go.wp_at_succ

/-- what a block of words tells -/
def blockVal (w:World) (g:Nat):Nat:=match w.heap[g]? with
 | some (.cells cs _ _)=>(intOf (cs.getD 0 undef)).toNat+18446744073709551616*(intOf (cs.getD 1 undef)).toNat+340282366920938463463374607431768211456*(intOf (cs.getD 2 undef)).toNat+6277101735386680763835789423207666416102355444464034512896*(intOf (cs.getD 3 undef)).toNat
 | _=>0
theorem At.val {w:World} {g X:Nat} {t:TypeId} (hX:X<2^256) (h:At w g t (ncs X)):blockVal w g=X:=by
 unfold At at h
 unfold blockVal
 rw [h]
 have:=wd_sum X hX
 simp [intOf]
 omega

end Go.Proofs.YtlphnfajhpkleaaDoor

/-
 hashes.Number's closure,walked.
-/
namespace Go.Proofs.YtlphnfajhpkleaaDoor.By
set_option maxRecDepth 100000
open Go.RowKit
set_option linter.unusedSimpArgs false
set_option linter.unusedVariables false
set_option maxRecDepth 100000

def nv (X:Nat):List Value:=[.int .u64 (_root_.Go.Proofs.YtlphnfajhpkleaaDoor.wd X 0:Nat),.int .u64 (_root_.Go.Proofs.YtlphnfajhpkleaaDoor.wd X 1:Nat),.int .u64 (_root_.Go.Proofs.YtlphnfajhpkleaaDoor.wd X 2:Nat),.int .u64 (_root_.Go.Proofs.YtlphnfajhpkleaaDoor.wd X 3:Nat)]
theorem nv_one (X:Nat):∀ u∈nv X,u.oneCell'=true:=by intro u hu;simp [nv] at hu;rcases hu with rfl | rfl | rfl | rfl <;> rfl
theorem zero_num:(Tryd.prog.info? 24).map (·.zero)=some (some (.agg (nv 0).toArray)):=by kernel_rfl
theorem under_num:Tryd.prog.underlying 24=some (.array 4 22):=by kernel_rfl
theorem at_bytes {w:World} {g:Nat} {t:TypeId} {l:List Nat} {xs:List Value} (h:At w g t xs.toArray) (e:bs l=xs) (h32:l.length=32):Rd w (some ⟨g,0,none⟩) 32 (bs l):=by
 subst e
 refine ⟨by rw [bs_len,h32],fun _=>⟨g,0,rfl,h.lt,fun j u hu=>?_⟩⟩
 rw [Nat.zero_add,h.cell]
 simpa using hu
theorem size_num:(Tryd.prog.info? 24).map (·.size)=some 4:=by kernel_rfl

set_option maxHeartbeats 4000000 in
theorem half_ok (x ga gp:Nat) (hx:x<256) (s:ByteArray) (A:Option Addr) (n c:Nat) (RA:Nat→Option Addr) (RL RC:Nat→Nat) (RB:Nat→List Nat) (w:World) (hs:s.size≤1048576) (hn:n≤4000) (hL:∀ j,j<n→RL j≤1048576)
  (hnil:A=none→n=0∧c=0) (hR:Rows2 w A n c RA RL RC RB) (hca:w.cell? ⟨ga,0,none⟩=some (.string s)) (hcp:w.cell? ⟨gp,0,none⟩=some (.slice A n c)) (T:Tabs w) :
  Calls Tryd.prog 52 #[.int .u8 (x:Nat),.pointer (some ⟨ga,0,none⟩),.pointer (some ⟨gp,0,none⟩)] w fun e w'=>e=.returned (_root_.Go.Proofs.YtlphnfajhpkleaaDoor.num (half s n RB x))∧Below w.heap.size w w':=by
 have HR:=Lib.hid hR
 have HN:=Lib.hid hnil
 have HL:=Lib.hid hL
 have HT:=Lib.hid T
 have HA0:=Lib.hid hca
 have HP0:=Lib.hid hcp
 clear hR hnil hL T hca hcp
 go_enter Tryd.func52,Tryd.ntmps52
 go_wp2_with (refine law_alloc (d:=4) (ty:=24) _ zero_num ?_;intro w1 N1)
 have T1:=Lib.hid (HT.out.on N1.bel)
 have A1:=Lib.hid N1.at_
 have B1:=Lib.hid N1.bel
 have R1:=Lib.hid (HR.out.below N1.bel)
 have HCA:=Lib.hid (cell_on N1.bel HA0.out)
 have HCP:=Lib.hid (cell_on N1.bel HP0.out)
 have Z1:=Lib.hid N1.size
 clear N1 HR HT HA0 HP0
 obtain ⟨gr,hgr⟩:∃ x,w.heap.size=x:=⟨_,rfl⟩
 have GR:=Lib.hid hgr
 rw [hgr] at A1 Z1 ⊢
 clear hgr
 have HO:Hid (∀ A2 c2 g2 (u:World),Below w1.heap.size w1 u→n+1≤c2→c2≤9223372036854775807→Rd u A2 (n+1) (heads RA RL RC n++[.slice (some ⟨g2,0,none⟩) 1 1])→Rd u (some ⟨g2,0,none⟩) 1 (bs [x]) →
   Calls Tryd.prog 53 #[.string s,.slice A2 (n+1) c2] u fun e w'=>e=.returned (.agg (bs (sha (hbs (sb s) (n+1) (onem RB n [x])))).toArray)∧Below u.heap.size u w'):=Lib.hid (fun A2 c2 g2 u hb k1 k2 hr hr2=>
  hof_ok s A2 (n+1) c2 _ _ _ _ u hs (by omega) (fun j hj=>by
   by_cases e:j=n
   ·rw [e,onem_at];omega
   ·rw [onem_lt _ _ _ (by omega)];exact HL.out j (by omega)) (rows_ext hr k1 k2 (R1.out.below hb) hr2 hx) (T1.out.on hb))
 have HV:Hid (half s n RB x=val (sha (hbs (sb s) (n+1) (onem RB n [x])))):=Lib.hid rfl
 have HSL:=Lib.hid (sha_len (hbs (sb s) (n+1) (onem RB n [x])))
 have HSB:=Lib.hid (sha_lt (hbs (sb s) (n+1) (onem RB n [x])))
 obtain ⟨sh,hsh⟩:∃ y,sha (hbs (sb s) (n+1) (onem RB n [x]))=y:=⟨_,rfl⟩
 rw [hsh] at HO HV HSL HSB
 clear hsh
 have h32:Hid ((bs sh).length=32):=Lib.hid (by rw [bs_len,HSL.out])
 have ho32:=Lib.hid (bs_one sh)
 obtain ⟨xh,hxh⟩:∃ y,bs sh=y:=⟨_,rfl⟩
 have HXH:=Lib.hid hxh
 rw [hxh] at HO h32 ho32
 clear hxh
 try simp only [List.append_eq,List.cons_append,List.nil_append]
 refine wp_region_noPanic ?_
 refine wp_region_held_drew (S:=fun w'=>Below w1.heap.size w1 w') (by kernel_rfl) ((Below.refl _ _).drew) (fun _=>?_)
 refine wpAnyH_cores (fuel:=1) (⟨0,8,[],Kind.val (.string s),true⟩::⟨1,9,[0],Kind.val (.slice A n c),true⟩::⟨2,10,[1],Kind.val (.int .u8 (x:Nat)),true⟩::⟨3,11,[2],KBytes [x] 1,false⟩::⟨4,12,[2,3],KOne x,false⟩::⟨5,13,[1,2,4],KTwo A n c x,false⟩::⟨6,14,[2,5],KMore (heads RA RL RC n) n x,false⟩::⟨7,15,[0,2,6],Kind.val (.agg xh.toArray),false⟩::⟨8,5,[2],Kind.cell w1.heap.size 28 (bs (List.replicate 32 0)).toArray,false⟩::[]) _ _ w1 _ ?_ ?_ ?_ ?_ ?_ ?_ ?_ ?_ ?_ ?_ ?_
 ·rfl
 ·kernel_rfl
 ·exact of_decide_eq_true (by kernel_rfl)
 ·(repeat refine all_cons ⟨_,by rfl,by rfl⟩ ?_);exact all_nil
 ·exact fun _ hb=>hb
 ·exact (Below.refl _ _).drew
 ·kernel_rfl
 ·exact fun _ _ _ _ _ h=>h
 ·(repeat (refine all_cons ?_ ?_;rotate_left));exact all_nil
  all_goals try exact core_pureAs _ (by rfl)
  ·exact coreG_held _ _ _ _ _ _ _ _ _ (by rfl) (by rfl) wants_none (ko 1) (fun ρ w hx hS=>loadS_run _ ga _ rfl hx (cell_on hS HCA.out) (.inl rfl))
  ·exact coreG_held _ _ _ _ _ _ _ _ _ (by rfl) (by rfl) wants_none (ko 2) (fun ρ w hx hS=>loadS_run _ gp _ rfl hx (cell_on hS HCP.out) (.inr rfl))
  ·exact coreG_move _ _ _ _ _ _ _ (by rfl) (by rfl) wants_none (ko 0)
 ·(repeat (refine all_cons ?_ ?_;rotate_left));exact all_nil
  all_goals try exact sA
  ·exact fun _=>coreK_run _ _ _ _ _ _ (by rfl) wants_none (by rfl) (fun vs w hl hb hp=>by obtain ⟨v10,hv10,hk10⟩:=is_core hl hp 2 10 _ (by simp) (by rfl) (by rfl);have hk:v10=.int .u8 (x:Nat):=hk10;subst hk;exact ⟨_,_,bld1 _ hv10,gr_alloc (Below.refl _ _) _,w.heap.size,rfl,rd_alloc w _ (bs [x])⟩)
  ·exact fun _=>coreK_run _ _ _ _ _ _ (by rfl) wants_none (by rfl) (fun vs w hl hb hp=>by obtain ⟨v11,hv11,hk11⟩:=is_core hl hp 3 11 _ (by simp) (by rfl) (by rfl);obtain ⟨g,rfl,hr⟩:=hk11;exact ⟨_,_,bld2 _ _ _ hv11,gr_alloc (Below.refl _ _) _,w.heap.size,g,rfl,rd_alloc w _ [.slice (some ⟨g,0,none⟩) 1 1],hr.alloc _⟩)
  ·exact fun _=>coreK_run _ _ _ _ _ _ (by rfl) wants_none (by rfl) (fun vs w hl hb hp=>by obtain ⟨v9,hv9,hk9⟩:=is_core hl hp 1 9 _ (by simp) (by rfl) (by rfl);obtain ⟨v12,hv12,hk12⟩:=is_core hl hp 4 12 _ (by simp) (by rfl) (by rfl);have hk:v9=.slice A n c:=hk9;subst hk;obtain ⟨g,g2,rfl,hr,hr2⟩:=hk12;exact ⟨_,_,bld3 _ _ _ _ _ _ hv9 hv12,gr_alloc (Below.refl _ _) _,w.heap.size,g,g2,rfl,rd_alloc w _ [.slice A n c,.slice (some ⟨g,0,none⟩) 1 1],hr.alloc _,hr2.alloc _⟩)
  ·exact fun _=>coreK_call _ 54 _ _ [.tmp 13] _ _ _ _ _ (by rfl) Tryd.func54 (by kernel_rfl) (by rfl) wants_none (by rfl) (fun vs w hl hb hp=>by obtain ⟨v13,hv13,hk13⟩:=is_core hl hp 5 13 _ (by simp) (by rfl) (by rfl);obtain ⟨gx,g,g2,rfl,hx,hr,hr2⟩:=hk13;exact ⟨_,map_one hv13,(concat_ok gx A (some ⟨g,0,none⟩) n c (heads RA RL RC n) (.slice (some ⟨g2,0,none⟩) 1 1) w hx HN.out (R1.out.below hb).heads hr (heads_one _ _ _ _) rfl (by omega)).mono fun e w2 ⟨v,he,ho,hb2⟩=>by obtain ⟨A2,c2,rfl,k1,k2⟩:=own_form ho;exact ⟨_,he,hb2,A2,c2,g2,rfl,k1,(by unfold maxLen at k2;omega),Rd.own ho,hr2.below hb2⟩⟩)
  ·exact fun _=>coreK_call _ 53 _ _ [.tmp 8,.tmp 14] _ _ _ _ _ (by rfl) Tryd.func53 (by kernel_rfl) (by rfl) wants_none (by rfl) (fun vs w hl hb hp=>by obtain ⟨v8,hv8,hk8⟩:=is_core hl hp 0 8 _ (by simp) (by rfl) (by rfl);obtain ⟨v14,hv14,hk14⟩:=is_core hl hp 6 14 _ (by simp) (by rfl) (by rfl);have hk:v8=.string s:=hk8;subst hk;obtain ⟨A2,c2,g2,rfl,k1,k2,hr,hr2⟩:=hk14;exact ⟨_,map_two hv8 hv14,(HO.out A2 c2 g2 w hb k1 k2 hr hr2).mono fun e w2 ⟨he,hb2⟩=>⟨_,he,hb2,rfl⟩⟩)
  ·exact fun _=>coreK_alloc _ _ _ _ _ _ _ (by rfl) zero_hash (by rfl) (Nat.le_refl _)
 intro vs y9 hc
 obtain ⟨vv0,vv1,vv2,vv3,vv4,vv5,vv6,vv7,vv8,rfl⟩:=len9 vs hc.lv
 have qq0:=okv hc 0
 have qq1:=okv hc 1
 have qq2:=okv hc 2
 obtain ⟨xx,hx,hy⟩:=hc.ok 3 _ rfl rfl
 obtain rfl:=Option.some.inj (show some vv3=some xx from hx)
 obtain ⟨g11,rfl,_⟩:=hy
 clear hx
 obtain ⟨xx,hx,hy⟩:=hc.ok 4 _ rfl rfl
 obtain rfl:=Option.some.inj (show some vv4=some xx from hx)
 obtain ⟨g12,_,rfl,_,_⟩:=hy
 clear hx
 obtain ⟨xx,hx,hy⟩:=hc.ok 5 _ rfl rfl
 obtain rfl:=Option.some.inj (show some vv5=some xx from hx)
 obtain ⟨g13,_,_,rfl,_,_,_⟩:=hy
 clear hx
 obtain ⟨xx,hx,hy⟩:=hc.ok 6 _ rfl rfl
 obtain rfl:=Option.some.inj (show some vv6=some xx from hx)
 obtain ⟨A14,c14,_,rfl,_,_,_,_⟩:=hy
 clear hx
 have qq7:=okv hc 7
 obtain ⟨xx,hx,hy⟩:=hc.ok 8 _ rfl rfl
 obtain rfl:=Option.some.inj (show some vv8=some xx from hx)
 obtain ⟨g5,rfl,hg5,hat5⟩:=hy
 clear hx
 have BZ:=hc.bel
 clear hc
 subst qq0 qq1 qq2 qq7
 simp only [List.map_cons,List.map_nil,over,Act.put,List.setIfInBounds_toArray,List.set_cons_zero,List.set_cons_succ]
 have A9:=A1.out.on BZ
 have z32:(bs (List.replicate 32 0)).length=32:=by simp [bs_len]
 have hne:gr≠g5:=by have:=Z1.out;omega
 have P9:=Put.mk (At.sets xh 0 _ _ hat5) (grown_sets xh 0 _ (grown_rf _ _)) (size_sets g5 xh 0 _)
 refine store_row (i:=9) _ _ _ _ _ _ g5 0 _ (bs (List.replicate 32 0)).toArray xh (by kernel_rfl) (by rfl) (by rfl) (by rfl) hat5 (by rw [List.size_toArray,h32.out,z32];omega) (by rw [size_hash,h32.out]) ho32.out (BZ.grown P9.grown BZ.size (by simp;omega)) ?_
 refine wpAnyH_done (by kernel_rfl) ?_ _
 refine NoPanic.normal ?_
 have B10:=Lib.hid ((bel_tr B1.out BZ).grown P9.grown (bel_tr B1.out BZ).size (by have:=GR.out;have:=Z1.out;simp;omega))
 have A10:=Lib.hid (A9.grown P9.grown (by simp;omega))
 have H10:=P9.at_
 rw [put_all _ _ (by rw [h32.out,z32])] at H10
 have H10':=Lib.hid H10
 have L10:=Lib.hid P9.size
 generalize y9.setCells g5 0 xh=w10 at *
 clear P9 H10 A9 BZ hat5 z32 hne hg5 A1 B1 HCA HCP HO
 have HR10:=Lib.hid (at_bytes H10'.out HXH.out HSL.out)
 have HG:=Lib.hid (getLong_ok (some ⟨g5,0,none⟩) 32 32 sh w10 (by omega) (by omega) (by omega) HR10.out HSB.out)
 rw [num_val sh HSL.out HSB.out,← HV.out] at HG
 obtain ⟨X,hX⟩:∃ X,half s n RB x=X:=⟨_,rfl⟩
 rw [hX] at HG
 have HXX:=Lib.hid hX
 clear HR10 hX
 go_wp2_with fail
 refine HG.out.mono ?_
 rintro e w11 ⟨rfl,b11⟩
 have A11:=Lib.hid (A10.out.on b11)
 have B11:=Lib.hid (bel_tr B10.out b11)
 have L11:Hid (gr<w11.heap.size):=Lib.hid A11.out.lt
 clear b11 HG A10 B10 L10 H10'
 go_wp2_with (first | (refine law_alloc (d:=6) (ty:=24) _ zero_num ?_;intro w12 N12;have H12:=Lib.hid N12;clear N12) | (refine law_store (ty:=24) w11.heap.size 0 _ (nv 0).toArray (nv X) rfl rfl H12.out.at_ (Nat.le_refl _) size_num (nv_one X) ?_;intro w13 P13;have H13:=Lib.hid P13;clear P13) | (refine law_load (d:=21) (ty:=24) w11.heap.size 0 (nv X) _ rfl (by have:=H13.out.at_;rw [put_all (nv 0) (nv X) rfl] at this;exact this.all) under_num rfl size_num ?_) | (refine law_store (ty:=24) gr 0 _ (nv 0).toArray (nv X) rfl rfl ((A11.out.on H12.out.bel).grown H13.out.grown (by have:=L11.out;simp;omega)) (Nat.le_refl _) size_num (nv_one X) ?_;intro w14 P14;have H14:=Lib.hid P14;clear P14))
 have L14:=H14.out.at_
 rw [put_all (nv 0) (nv X) rfl] at L14
 refine ret_cell (ty:=24) rfl gr _ (nv X) _ rfl L14 under_num rfl size_num rfl ⟨by rw [HXX.out];rfl,?_⟩
 have b13:Below w.heap.size w w13:=(bel_tr B11.out H12.out.bel).grown H13.out.grown (bel_tr B11.out H12.out.bel).size (by have:=B11.out.size;simp;omega)
 exact b13.grown H14.out.grown b13.size (by have:=GR.out;simp;omega)
end Go.Proofs.YtlphnfajhpkleaaDoor.By

/-
 hashes.Number: what it answers.
-/
namespace Go.Proofs.YtlphnfajhpkleaaDoor.By
set_option maxRecDepth 100000
open Go.RowKit
set_option linter.unusedSimpArgs false
set_option linter.unusedVariables false
set_option maxRecDepth 100000

theorem at_num {w:World} {g X:Nat} {t:TypeId} (h:At w g t (nv X).toArray):w.cell? ⟨g,0,none⟩=some (.int .u64 (_root_.Go.Proofs.YtlphnfajhpkleaaDoor.wd X 0:Nat))∧w.cell? ⟨g,1,none⟩=some (.int .u64 (_root_.Go.Proofs.YtlphnfajhpkleaaDoor.wd X 1:Nat))∧w.cell? ⟨g,2,none⟩=some (.int .u64 (_root_.Go.Proofs.YtlphnfajhpkleaaDoor.wd X 2:Nat))∧w.cell? ⟨g,3,none⟩=some (.int .u64 (_root_.Go.Proofs.YtlphnfajhpkleaaDoor.wd X 3:Nat)):=
 ⟨h.cell 0,h.cell 1,h.cell 2,h.cell 3⟩
/-- the number of twice as many words -/
def twoN (s:ByteArray) (n:Nat) (RB:Nat→List Nat):Nat:=_root_.Go.Proofs.YtlphnfajhpkleaaDoor.wide (half s n RB 0) (half s n RB 1)
def numOf (M:Nat) (s:ByteArray) (n:Nat) (RB:Nat→List Nat):Nat:=if M=0 then 0 else twoN s n RB%M
def errOf (M:Nat):Int:=if M=0 then 1 else 0
theorem wide_all (M:Nat) (hM:M<2^256) (s:ByteArray) (n:Nat) (RB:Nat→List Nat) (w:World) :
  Calls Tryd.prog 56 #[_root_.Go.Proofs.YtlphnfajhpkleaaDoor.num (half s n RB 1),_root_.Go.Proofs.YtlphnfajhpkleaaDoor.num (half s n RB 0),_root_.Go.Proofs.YtlphnfajhpkleaaDoor.num M] w fun e w'=>e=.returned (.tuple #[_root_.Go.Proofs.YtlphnfajhpkleaaDoor.num (numOf M s n RB),.int .i64 (errOf M)])∧Below w.heap.size w w':=by
 by_cases h:M=0
 ·subst h
  exact _root_.Go.Proofs.YtlphnfajhpkleaaDoor.wide_none _ _ w
 ·obtain ⟨r,h1,h2,h3⟩:=_root_.Go.Proofs.YtlphnfajhpkleaaDoor.wide_ex (half s n RB 1) (half s n RB 0) M (half_lt _ _ _ _) (half_lt _ _ _ _) hM h
  have e1:numOf M s n RB=r:=by unfold numOf;rw [if_neg h,h2];rfl
  have e2:errOf M=0:=if_neg h
  rw [e1,e2]
  exact h3 w
section
variable {P:Program} {ops:Array Oper} {Q:Exit→Act→World→Prop} {rest:List Oper} {a:Act} {w:World} {d:Tmp} {ty:TypeId} {pos:String} {after:Array Edge} {x:Operand}
theorem boxC_run {ρ:Operand→Value} {dst:Option Tmp} {gd:Option (Nat × Bool)} (t:TypeId) (v:Value) (ht:t=9∧(∃ s,v=.string s)∨t=80∧(∃ A n c,v=.slice A n c)) (hx:ρ x=v) :
  (execOp ρ ⟨dst,.box t x,ty,pos,after,gd⟩).run Tryd.prog w=.ok (.value (.pointer (some ⟨w.heap.size,0,none⟩))) (w.alloc (.cells #[v] t)):=by
 rcases ht with ⟨rfl,s,rfl⟩ | ⟨rfl,A,n,c,rfl⟩ <;> simp [execOp,hx,go_sem]
theorem law_boxC (t:TypeId) (v:Value) (ht:t=9∧(∃ s,v=.string s)∨t=80∧(∃ A n c,v=.slice A n c)) (hx:a.eval x=v)
  (h:∀ w',New w w' t #[v]→wpList Tryd.prog ops Q rest (a.put (some d) (.pointer (some ⟨w.heap.size,0,none⟩))) w'):wpList Tryd.prog ops Q (⟨some d,.box t x,ty,pos,after,none⟩::rest) a w:=
 law_value rfl (boxC_run t v ht hx) (h _ (New.mk' _ _ _))
end

set_option maxHeartbeats 4000000 in
theorem number_ok (M:Nat) (hM:M<2^256) (s:ByteArray) (A:Option Addr) (n c:Nat) (RA:Nat→Option Addr) (RL RC:Nat→Nat) (RB:Nat→List Nat) (w:World) (hs:s.size≤1048576) (hn:n≤4000) (hL:∀ j,j<n→RL j≤1048576)
  (hnil:A=none→n=0∧c=0) (hR:Rows2 w A n c RA RL RC RB) (T:Tabs w) :
  Calls Tryd.prog 39 #[_root_.Go.Proofs.YtlphnfajhpkleaaDoor.num M,.string s,.slice A n c] w fun e w'=>e=.returned (.tuple #[_root_.Go.Proofs.YtlphnfajhpkleaaDoor.num (numOf M s n RB),.int .i64 (errOf M)])∧Below w.heap.size w w':=by
 have HR:=Lib.hid hR
 have HN:=Lib.hid hnil
 have HL:=Lib.hid hL
 have HT:=Lib.hid T
 have HM:=Lib.hid hM
 clear hR hnil hL T hM
 go_enter Tryd.func39,Tryd.ntmps39
 go_wp2_with (first | (refine law_box (d:=3) (ty:=24) (nv M).toArray rfl ?_;intro w1 N1;have H1:=Lib.hid N1;clear N1) | (refine law_boxC (d:=4) 9 (.string s) (.inl ⟨rfl,_,rfl⟩) rfl ?_;intro w2 N2;have H2:=Lib.hid N2;clear N2) | (refine law_boxC (d:=5) 80 (.slice A n c) (.inr ⟨rfl,_,_,_,rfl⟩) rfl ?_;intro w3 N3;have H3:=Lib.hid N3;clear N3) | (refine law_alloc (d:=6) (ty:=24) _ zero_num ?_;intro w4 N4;have H4:=Lib.hid N4;clear N4))
 have b12:=bel_tr H1.out.bel H2.out.bel
 have b13:=bel_tr b12 H3.out.bel
 have b14:=Lib.hid (bel_tr b13 H4.out.bel)
 have A3:=Lib.hid (((H1.out.at_.on H2.out.bel).on H3.out.bel).on H4.out.bel)
 have CA:=Lib.hid (show w4.cell? ⟨w1.heap.size,0,none⟩=some (.string s) from (((H2.out.at_.on H3.out.bel).on H4.out.bel).cell 0))
 have CP:=Lib.hid (show w4.cell? ⟨w2.heap.size,0,none⟩=some (.slice A n c) from ((H3.out.at_.on H4.out.bel).cell 0))
 have A6:=Lib.hid H4.out.at_
 have R4:=Lib.hid (HR.out.below b14.out)
 have T4:=Lib.hid (HT.out.on b14.out)
 have hz:w.heap.size<w3.heap.size:=by have:=H1.out.size;have:=(bel_tr H2.out.bel H3.out.bel).size;omega
 clear b12 b13 H1 H2 H3 H4 HR HT
 generalize w1.heap.size=g4 at *
 generalize w2.heap.size=g5 at *
 obtain ⟨g3,hg3⟩:∃ y,w.heap.size=y:=⟨_,rfl⟩
 have GR:=Lib.hid hg3
 rw [hg3] at A3 hz ⊢
 clear hg3
 generalize w3.heap.size=g6 at *
 have C0:Hid (∀ u,Below w4.heap.size w4 u→Calls Tryd.prog 52 #[.int .u8 0,.pointer (some ⟨g4,0,none⟩),.pointer (some ⟨g5,0,none⟩)] u fun e w'=>e=.returned (_root_.Go.Proofs.YtlphnfajhpkleaaDoor.num (half s n RB 0))∧Below u.heap.size u w'):=Lib.hid (fun u hb=>half_ok 0 g4 g5 (by omega) s A n c RA RL RC RB u hs hn HL.out HN.out (R4.out.below hb) (cell_on hb CA.out) (cell_on hb CP.out) (T4.out.on hb))
 have C1:Hid (∀ u,Below w4.heap.size w4 u→Calls Tryd.prog 52 #[.int .u8 1,.pointer (some ⟨g4,0,none⟩),.pointer (some ⟨g5,0,none⟩)] u fun e w'=>e=.returned (_root_.Go.Proofs.YtlphnfajhpkleaaDoor.num (half s n RB 1))∧Below u.heap.size u w'):=Lib.hid (fun u hb=>half_ok 1 g4 g5 (by omega) s A n c RA RL RC RB u hs hn HL.out HN.out (R4.out.below hb) (cell_on hb CA.out) (cell_on hb CP.out) (T4.out.on hb))
 have CW:=Lib.hid (wide_all M HM.out s n RB)
 obtain ⟨hi,hhi⟩:∃ y,half s n RB 0=y:=⟨_,rfl⟩
 obtain ⟨lo,hlo⟩:∃ y,half s n RB 1=y:=⟨_,rfl⟩
 obtain ⟨r,hr⟩:∃ y,numOf M s n RB=y:=⟨_,rfl⟩
 obtain ⟨ee,hee⟩:∃ y,errOf M=y:=⟨_,rfl⟩
 rw [hhi] at C0 CW
 rw [hlo] at C1 CW
 rw [hr,hee] at CW
 have HRR:=Lib.hid hr
 have HEE:=Lib.hid hee
 clear hhi hlo hr hee R4 T4 CA CP HL HN HM
 try simp only [List.append_eq,List.cons_append,List.nil_append]
 refine wp_region_noPanic ?_
 refine wp_region_held_drew (S:=fun w'=>At w' g3 24 (nv M).toArray) (by kernel_rfl) (A3.out.drew) (fun _=>?_)
 refine wpAnyH_cores (fuel:=2) (⟨0,10,[],Kind.val (.func (.func 52) #[] #[.pointer (some ⟨g4,0,none⟩),.pointer (some ⟨g5,0,none⟩)]),true⟩::⟨2,12,[0],Kind.val (.func (.func 52) #[] #[.pointer (some ⟨g4,0,none⟩),.pointer (some ⟨g5,0,none⟩)]),true⟩::⟨4,14,[1],Kind.val (.agg (nv M).toArray),true⟩::⟨1,11,[0,2],Kind.val (_root_.Go.Proofs.YtlphnfajhpkleaaDoor.num lo),false⟩::⟨3,13,[1,2,3],Kind.val (_root_.Go.Proofs.YtlphnfajhpkleaaDoor.num hi),false⟩::⟨5,15,[2,3,4],Kind.val (.tuple #[_root_.Go.Proofs.YtlphnfajhpkleaaDoor.num r,.int .i64 ee]),false⟩::⟨6,16,[5],Kind.val (_root_.Go.Proofs.YtlphnfajhpkleaaDoor.num r),true⟩::⟨7,17,[5,6],Kind.val (.int .i64 ee),true⟩::[]) _ _ w4 _ ?_ ?_ ?_ ?_ ?_ ?_ ?_ ?_ ?_ ?_ ?_
 ·rfl
 ·kernel_rfl
 ·exact of_decide_eq_true (by kernel_rfl)
 ·(repeat refine all_cons ⟨_,by rfl,by rfl⟩ ?_);exact all_nil
 ·exact fun _ hb=>A3.out.on hb
 ·exact (Below.refl _ _).drew
 ·kernel_rfl
 ·exact fun _ _ _ _ _ h=>h
 ·(repeat (refine all_cons ?_ ?_;rotate_left));exact all_nil
  all_goals try exact core_pureAs _ (by rfl)
  ·exact coreG_move _ _ _ _ _ _ _ (by rfl) (by rfl) wants_none (ko 8)
  ·exact coreG_move _ _ _ _ _ _ _ (by rfl) (by rfl) wants_none (ko 8)
  ·exact coreG_held _ _ _ _ _ _ _ _ _ (by rfl) (by rfl) wants_none (ko 3) (fun ρ w hx hS=>load_run _ g3 0 (nv M) _ hx hS.all under_num rfl size_num)
  ·exact coreG_extract _ _ 0 _ _ _ _ _ _ (by rfl) (by rfl) wants_none (kc 5 15) rfl
  ·exact coreG_extract _ _ 1 _ _ _ _ _ _ (by rfl) (by rfl) wants_none (kc 5 15) rfl
 ·(repeat (refine all_cons ?_ ?_;rotate_left));exact all_nil
  all_goals try exact sA
  ·exact fun _=>core_callV _ 52 _ _ (.tmp 10) #[.pointer (some ⟨g4,0,none⟩),.pointer (some ⟨g5,0,none⟩)] [.const (.int .u8 1)] [.int .u8 1] _ _ _ _ _ #[.int .u8 1,.pointer (some ⟨g4,0,none⟩),.pointer (some ⟨g5,0,none⟩)] (by rfl) Tryd.func52 (by kernel_rfl) (by rfl) (by rfl) (kc 0 10) (.cons (known_const _) .nil) rfl (fun u hb=>C1.out u hb)
  ·exact fun _=>core_callV _ 52 _ _ (.tmp 12) #[.pointer (some ⟨g4,0,none⟩),.pointer (some ⟨g5,0,none⟩)] [.const (.int .u8 0)] [.int .u8 0] _ _ _ _ _ #[.int .u8 0,.pointer (some ⟨g4,0,none⟩),.pointer (some ⟨g5,0,none⟩)] (by rfl) Tryd.func52 (by kernel_rfl) (by rfl) (by rfl) (kc 1 12) (.cons (known_const _) .nil) rfl (fun u hb=>C0.out u hb)
  ·exact fun _=>coreG_callB _ 56 _ _ [.tmp 11,.tmp 13,.tmp 14] _ _ _ _ _ _ _ (by rfl) Tryd.func56 (by kernel_rfl) (by rfl) (by rfl) wants_none (.cons (kc 3 11) (.cons (kc 4 13) (.cons (kc 2 14) .nil))) (fun u hb=>CW.out u)
 intro vs y9 hc
 obtain ⟨vv0,vv1,vv2,vv3,vv4,vv5,vv6,vv7,rfl⟩:=len8 vs hc.lv
 have qq0:=okv hc 0
 have qq1:=okv hc 1
 have qq2:=okv hc 2
 have qq3:=okv hc 3
 have qq4:=okv hc 4
 have qq5:=okv hc 5
 have qq6:=okv hc 6
 have qq7:=okv hc 7
 have BZ:=hc.bel
 clear hc
 subst qq0 qq1 qq2 qq3 qq4 qq5 qq6 qq7
 simp only [List.map_cons,List.map_nil,over,Act.put,List.setIfInBounds_toArray,List.set_cons_zero,List.set_cons_succ]
 have A9:=A6.out.on BZ
 have B9:=bel_tr b14.out BZ
 have P9:=Put.mk (At.sets (nv r) 0 _ _ A9) (grown_sets (nv r) 0 _ (grown_rf _ _)) (size_sets g6 (nv r) 0 _)
 have B10:=B9.grown P9.grown B9.size (by have:=GR.out;simp;omega)
 have A39:=(A3.out.on BZ).grown P9.grown (by simp;omega)
 refine store_row (i:=8) _ _ _ _ _ _ g6 0 _ (nv 0).toArray (nv r) (by kernel_rfl) (by rfl) (by rfl) (by rfl) A9 (Nat.le_refl _) size_num (nv_one r) A39 ?_
 refine assign_one (i:=9) _ 7 _ _ _ (.int .i64 ee) (by kernel_rfl) (by rfl) (by rfl) A39 ?_
 try simp only [Act.put,List.setIfInBounds_toArray,List.set_cons_zero,List.set_cons_succ]
 refine wpAnyH_done (by kernel_rfl) ?_ _
 refine NoPanic.normal ?_
 have H10:=P9.at_
 rw [put_all (nv 0) (nv r) rfl] at H10
 have H10':=Lib.hid H10
 have HB10:=Lib.hid B10
 clear P9 H10 A9 A39 BZ B9 B10 A3 A6 b14
 generalize y9.setCells g6 0 (nv r)=w10 at *
 obtain ⟨c0,c1,c2,c3⟩:=at_num H10'.out
 go_wp2_with fail
 refine bodyPost_ret (v:=.tuple #[_root_.Go.Proofs.YtlphnfajhpkleaaDoor.num r,.int .i64 ee]) (by simp [results,Tryd.results39,go_sem,c0,c1,c2,c3]) rfl ⟨by rw [HRR.out,HEE.out],HB10.out⟩
end Go.Proofs.YtlphnfajhpkleaaDoor.By
