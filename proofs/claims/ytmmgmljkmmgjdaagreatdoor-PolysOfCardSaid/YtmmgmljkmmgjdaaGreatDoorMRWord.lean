import Derived.Test.YtmmgmljkmmgjdaaGreatDoorMBehind
import Derived.Test.YtmmgmljkmmgjdaaGreatDoorMRCmp
import Derived.Test.YtmmgmljkmmgjdaaGreatDoorMTree
namespace Go.Proofs.YtmmgmljkmmgjdaaGreatDoor
set_option maxRecDepth 100000
set_option maxHeartbeats 8000000
open Go.RowKit
set_option linter.unusedSimpArgs false
set_option linter.unusedVariables false
attribute [local go_sem ↓] Go.wp_at_zero Go.wp_at_succ

theorem num_zero:num 0=.agg #[.int .u64 0,.int .u64 0,.int .u64 0,.int .u64 0]:=rfl
theorem eqZ (X:Nat) (hX:X<2^256) (w:World):(Op.equalIn 10000 24 (num X) (.agg #[.int .u64 0,.int .u64 0,.int .u64 0,.int .u64 0])).run Tryz.prog w=.ok (decide (X=0)) w:=by
 rw [← num_zero];exact eqN X 0 hX (by decide) w

set_option maxHeartbeats 1000000 in
theorem div_some (A B Q r:Nat) (hB:B<2^256) (hB0:B≠0)
  (C:∀ w,Calls Tryz.prog 216 #[num 0,num A,num B] w fun e w'=>e=.returned (.tuple #[num Q,num r])∧Below w.heap.size w w') (w:World) :
  Calls Tryz.prog 215 #[num A,num B] w fun e w'=>e=.returned (.tuple #[num Q,num r,.int .i64 0])∧Below w.heap.size w w':=by
 have eq:∀ w,(Op.equalIn 10000 24 (num B) (.agg #[.int .u64 0,.int .u64 0,.int .u64 0,.int .u64 0])).run Tryz.prog w=.ok false w:=fun w=>by rw [eqZ B hB];simp [hB0]
 rw [num_zero] at C
 have HC:=Jja C
 clear C hB hB0
 go_enter Tryz.func215,Tryz.ntmps215
 go_wp2_with (simp only [eq])
 have BW:=Jja (Below.refl w.heap.size w)
 generalize hW1:((((w.alloc (.cells (ncs A) 24)).alloc (.cells (ncs B) 24)).alloc (.cells #[.int .u64 0,.int .u64 0,.int .u64 0,.int .u64 0] 24)).alloc (.cells #[.int .u64 0,.int .u64 0,.int .u64 0,.int .u64 0] 24))=W1 at *
 clear eq
 have Na:At W1 (w.heap.size) _ _:=Jf hW1 ((((At.at_ _ _ _ _ (by simp)).alloc _).alloc _).alloc _)
 have Nb:At W1 (w.heap.size+1) _ _:=Jf hW1 (((At.at_ _ _ _ _ (by simp)).alloc _).alloc _)
 have Nq:At W1 (w.heap.size+1+1) _ _:=Jf hW1 ((At.at_ _ _ _ _ (by simp)).alloc _)
 have Eq:w.heap.size≤w.heap.size+1+1:=by have:=BW.out.size;omega
 have Daq:w.heap.size≠w.heap.size+1+1:=by omega
 have Dbq:w.heap.size+1≠w.heap.size+1+1:=by omega
 have Nr:At W1 (w.heap.size+1+1+1) _ _:=Jf hW1 (At.at_ _ _ _ _ (by simp))
 have Er:w.heap.size≤w.heap.size+1+1+1:=by have:=BW.out.size;omega
 have Dar:w.heap.size≠w.heap.size+1+1+1:=by omega
 have Dbr:w.heap.size+1≠w.heap.size+1+1+1:=by omega
 have Dqr:w.heap.size+1+1≠w.heap.size+1+1+1:=by omega
 have NB:=Ka hW1 (Jd (Jd (Jd (Jd BW.out _) _) _) _)
 clear BW
 clear hW1
 generalize w.heap.size+1+1+1=gr at *
 generalize w.heap.size+1+1=gq at *
 generalize w.heap.size+1=gb at *
 obtain ⟨ga,hg0⟩:∃ g,g=w.heap.size:=⟨_,rfl⟩
 rw [← hg0] at Na ⊢
 rw [← hg0] at Daq Dar
 clear hg0
 have Fa:=Jja Na
 have Fb:=Jja Nb
 have Fq:=Jja Nq
 have Fr:=Jja Nr
 have BW:=Jja NB
 clear NB Na Nb Nq Nr
 refine (HC.out _).mono ?_
 rintro e v2 ⟨rfl,z2⟩
 have Na:=Jja (Fa.out.on z2)
 have Nb:=Jja (Fb.out.on z2)
 have Nq:=Jja (Fq.out.on z2)
 have Nr:=Jja (Fr.out.on z2)
 have NB:=Jja (Jr BW.out z2)
 clear BW z2 Fa Fb Fq Fr
 have Fa:=Na
 have Fb:=Nb
 have Fq:=Nq
 have Fr:=Nr
 have BW:=NB
 clear NB Na Nb Nq Nr
 have Lq:=Fq.out.lt
 have cq0:v2.cell? ⟨gq,0,none⟩=some (.int .u64 0):=Fq.out.cell 0
 have cq1:v2.cell? ⟨gq,1,none⟩=some (.int .u64 0):=Fq.out.cell 1
 have cq2:v2.cell? ⟨gq,2,none⟩=some (.int .u64 0):=Fq.out.cell 2
 have cq3:v2.cell? ⟨gq,3,none⟩=some (.int .u64 0):=Fq.out.cell 3
 obtain ⟨fq0,fq1,fq2,fq3⟩:=Vo Fq.out
 have Lr:=Fr.out.lt
 have cr0:v2.cell? ⟨gr,0,none⟩=some (.int .u64 0):=Fr.out.cell 0
 have cr1:v2.cell? ⟨gr,1,none⟩=some (.int .u64 0):=Fr.out.cell 1
 have cr2:v2.cell? ⟨gr,2,none⟩=some (.int .u64 0):=Fr.out.cell 2
 have cr3:v2.cell? ⟨gr,3,none⟩=some (.int .u64 0):=Fr.out.cell 3
 obtain ⟨fr0,fr1,fr2,fr3⟩:=Vo Fr.out
 go_wp2_with fail
 generalize hW3:((((((((v2.setCell ⟨gq,0,none⟩ (.int .u64 (wd Q 0))).setCell ⟨gq,1,none⟩ (.int .u64 (wd Q 1))).setCell ⟨gq,2,none⟩ (.int .u64 (wd Q 2))).setCell ⟨gq,3,none⟩ (.int .u64 (wd Q 3))).setCell ⟨gr,0,none⟩ (.int .u64 (wd r 0))).setCell ⟨gr,1,none⟩ (.int .u64 (wd r 1))).setCell ⟨gr,2,none⟩ (.int .u64 (wd r 2))).setCell ⟨gr,3,none⟩ (.int .u64 (wd r 3)))=W3 at *
 clear Lq cq0 cq1 cq2 cq3 fq0 fq1 fq2 fq3 Lr cr0 cr1 cr2 cr3 fr0 fr1 fr2 fr3
 have Na_1:=Jf hW3 ((((Fa.out).far4 Daq _ _ _ _)).far4 Dar _ _ _ _)
 have Nb_1:=Jf hW3 ((((Fb.out).far4 Dbq _ _ _ _)).far4 Dbr _ _ _ _)
 have Nq_1:=Jf hW3 ((((Fq.out).put4 _ _ _ _)).far4 Dqr _ _ _ _)
 have Nr_1:=Jf hW3 ((((Fr.out).far4 Dqr.symm _ _ _ _)).put4 _ _ _ _)
 have NB_1:=Ka hW3 ((((((((((BW.out).setCell Eq _).setCell Eq _).setCell Eq _).setCell Eq _)).setCell Er _).setCell Er _).setCell Er _).setCell Er _)
 have Na:=Na_1
 have Nb:=Nb_1
 have Nq:=Nq_1
 have Nr:=Nr_1
 have NB:=NB_1
 clear BW Fa Fb Fq Fr Na_1 Nb_1 Nq_1 Nr_1 NB_1
 clear hW3
 have Fa:=Jja Na
 have Fb:=Jja Nb
 have Fq:=Jja Nq
 have Fr:=Jja Nr
 have BW:=Jja NB
 clear NB Na Nb Nq Nr
 try simp only [List.append_eq,List.cons_append,List.nil_append]
 refine wp_region_noPanic ?_
 refine wp_region_held_drew (S:=fun w'=>At w' gq 24 (ncs Q)∧At w' gr 24 (ncs r)) (by kernel_rfl) (⟨Fq.out.drew,Fr.out.drew⟩) (fun _=>?_)
 refine Jy (fuel:=3) (⟨0,19,[],Kind.val (num Q),true⟩::⟨1,20,[],Kind.val (num r),true⟩::[]) _ _ W3 _ ?_ ?_ ?_ ?_ ?_ ?_ ?_ ?_ ?_ ?_ ?_
 ·rfl
 ·kernel_rfl
 ·exact of_decide_eq_true rfl
 ·(repeat refine all_cons ⟨_,rfl,rfl⟩ ?_);exact all_nil
 ·exact fun _ hb=>⟨Fq.out.on hb,Fr.out.on hb⟩
 ·exact (Below.refl _ _).drew
 ·kernel_rfl
 ·exact fun _ _ _ _ _ h=>h
 ·refine all_cons ?_ (all_cons ?_ (all_nil))
  ·exact Wl _ _ _ _ _ gq _ _ _ _ (by rfl) (by rfl) (ko 4) (fun _ hs=>hs.1)
  ·exact Wl _ _ _ _ _ gr _ _ _ _ (by rfl) (by rfl) (ko 5) (fun _ hs=>hs.2)
 ·refine all_cons ?_ (all_cons ?_ (all_nil))
  ·exact sA
  ·exact sA
 intro vs y4 hc
 obtain ⟨vv0,vv1,rfl⟩:=len2 vs hc.lv
 have qq0:=okv hc 0
 have qq1:=okv hc 1
 have BZ:=hc.bel
 clear hc
 have Na:=Fa.out.on BZ
 have Nb:=Fb.out.on BZ
 have Nq:=Fq.out.on BZ
 have Nr:=Fr.out.on BZ
 have HSZ4:=BW.out.size
 have NB:=Jr BW.out BZ
 clear BW BZ Fa Fb Fq Fr
 subst qq0 qq1
 simp only [List.map_cons,List.map_nil,over,Act.put,List.setIfInBounds_toArray,List.set_cons_zero,List.set_cons_succ]
 have OLD:=Nq
 replace Na:=p4f Na Daq Q
 replace Nb:=p4f Nb Dbq Q
 replace Nq:=p4a Nq Q
 replace Nr:=p4f Nr Dqr.symm Q
 replace NB:=p4b NB Eq Q
 refine Vg (i:=2) _ _ _ _ _ gq _ _ _ _ _ _ _ _ (by kernel_rfl) (by rfl) (by rfl) (by rfl) OLD (⟨Nq,Nr⟩) ?_
 clear OLD
 generalize (put4 y4 gq (.int .u64 (wd Q 0)) (.int .u64 (wd Q 1)) (.int .u64 (wd Q 2)) (.int .u64 (wd Q 3)))=y4_2 at *
 have OLD:=Nr
 replace Na:=p4f Na Dar r
 replace Nb:=p4f Nb Dbr r
 replace Nq:=p4f Nq Dqr r
 replace Nr:=p4a Nr r
 replace NB:=p4b NB Er r
 refine Vg (i:=3) _ _ _ _ _ gr _ _ _ _ _ _ _ _ (by kernel_rfl) (by rfl) (by rfl) (by rfl) OLD (⟨Nq,Nr⟩) ?_
 clear OLD
 generalize (put4 y4_2 gr (.int .u64 (wd r 0)) (.int .u64 (wd r 1)) (.int .u64 (wd r 2)) (.int .u64 (wd r 3)))=y4_3 at *
 refine Vd (i:=4) _ 6 _ _ _ _ (by kernel_rfl) (by rfl) (by rfl) (⟨Nq,Nr⟩) ?_
 try simp only [Act.put,List.setIfInBounds_toArray,List.set_cons_zero,List.set_cons_succ]
 refine wpAnyH_done (by kernel_rfl) ?_ _
 refine NoPanic.normal ?_
 have Fa:=Jja Na
 have Fb:=Jja Nb
 have Fq:=Jja Nq
 have Fr:=Jja Nr
 have BW:=Jja NB
 clear NB Na Nb Nq Nr
 clear HSZ4
 have Lq:=Fq.out.lt
 have cq0:=Fq.out.c0;have cq1:=Fq.out.c1;have cq2:=Fq.out.c2;have cq3:=Fq.out.c3
 have Lr:=Fr.out.lt
 have cr0:=Fr.out.c0;have cr1:=Fr.out.c1;have cr2:=Fr.out.c2;have cr3:=Fr.out.c3
 go_wp2_with fail
 refine bodyPost_ret (v:=.tuple #[num Q,num r,.int .i64 0]) (by simp [results,Tryz.results215,go_sem, *]) rfl ⟨rfl,BW.out⟩

theorem div_ex (A B:Nat) (hA:A<2^256) (hB:B<2^256) (hB0:B≠0):∃ Q r:Nat,Q<2^256∧r<B∧A=Q*B+r ∧
  ∀ w,Calls Tryz.prog 215 #[num A,num B] w fun e w'=>e=.returned (.tuple #[num Q,num r,.int .i64 0])∧Below w.heap.size w w':=by
 obtain ⟨Q,r,hQ,hr,he,C⟩:=behind_ex 0 A B (by omega) hA hB
 exact ⟨Q,r,hQ,hr,by rw [← he];simp [wide],fun w=>div_some A B Q r hB hB0 C w⟩
theorem twice_over (R bit M S U D l:Nat)
  (hb:((wd S 0:Nat):Int)+(bit:Nat)=(wd U 0:Nat))
  (hu:IntKind.u64.wrap (((wd S 0:Nat):Int)+(bit:Nat))=(wd U 0:Nat))
  (hv:IntKind.u64.wrap ((wd U 0:Nat):Int)=(wd U 0:Nat))
  (AD:∀ w,Calls Tryz.prog 182 #[num R,num R] w fun e w'=>e=.returned (.tuple #[num S,.int .u64 1])∧Below w.heap.size w w')
  (SU:∀ w,Calls Tryz.prog 123 #[.agg #[.int .u64 (wd U 0),.int .u64 (wd S 1),.int .u64 (wd S 2),.int .u64 (wd S 3)],num M] w fun e w'=>e=.returned (.tuple #[num D,.int .u64 (l:Nat)])∧Below w.heap.size w w')
  (w:World):Calls Tryz.prog 218 #[num R,.int .u64 (bit:Nat),num M] w fun e w'=>e=.returned (num D)∧Below w.heap.size w w':=by
 have HAD:=Jja AD
 have HSU:=Jja SU
 clear AD SU
 go_enter Tryz.func218,Tryz.ntmps218
 go_wp2_with fail
 have BW:=Jja (Below.refl w.heap.size w)
 generalize hW1:(((w.alloc (.cells (ncs R) 24)).alloc (.cells (ncs M) 24)).alloc (.cells #[.int .u64 0,.int .u64 0,.int .u64 0,.int .u64 0] 24))=W1 at *
 have Nr:At W1 (w.heap.size) _ _:=Jf hW1 (((At.at_ _ _ _ _ (by simp)).alloc _).alloc _)
 have Nm:At W1 (w.heap.size+1) _ _:=Jf hW1 ((At.at_ _ _ _ _ (by simp)).alloc _)
 have No:At W1 (w.heap.size+1+1) _ _:=Jf hW1 (At.at_ _ _ _ _ (by simp))
 have Eo:w.heap.size≤w.heap.size+1+1:=by have:=BW.out.size;omega
 have Dro:w.heap.size≠w.heap.size+1+1:=by omega
 have Dmo:w.heap.size+1≠w.heap.size+1+1:=by omega
 have NB:=Ka hW1 (Jd (Jd (Jd BW.out _) _) _)
 clear BW
 clear hW1
 generalize w.heap.size+1+1=go at *
 generalize w.heap.size+1=gm at *
 obtain ⟨gr,hg0⟩:∃ g,g=w.heap.size:=⟨_,rfl⟩
 rw [← hg0] at Nr ⊢
 rw [← hg0] at Dro
 clear hg0
 have Fr:=Jja Nr
 have Fm:=Jja Nm
 have Fo:=Jja No
 have BW:=Jja NB
 clear NB Nr Nm No
 refine (HAD.out _).mono ?_
 rintro e v2 ⟨rfl,z2⟩
 have Nr:=Jja (Fr.out.on z2)
 have Nm:=Jja (Fm.out.on z2)
 have No:=Jja (Fo.out.on z2)
 have NB:=Jja (Jr BW.out z2)
 clear BW z2 Fr Fm Fo
 have Fr:=Nr
 have Fm:=Nm
 have Fo:=No
 have BW:=NB
 clear NB Nr Nm No
 have Lm:=Fm.out.lt
 have cm0:=Fm.out.c0;have cm1:=Fm.out.c1;have cm2:=Fm.out.c2;have cm3:=Fm.out.c3
 go_wp2_with fail
 generalize hW3:(v2.alloc (.cells #[.int .u64 (wd U 0),.int .u64 (wd S 1),.int .u64 (wd S 2),.int .u64 (wd S 3)] 24))=W3 at *
 clear Lm cm0 cm1 cm2 cm3
 have Nx:At W3 (v2.heap.size) _ _:=Jf hW3 (At.at_ _ _ _ _ (by simp))
 have Ex:w.heap.size≤v2.heap.size:=by have:=BW.out.size;omega
 have Drx:gr≠v2.heap.size:=by have:=Fr.out.lt;omega
 have Dmx:gm≠v2.heap.size:=by have:=Fm.out.lt;omega
 have Dox:go≠v2.heap.size:=by have:=Fo.out.lt;omega
 have Nr:=Jf hW3 (Fr.out.alloc _)
 have Nm:=Jf hW3 (Fm.out.alloc _)
 have No:=Jf hW3 (Fo.out.alloc _)
 have NB:=Ka hW3 (Jd BW.out _)
 clear BW Fr Fm Fo
 clear hW3
 generalize v2.heap.size=gx at *
 have Fr:=Jja Nr
 have Fm:=Jja Nm
 have Fo:=Jja No
 have Fx:=Jja Nx
 have BW:=Jja NB
 clear NB Nr Nm No Nx
 refine (HSU.out _).mono ?_
 rintro e v4 ⟨rfl,z4⟩
 have Nr:=Jja (Fr.out.on z4)
 have Nm:=Jja (Fm.out.on z4)
 have No:=Jja (Fo.out.on z4)
 have Nx:=Jja (Fx.out.on z4)
 have NB:=Jja (Jr BW.out z4)
 clear BW z4 Fr Fm Fo Fx
 have Fr:=Nr
 have Fm:=Nm
 have Fo:=No
 have Fx:=Nx
 have BW:=NB
 clear NB Nr Nm No Nx
 have Lx:=Fx.out.lt
 have cx0:=Fx.out.c0;have cx1:=Fx.out.c1;have cx2:=Fx.out.c2;have cx3:=Fx.out.c3
 obtain ⟨fx0,fx1,fx2,fx3⟩:=Vo Fx.out
 have Lo:=Fo.out.lt
 have co0:v4.cell? ⟨go,0,none⟩=some (.int .u64 0):=Fo.out.cell 0
 have co1:v4.cell? ⟨go,1,none⟩=some (.int .u64 0):=Fo.out.cell 1
 have co2:v4.cell? ⟨go,2,none⟩=some (.int .u64 0):=Fo.out.cell 2
 have co3:v4.cell? ⟨go,3,none⟩=some (.int .u64 0):=Fo.out.cell 3
 obtain ⟨fo0,fo1,fo2,fo3⟩:=Vo Fo.out
 go_wp2_with fail
 generalize hW5:((((((((v4.setCell ⟨gx,0,none⟩ (.int .u64 (wd D 0))).setCell ⟨gx,1,none⟩ (.int .u64 (wd D 1))).setCell ⟨gx,2,none⟩ (.int .u64 (wd D 2))).setCell ⟨gx,3,none⟩ (.int .u64 (wd D 3))).setCell ⟨go,0,none⟩ (.int .u64 (wd D 0))).setCell ⟨go,1,none⟩ (.int .u64 (wd D 1))).setCell ⟨go,2,none⟩ (.int .u64 (wd D 2))).setCell ⟨go,3,none⟩ (.int .u64 (wd D 3)))=W5 at *
 clear Lx cx0 cx1 cx2 cx3 fx0 fx1 fx2 fx3 Lo co0 co1 co2 co3 fo0 fo1 fo2 fo3
 have Nr_1:=Jf hW5 ((((Fr.out).far4 Drx _ _ _ _)).far4 Dro _ _ _ _)
 have Nm_1:=Jf hW5 ((((Fm.out).far4 Dmx _ _ _ _)).far4 Dmo _ _ _ _)
 have No_1:=Jf hW5 ((((Fo.out).far4 Dox _ _ _ _)).put4 _ _ _ _)
 have Nx_1:=Jf hW5 ((((Fx.out).put4 _ _ _ _)).far4 Dox.symm _ _ _ _)
 have NB_1:=Ka hW5 ((((((((((BW.out).setCell Ex _).setCell Ex _).setCell Ex _).setCell Ex _)).setCell Eo _).setCell Eo _).setCell Eo _).setCell Eo _)
 have Nr:=Nr_1
 have Nm:=Nm_1
 have No:=No_1
 have Nx:=Nx_1
 have NB:=NB_1
 clear BW Fr Fm Fo Fx Nr_1 Nm_1 No_1 Nx_1 NB_1
 clear hW5
 have Fr:=Jja Nr
 have Fm:=Jja Nm
 have Fo:=Jja No
 have Fx:=Jja Nx
 have BW:=Jja NB
 clear NB Nr Nm No Nx
 have Lo:=Fo.out.lt
 have co0:=Fo.out.c0;have co1:=Fo.out.c1;have co2:=Fo.out.c2;have co3:=Fo.out.c3
 exact bodyPost_ret (v:=num D) (by simp [results,Tryz.results218,go_sem, *]) rfl ⟨rfl,BW.out⟩

theorem twice_ge (R bit M S U D l:Nat)
  (cv:Int)
  (hcv:0≤cv)
  (hb:((wd S 0:Nat):Int)+(bit:Nat)=(wd U 0:Nat))
  (hu:IntKind.u64.wrap (((wd S 0:Nat):Int)+(bit:Nat))=(wd U 0:Nat))
  (hv:IntKind.u64.wrap ((wd U 0:Nat):Int)=(wd U 0:Nat))
  (AD:∀ w,Calls Tryz.prog 182 #[num R,num R] w fun e w'=>e=.returned (.tuple #[num S,.int .u64 0])∧Below w.heap.size w w')
  (CM:∀ w,Calls Tryz.prog 119 #[.agg #[.int .u64 (wd U 0),.int .u64 (wd S 1),.int .u64 (wd S 2),.int .u64 (wd S 3)],num M] w fun e w'=>e=.returned (.int .i64 cv)∧Below w.heap.size w w')
  (SU:∀ w,Calls Tryz.prog 123 #[.agg #[.int .u64 (wd U 0),.int .u64 (wd S 1),.int .u64 (wd S 2),.int .u64 (wd S 3)],num M] w fun e w'=>e=.returned (.tuple #[num D,.int .u64 (l:Nat)])∧Below w.heap.size w w')
  (w:World):Calls Tryz.prog 218 #[num R,.int .u64 (bit:Nat),num M] w fun e w'=>e=.returned (num D)∧Below w.heap.size w w':=by
 have HAD:=Jja AD
 have HCM:=Jja CM
 have HSU:=Jja SU
 clear AD CM SU
 go_enter Tryz.func218,Tryz.ntmps218
 go_wp2_with fail
 have BW:=Jja (Below.refl w.heap.size w)
 generalize hW1:(((w.alloc (.cells (ncs R) 24)).alloc (.cells (ncs M) 24)).alloc (.cells #[.int .u64 0,.int .u64 0,.int .u64 0,.int .u64 0] 24))=W1 at *
 have Nr:At W1 (w.heap.size) _ _:=Jf hW1 (((At.at_ _ _ _ _ (by simp)).alloc _).alloc _)
 have Nm:At W1 (w.heap.size+1) _ _:=Jf hW1 ((At.at_ _ _ _ _ (by simp)).alloc _)
 have No:At W1 (w.heap.size+1+1) _ _:=Jf hW1 (At.at_ _ _ _ _ (by simp))
 have Eo:w.heap.size≤w.heap.size+1+1:=by have:=BW.out.size;omega
 have Dro:w.heap.size≠w.heap.size+1+1:=by omega
 have Dmo:w.heap.size+1≠w.heap.size+1+1:=by omega
 have NB:=Ka hW1 (Jd (Jd (Jd BW.out _) _) _)
 clear BW
 clear hW1
 generalize w.heap.size+1+1=go at *
 generalize w.heap.size+1=gm at *
 obtain ⟨gr,hg0⟩:∃ g,g=w.heap.size:=⟨_,rfl⟩
 rw [← hg0] at Nr ⊢
 rw [← hg0] at Dro
 clear hg0
 have Fr:=Jja Nr
 have Fm:=Jja Nm
 have Fo:=Jja No
 have BW:=Jja NB
 clear NB Nr Nm No
 refine (HAD.out _).mono ?_
 rintro e v2 ⟨rfl,z2⟩
 have Nr:=Jja (Fr.out.on z2)
 have Nm:=Jja (Fm.out.on z2)
 have No:=Jja (Fo.out.on z2)
 have NB:=Jja (Jr BW.out z2)
 clear BW z2 Fr Fm Fo
 have Fr:=Nr
 have Fm:=Nm
 have Fo:=No
 have BW:=NB
 clear NB Nr Nm No
 have Lm:=Fm.out.lt
 have cm0:=Fm.out.c0;have cm1:=Fm.out.c1;have cm2:=Fm.out.c2;have cm3:=Fm.out.c3
 go_wp2_with fail
 generalize hW3:(v2.alloc (.cells #[.int .u64 (wd U 0),.int .u64 (wd S 1),.int .u64 (wd S 2),.int .u64 (wd S 3)] 24))=W3 at *
 clear Lm cm0 cm1 cm2 cm3
 have Nx:At W3 (v2.heap.size) _ _:=Jf hW3 (At.at_ _ _ _ _ (by simp))
 have Ex:w.heap.size≤v2.heap.size:=by have:=BW.out.size;omega
 have Drx:gr≠v2.heap.size:=by have:=Fr.out.lt;omega
 have Dmx:gm≠v2.heap.size:=by have:=Fm.out.lt;omega
 have Dox:go≠v2.heap.size:=by have:=Fo.out.lt;omega
 have Nr:=Jf hW3 (Fr.out.alloc _)
 have Nm:=Jf hW3 (Fm.out.alloc _)
 have No:=Jf hW3 (Fo.out.alloc _)
 have NB:=Ka hW3 (Jd BW.out _)
 clear BW Fr Fm Fo
 clear hW3
 generalize v2.heap.size=gx at *
 have Fr:=Jja Nr
 have Fm:=Jja Nm
 have Fo:=Jja No
 have Fx:=Jja Nx
 have BW:=Jja NB
 clear NB Nr Nm No Nx
 refine (HCM.out _).mono ?_
 rintro e v4 ⟨rfl,z4⟩
 have Nr:=Jja (Fr.out.on z4)
 have Nm:=Jja (Fm.out.on z4)
 have No:=Jja (Fo.out.on z4)
 have Nx:=Jja (Fx.out.on z4)
 have NB:=Jja (Jr BW.out z4)
 clear BW z4 Fr Fm Fo Fx
 have Fr:=Nr
 have Fm:=Nm
 have Fo:=No
 have Fx:=Nx
 have BW:=NB
 clear NB Nr Nm No Nx
 have Lm:=Fm.out.lt
 have cm0:=Fm.out.c0;have cm1:=Fm.out.c1;have cm2:=Fm.out.c2;have cm3:=Fm.out.c3
 have Lx:=Fx.out.lt
 have cx0:=Fx.out.c0;have cx1:=Fx.out.c1;have cx2:=Fx.out.c2;have cx3:=Fx.out.c3
 go_wp2_with fail
 clear Lm cm0 cm1 cm2 cm3 Lx cx0 cx1 cx2 cx3
 refine (HSU.out _).mono ?_
 rintro e v5 ⟨rfl,z5⟩
 have Nr:=Jja (Fr.out.on z5)
 have Nm:=Jja (Fm.out.on z5)
 have No:=Jja (Fo.out.on z5)
 have Nx:=Jja (Fx.out.on z5)
 have NB:=Jja (Jr BW.out z5)
 clear BW z5 Fr Fm Fo Fx
 have Fr:=Nr
 have Fm:=Nm
 have Fo:=No
 have Fx:=Nx
 have BW:=NB
 clear NB Nr Nm No Nx
 have Lx:=Fx.out.lt
 have cx0:=Fx.out.c0;have cx1:=Fx.out.c1;have cx2:=Fx.out.c2;have cx3:=Fx.out.c3
 obtain ⟨fx0,fx1,fx2,fx3⟩:=Vo Fx.out
 have Lo:=Fo.out.lt
 have co0:v5.cell? ⟨go,0,none⟩=some (.int .u64 0):=Fo.out.cell 0
 have co1:v5.cell? ⟨go,1,none⟩=some (.int .u64 0):=Fo.out.cell 1
 have co2:v5.cell? ⟨go,2,none⟩=some (.int .u64 0):=Fo.out.cell 2
 have co3:v5.cell? ⟨go,3,none⟩=some (.int .u64 0):=Fo.out.cell 3
 obtain ⟨fo0,fo1,fo2,fo3⟩:=Vo Fo.out
 go_wp2_with fail
 generalize hW6:((((((((v5.setCell ⟨gx,0,none⟩ (.int .u64 (wd D 0))).setCell ⟨gx,1,none⟩ (.int .u64 (wd D 1))).setCell ⟨gx,2,none⟩ (.int .u64 (wd D 2))).setCell ⟨gx,3,none⟩ (.int .u64 (wd D 3))).setCell ⟨go,0,none⟩ (.int .u64 (wd D 0))).setCell ⟨go,1,none⟩ (.int .u64 (wd D 1))).setCell ⟨go,2,none⟩ (.int .u64 (wd D 2))).setCell ⟨go,3,none⟩ (.int .u64 (wd D 3)))=W6 at *
 clear Lx cx0 cx1 cx2 cx3 fx0 fx1 fx2 fx3 Lo co0 co1 co2 co3 fo0 fo1 fo2 fo3
 have Nr_1:=Jf hW6 ((((Fr.out).far4 Drx _ _ _ _)).far4 Dro _ _ _ _)
 have Nm_1:=Jf hW6 ((((Fm.out).far4 Dmx _ _ _ _)).far4 Dmo _ _ _ _)
 have No_1:=Jf hW6 ((((Fo.out).far4 Dox _ _ _ _)).put4 _ _ _ _)
 have Nx_1:=Jf hW6 ((((Fx.out).put4 _ _ _ _)).far4 Dox.symm _ _ _ _)
 have NB_1:=Ka hW6 ((((((((((BW.out).setCell Ex _).setCell Ex _).setCell Ex _).setCell Ex _)).setCell Eo _).setCell Eo _).setCell Eo _).setCell Eo _)
 have Nr:=Nr_1
 have Nm:=Nm_1
 have No:=No_1
 have Nx:=Nx_1
 have NB:=NB_1
 clear BW Fr Fm Fo Fx Nr_1 Nm_1 No_1 Nx_1 NB_1
 clear hW6
 have Fr:=Jja Nr
 have Fm:=Jja Nm
 have Fo:=Jja No
 have Fx:=Jja Nx
 have BW:=Jja NB
 clear NB Nr Nm No Nx
 have Lo:=Fo.out.lt
 have co0:=Fo.out.c0;have co1:=Fo.out.c1;have co2:=Fo.out.c2;have co3:=Fo.out.c3
 exact bodyPost_ret (v:=num D) (by simp [results,Tryz.results218,go_sem, *]) rfl ⟨rfl,BW.out⟩

theorem twice_lt (R bit M S U:Nat)
  (cv:Int)
  (hcv:cv<0)
  (hb:((wd S 0:Nat):Int)+(bit:Nat)=(wd U 0:Nat))
  (hu:IntKind.u64.wrap (((wd S 0:Nat):Int)+(bit:Nat))=(wd U 0:Nat))
  (hv:IntKind.u64.wrap ((wd U 0:Nat):Int)=(wd U 0:Nat))
  (AD:∀ w,Calls Tryz.prog 182 #[num R,num R] w fun e w'=>e=.returned (.tuple #[num S,.int .u64 0])∧Below w.heap.size w w')
  (CM:∀ w,Calls Tryz.prog 119 #[.agg #[.int .u64 (wd U 0),.int .u64 (wd S 1),.int .u64 (wd S 2),.int .u64 (wd S 3)],num M] w fun e w'=>e=.returned (.int .i64 cv)∧Below w.heap.size w w')
  (w:World):Calls Tryz.prog 218 #[num R,.int .u64 (bit:Nat),num M] w fun e w'=>e=.returned (.agg #[.int .u64 (wd U 0),.int .u64 (wd S 1),.int .u64 (wd S 2),.int .u64 (wd S 3)])∧Below w.heap.size w w':=by
 have HAD:=Jja AD
 have HCM:=Jja CM
 clear AD CM
 go_enter Tryz.func218,Tryz.ntmps218
 go_wp2_with fail
 have BW:=Jja (Below.refl w.heap.size w)
 generalize hW1:(((w.alloc (.cells (ncs R) 24)).alloc (.cells (ncs M) 24)).alloc (.cells #[.int .u64 0,.int .u64 0,.int .u64 0,.int .u64 0] 24))=W1 at *
 have Nr:At W1 (w.heap.size) _ _:=Jf hW1 (((At.at_ _ _ _ _ (by simp)).alloc _).alloc _)
 have Nm:At W1 (w.heap.size+1) _ _:=Jf hW1 ((At.at_ _ _ _ _ (by simp)).alloc _)
 have No:At W1 (w.heap.size+1+1) _ _:=Jf hW1 (At.at_ _ _ _ _ (by simp))
 have Eo:w.heap.size≤w.heap.size+1+1:=by have:=BW.out.size;omega
 have Dro:w.heap.size≠w.heap.size+1+1:=by omega
 have Dmo:w.heap.size+1≠w.heap.size+1+1:=by omega
 have NB:=Ka hW1 (Jd (Jd (Jd BW.out _) _) _)
 clear BW
 clear hW1
 generalize w.heap.size+1+1=go at *
 generalize w.heap.size+1=gm at *
 obtain ⟨gr,hg0⟩:∃ g,g=w.heap.size:=⟨_,rfl⟩
 rw [← hg0] at Nr ⊢
 rw [← hg0] at Dro
 clear hg0
 have Fr:=Jja Nr
 have Fm:=Jja Nm
 have Fo:=Jja No
 have BW:=Jja NB
 clear NB Nr Nm No
 refine (HAD.out _).mono ?_
 rintro e v2 ⟨rfl,z2⟩
 have Nr:=Jja (Fr.out.on z2)
 have Nm:=Jja (Fm.out.on z2)
 have No:=Jja (Fo.out.on z2)
 have NB:=Jja (Jr BW.out z2)
 clear BW z2 Fr Fm Fo
 have Fr:=Nr
 have Fm:=Nm
 have Fo:=No
 have BW:=NB
 clear NB Nr Nm No
 have Lm:=Fm.out.lt
 have cm0:=Fm.out.c0;have cm1:=Fm.out.c1;have cm2:=Fm.out.c2;have cm3:=Fm.out.c3
 go_wp2_with fail
 generalize hW3:(v2.alloc (.cells #[.int .u64 (wd U 0),.int .u64 (wd S 1),.int .u64 (wd S 2),.int .u64 (wd S 3)] 24))=W3 at *
 clear Lm cm0 cm1 cm2 cm3
 have Nx:At W3 (v2.heap.size) _ _:=Jf hW3 (At.at_ _ _ _ _ (by simp))
 have Ex:w.heap.size≤v2.heap.size:=by have:=BW.out.size;omega
 have Drx:gr≠v2.heap.size:=by have:=Fr.out.lt;omega
 have Dmx:gm≠v2.heap.size:=by have:=Fm.out.lt;omega
 have Dox:go≠v2.heap.size:=by have:=Fo.out.lt;omega
 have Nr:=Jf hW3 (Fr.out.alloc _)
 have Nm:=Jf hW3 (Fm.out.alloc _)
 have No:=Jf hW3 (Fo.out.alloc _)
 have NB:=Ka hW3 (Jd BW.out _)
 clear BW Fr Fm Fo
 clear hW3
 generalize v2.heap.size=gx at *
 have Fr:=Jja Nr
 have Fm:=Jja Nm
 have Fo:=Jja No
 have Fx:=Jja Nx
 have BW:=Jja NB
 clear NB Nr Nm No Nx
 refine (HCM.out _).mono ?_
 rintro e v4 ⟨rfl,z4⟩
 have Nr:=Jja (Fr.out.on z4)
 have Nm:=Jja (Fm.out.on z4)
 have No:=Jja (Fo.out.on z4)
 have Nx:=Jja (Fx.out.on z4)
 have NB:=Jja (Jr BW.out z4)
 clear BW z4 Fr Fm Fo Fx
 have Fr:=Nr
 have Fm:=Nm
 have Fo:=No
 have Fx:=Nx
 have BW:=NB
 clear NB Nr Nm No Nx
 have Lx:=Fx.out.lt
 have cx0:=Fx.out.c0;have cx1:=Fx.out.c1;have cx2:=Fx.out.c2;have cx3:=Fx.out.c3
 have Lo:=Fo.out.lt
 have co0:v4.cell? ⟨go,0,none⟩=some (.int .u64 0):=Fo.out.cell 0
 have co1:v4.cell? ⟨go,1,none⟩=some (.int .u64 0):=Fo.out.cell 1
 have co2:v4.cell? ⟨go,2,none⟩=some (.int .u64 0):=Fo.out.cell 2
 have co3:v4.cell? ⟨go,3,none⟩=some (.int .u64 0):=Fo.out.cell 3
 obtain ⟨fo0,fo1,fo2,fo3⟩:=Vo Fo.out
 go_wp2_with fail
 generalize hW5:((((v4.setCell ⟨go,0,none⟩ (.int .u64 (wd U 0))).setCell ⟨go,1,none⟩ (.int .u64 (wd S 1))).setCell ⟨go,2,none⟩ (.int .u64 (wd S 2))).setCell ⟨go,3,none⟩ (.int .u64 (wd S 3)))=W5 at *
 clear Lx cx0 cx1 cx2 cx3 Lo co0 co1 co2 co3 fo0 fo1 fo2 fo3
 have Nr_0:=Jf hW5 ((Fr.out).far4 Dro _ _ _ _)
 have Nm_0:=Jf hW5 ((Fm.out).far4 Dmo _ _ _ _)
 have No_0:=Jf hW5 ((Fo.out).put4 _ _ _ _)
 have Nx_0:=Jf hW5 ((Fx.out).far4 Dox.symm _ _ _ _)
 have NB_0:=Ka hW5 (((((BW.out).setCell Eo _).setCell Eo _).setCell Eo _).setCell Eo _)
 have Nr:=Nr_0
 have Nm:=Nm_0
 have No:=No_0
 have Nx:=Nx_0
 have NB:=NB_0
 clear BW Fr Fm Fo Fx Nr_0 Nm_0 No_0 Nx_0 NB_0
 clear hW5
 have Fr:=Jja Nr
 have Fm:=Jja Nm
 have Fo:=Jja No
 have Fx:=Jja Nx
 have BW:=Jja NB
 clear NB Nr Nm No Nx
 have Lo:=Fo.out.lt
 have co0:=Fo.out.c0;have co1:=Fo.out.c1;have co2:=Fo.out.c2;have co3:=Fo.out.c3
 exact bodyPost_ret (v:=.agg #[.int .u64 (wd U 0),.int .u64 (wd S 1),.int .u64 (wd S 2),.int .u64 (wd S 3)]) (by simp [results,Tryz.results218,go_sem, *]) rfl ⟨rfl,BW.out⟩

theorem even_word (S bit:Nat) (hS:S<2^256) (he:S%2=0) (hb:bit≤1):wd (S+bit) 0=wd S 0+bit∧wd (S+bit) 1=wd S 1∧wd (S+bit) 2=wd S 2∧wd (S+bit) 3=wd S 3:=by
 unfold wd;omega
theorem rtwice_any (R M bit t L:Nat) (hR:R<M) (hM:M<2^256) (hb:bit≤1) (ht:t≤1) (hL:L<M) (he:2*R+bit=t*M+L) (w:World) :
  Calls Tryz.prog 218 #[num R,.int .u64 (bit:Nat),num M] w fun e w'=>e=.returned (num L)∧Below w.heap.size w w':=by
 have hR2:R<2^256:=by omega
 obtain ⟨S,c,hS,hc,e1,_⟩:=Jfo R R hR2 hR2
 have A:=Jdw R R S c hR2 hR2 hS hc e1
 have ev:S%2=0:=by omega
 obtain ⟨w0,w1,w2,w3⟩:=even_word S bit hS ev hb
 have hU:S+bit<2^256:=by omega
 have en:num (S+bit)=.agg #[.int .u64 (wd (S+bit) 0),.int .u64 (wd S 1),.int .u64 (wd S 2),.int .u64 (wd S 3)]:=by unfold num;rw [w1,w2,w3]
 have b1:((wd S 0:Nat):Int)+(bit:Nat)=(wd (S+bit) 0:Nat):=by rw [w0];simp
 have wl:=Ue (S+bit) 0
 have b2:IntKind.u64.wrap (((wd S 0:Nat):Int)+(bit:Nat))=(wd (S+bit) 0:Nat):=by rw [b1,IntKind.wrap_u64];omega
 have b3:IntKind.u64.wrap ((wd (S+bit) 0:Nat):Int)=(wd (S+bit) 0:Nat):=by rw [IntKind.wrap_u64];omega
 obtain ⟨D,l,hD,hl,e2,_⟩:=Jbt (S+bit) M hU hM
 have SU:=Jan (S+bit) M D l hU hM hD hl e2
 have CM:=Xh (S+bit) M hU hM
 rw [en] at SU CM
 have htm:t=0∧t*M=0∨t=1∧t*M=M:=by
  have:t=0∨t=1:=by omega
  rcases this with h | h <;> subst h <;> simp
 by_cases hc1:c=1
 ·subst hc1
  have hDL:D=L:=by omega
  subst hDL
  exact twice_over R bit M S (S+bit) D l b1 b2 b3 A SU w
 ·have hc0:c=0:=by omega
  subst hc0
  by_cases hge:M≤S+bit
  ·have hDL:D=L:=by omega
   subst hDL
   have hcv:0≤Jfn (S+bit) M:=by unfold Jfn;rw [if_neg (by omega)];split <;> omega
   exact twice_ge R bit M S (S+bit) D l (Jfn (S+bit) M) hcv b1 b2 b3 A CM SU w
  ·have hSL:S+bit=L:=by omega
   have hcv:Jfn (S+bit) M<0:=by rw [Jdl (by omega)];omega
   have h:=twice_lt R bit M S (S+bit) (Jfn (S+bit) M) hcv b1 b2 b3 A CM w
   rw [← en,hSL] at h
   exact h
theorem word_yes (a:Nat) (w:World):Calls Tryz.prog 181 #[.agg #[.int .u64 a,.int .u64 0,.int .u64 0,.int .u64 0]] w fun e w'=>e=.returned (.bool true)∧Below w.heap.size w w':=by
 go_enter Tryz.func181,Tryz.ntmps181
 go_wp2
 go_ret
 exact ⟨rfl,by repeat (first | exact Below.refl _ _ | refine Jd ?_ _ | refine Below.drew ?_)⟩
theorem word_no1 (a b c d:Nat) (h:b≠0) (w:World):Calls Tryz.prog 181 #[.agg #[.int .u64 a,.int .u64 b,.int .u64 c,.int .u64 d]] w fun e w'=>e=.returned (.bool false)∧Below w.heap.size w w':=by
 have h1:((b:Int)==0)=false:=by simp;omega
 have h2:decide ((b:Int)=0)=false:=by simp;omega
 have h3:¬ (b:Int)=0:=by omega
 go_enter Tryz.func181,Tryz.ntmps181
 go_wp2
 go_ret
 exact ⟨rfl,by repeat (first | exact Below.refl _ _ | refine Jd ?_ _ | refine Below.drew ?_)⟩
theorem word_no2 (a c d:Nat) (h:c≠0) (w:World):Calls Tryz.prog 181 #[.agg #[.int .u64 a,.int .u64 0,.int .u64 c,.int .u64 d]] w fun e w'=>e=.returned (.bool false)∧Below w.heap.size w w':=by
 have h1:((c:Int)==0)=false:=by simp;omega
 have h2:decide ((c:Int)=0)=false:=by simp;omega
 have h3:¬ (c:Int)=0:=by omega
 go_enter Tryz.func181,Tryz.ntmps181
 go_wp2
 go_ret
 exact ⟨rfl,by repeat (first | exact Below.refl _ _ | refine Jd ?_ _ | refine Below.drew ?_)⟩
theorem word_no3 (a d:Nat) (h:d≠0) (w:World):Calls Tryz.prog 181 #[.agg #[.int .u64 a,.int .u64 0,.int .u64 0,.int .u64 d]] w fun e w'=>e=.returned (.bool false)∧Below w.heap.size w w':=by
 have h1:((d:Int)==0)=false:=by simp;omega
 have h2:decide ((d:Int)=0)=false:=by simp;omega
 have h3:¬ (d:Int)=0:=by omega
 go_enter Tryz.func181,Tryz.ntmps181
 go_wp2
 go_ret
 exact ⟨rfl,by repeat (first | exact Below.refl _ _ | refine Jd ?_ _ | refine Below.drew ?_)⟩
theorem Jbv (X:Nat) (hX:X<2^256) (w:World):Calls Tryz.prog 181 #[num X] w fun e w'=>e=.returned (.bool (decide (X<18446744073709551616)))∧Below w.heap.size w w':=by
 have hs:=Xr X hX
 unfold num
 by_cases h1:wd X 1=0
 ·by_cases h2:wd X 2=0
  ·by_cases h3:wd X 3=0
   ·have hl:=Ue X 0
    rw [h1,h2,h3,decide_eq_true (show X<18446744073709551616 by omega)]
    exact word_yes _ w
   ·rw [h1,h2,decide_eq_false (show ¬ X<18446744073709551616 by omega)]
    exact word_no3 _ _ h3 w
  ·rw [h1,decide_eq_false (show ¬ X<18446744073709551616 by omega)]
   exact word_no2 _ _ _ h2 w
 ·rw [decide_eq_false (show ¬ X<18446744073709551616 by omega)]
  exact word_no1 _ _ _ _ h1 w
end Go.Proofs.YtmmgmljkmmgjdaaGreatDoor
