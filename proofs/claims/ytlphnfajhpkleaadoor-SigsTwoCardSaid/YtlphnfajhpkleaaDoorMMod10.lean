/-
 mods.inverse: Euclid's search.
-/
import Derived.Deep.DeepCutAuto
import Derived.Test.YtlphnfajhpkleaaDoorMByNumber
import Derived.Test.YtlphnfajhpkleaaDoorMMod1
import Derived.Test.YtlphnfajhpkleaaDoorMModE
import Derived.Test.YtlphnfajhpkleaaDoorMMult
import Derived.Test.YtlphnfajhpkleaaDoorMSmall
namespace Go.Proofs.YtlphnfajhpkleaaDoor
open Go.RowKit
set_option linter.unusedSimpArgs false
set_option linter.unusedVariables false
attribute [local go_sem ↓] Go.wp_at_zero Go.wp_at_succ

theorem At.val8 {w:World} {g X Y:Nat} {t:TypeId} (hX:X<2^256) (h:At w g t #[.int .u64 (wd X 0:Nat),.int .u64 (wd X 1:Nat),.int .u64 (wd X 2:Nat),.int .u64 (wd X 3:Nat),.int .u64 (wd Y 0:Nat),.int .u64 (wd Y 1:Nat),.int .u64 (wd Y 2:Nat),.int .u64 (wd Y 3:Nat)]):blockVal w g=X:=by
 unfold At at h
 unfold blockVal
 rw [h]
 have:=wd_sum X hX
 simp [intOf]
 omega

set_option maxRecDepth 100000 in
set_option maxHeartbeats 8000000 in
theorem inverse_walk (A B M:Nat) (hA:A<M) (h1:1<M) (hM:M<2^256) (w:World):Calls Tryd.prog 44 #[num A,num B,num M] w fun e w'=>
  ∃ (v:Value) (er:Int),e=.returned (.tuple #[v,.int .i64 er])∧((Nat.gcd A M=1∧er=0∧∃ X,v=num X∧X<M∧A*X%M=1)∨(Nat.gcd A M≠1∧er=7∧v=num 0))∧Below w.heap.size w w':=by
 have HA:=Lib.hid hA;have H1:=Lib.hid h1;have HM:=Lib.hid hM
 have IO:=of_any 1 (by decide)
 have HIO:=Lib.hid IO
 clear hA h1 hM IO
 go_enter Tryd.func44,Tryd.ntmps44
 go_wp2_with fail
 have BW:=Lib.hid (Below.refl w.heap.size w)
 have Eo:w.heap.size≤w.heap.size+1+1+1:=by have:=BW.out.size;omega
 have Dao:w.heap.size≠w.heap.size+1+1+1:=by omega
 have Dbo:w.heap.size+1≠w.heap.size+1+1+1:=by omega
 have Dmo:w.heap.size+1+1≠w.heap.size+1+1+1:=by omega
 generalize hW1:((((w.alloc (.cells #[.int .u64 (wd A 0:Nat),.int .u64 (wd A 1:Nat),.int .u64 (wd A 2:Nat),.int .u64 (wd A 3:Nat)] 24)).alloc (.cells #[.int .u64 (wd B 0:Nat),.int .u64 (wd B 1:Nat),.int .u64 (wd B 2:Nat),.int .u64 (wd B 3:Nat)] 24)).alloc (.cells #[.int .u64 (wd M 0:Nat),.int .u64 (wd M 1:Nat),.int .u64 (wd M 2:Nat),.int .u64 (wd M 3:Nat)] 24)).alloc (.cells #[.int .u64 0,.int .u64 0,.int .u64 0,.int .u64 0] 24))=W1 at *
 have Na:At W1 (w.heap.size) _ _:=at_of hW1 ((((At.at_ _ _ _ _ (by simp)).alloc _).alloc _).alloc _)
 have Nb:At W1 (w.heap.size+1) _ _:=at_of hW1 (((At.at_ _ _ _ _ (by simp)).alloc _).alloc _)
 have Nm:At W1 (w.heap.size+1+1) _ _:=at_of hW1 ((At.at_ _ _ _ _ (by simp)).alloc _)
 have No:At W1 (w.heap.size+1+1+1) _ _:=at_of hW1 (At.at_ _ _ _ _ (by simp))
 have NB:=gr_of hW1 (gr_alloc (gr_alloc (gr_alloc (gr_alloc BW.out _) _) _) _)
 clear hW1 BW 
 generalize w.heap.size+1+1+1=go at *
 generalize w.heap.size+1+1=gm at *
 generalize w.heap.size+1=gb at *
 obtain ⟨ga,hg0⟩:∃ g,g=w.heap.size:=⟨_,rfl⟩
 rw [← hg0] at Na ⊢
 rw [← hg0] at Dao
 clear hg0
 have Fa:=Lib.hid Na
 have Fb:=Lib.hid Nb
 have Fm:=Lib.hid Nm
 have Fo:=Lib.hid No
 have BW:=Lib.hid NB
 clear NB Na Nb Nm No
 clear Fb
 try simp only [List.append_eq,List.cons_append,List.nil_append]
 refine wp_region_noPanic ?_
 refine wp_region_held_drew (S:=fun w'=>At w' gm 24 #[.int .u64 (wd M 0:Nat),.int .u64 (wd M 1:Nat),.int .u64 (wd M 2:Nat),.int .u64 (wd M 3:Nat)]∧At w' ga 24 #[.int .u64 (wd A 0:Nat),.int .u64 (wd A 1:Nat),.int .u64 (wd A 2:Nat),.int .u64 (wd A 3:Nat)]) (by kernel_rfl) (⟨Fm.out.drew,Fa.out.drew⟩) (fun _=>?_)
 refine wpAnyH_cores (fuel:=2) (⟨0,17,[],Kind.val (.agg #[.int .u64 (wd M 0:Nat),.int .u64 (wd M 1:Nat),.int .u64 (wd M 2:Nat),.int .u64 (wd M 3:Nat)]),true⟩::⟨1,18,[0],Kind.val (.agg #[.int .u64 (wd M 0:Nat),.int .u64 (wd M 1:Nat),.int .u64 (wd M 2:Nat),.int .u64 (wd M 3:Nat),.int .u64 0,.int .u64 0,.int .u64 0,.int .u64 0]),true⟩::⟨2,19,[],Kind.val (.agg #[.int .u64 (wd A 0:Nat),.int .u64 (wd A 1:Nat),.int .u64 (wd A 2:Nat),.int .u64 (wd A 3:Nat)]),true⟩::⟨3,20,[],Kind.val (.agg #[.int .u64 (wd 1 0:Nat),.int .u64 (wd 1 1:Nat),.int .u64 (wd 1 2:Nat),.int .u64 (wd 1 3:Nat)]),false⟩::⟨4,21,[2,3],Kind.val (.agg #[.int .u64 (wd A 0:Nat),.int .u64 (wd A 1:Nat),.int .u64 (wd A 2:Nat),.int .u64 (wd A 3:Nat),.int .u64 (wd 1 0:Nat),.int .u64 (wd 1 1:Nat),.int .u64 (wd 1 2:Nat),.int .u64 (wd 1 3:Nat)]),true⟩::⟨5,8,[],Kind.cell W1.heap.size 88 #[.int .u64 0,.int .u64 0,.int .u64 0,.int .u64 0,.int .u64 0,.int .u64 0,.int .u64 0,.int .u64 0],false⟩::⟨6,9,[],Kind.cell W1.heap.size 88 #[.int .u64 0,.int .u64 0,.int .u64 0,.int .u64 0,.int .u64 0,.int .u64 0,.int .u64 0,.int .u64 0],false⟩::[]) _ _ W1 _ ?_ ?_ ?_ ?_ ?_ ?_ ?_ ?_ ?_ ?_ ?_
 ·rfl
 ·kernel_rfl
 ·exact of_decide_eq_true rfl
 ·(repeat refine all_cons ⟨_,rfl,rfl⟩ ?_);exact all_nil
 ·exact fun _ hb=>⟨Fm.out.on hb,Fa.out.on hb⟩
 ·exact (Below.refl _ _).drew
 ·kernel_rfl
 ·exact fun _ _ _ _ _ h=>h
 ·(repeat (refine all_cons ?_ ?_;rotate_left));exact all_nil
  ·exact core_loadP _ _ _ _ _ gm _ _ _ _ (by rfl) (by rfl) (ko 5) (fun _ hs=>hs.1)
  ·exact core_held _ _ _ _ _ _ _ _ (by rfl) (by rfl) (kc 0 17) (fun ρ w hx _=>build1 _ _ _ _ _ _ ρ w _ _ _ _ hx)
  ·exact core_loadP _ _ _ _ _ ga _ _ _ _ (by rfl) (by rfl) (ko 3) (fun _ hs=>hs.2)
  ·exact core_pureAs _ (by rfl)
  ·exact core_held2 _ _ _ _ _ _ _ _ _ _ (by rfl) (by rfl) (kc 2 19) (kc 3 20) (fun ρ w hx hy _=>build2 _ _ _ _ _ _ _ ρ w _ _ _ _ _ _ _ _ hx hy)
  ·exact core_pureAs _ (by rfl)
  ·exact core_pureAs _ (by rfl)
 ·(repeat (refine all_cons ?_ ?_;rotate_left));exact all_nil
  ·exact sA
  ·exact sA
  ·exact sA
  ·exact fun _=>core_call _ 30 _ _ [.const (.int .u64 1)] _ _ _ _ _ _ (by rfl) Tryd.func30 (by kernel_rfl) (by rfl) (by rfl) (.cons (known_const _) .nil) (HIO.out)
  ·exact sA
  ·exact fun _=>core_allocM _ _ _ _ _ (by rfl) (by rfl) (Nat.le_refl _)
  ·exact fun _=>core_allocM _ _ _ _ _ (by rfl) (by rfl) (Nat.le_refl _)
 intro vs y2 hc
 obtain ⟨vv0,vv1,vv2,vv3,vv4,vv5,vv6,rfl⟩:=len7 vs hc.lv
 have qq0:=okv hc 0
 have qq1:=okv hc 1
 have qq2:=okv hc 2
 have qq3:=okv hc 3
 have qq4:=okv hc 4
 obtain ⟨xx,hx,gl,hv,El,Al⟩:=hc.ok 5 _ rfl rfl
 have qq5:vv5=.pointer (some ⟨gl,0,none⟩):=(Option.some.inj (show some vv5=some xx from hx)).trans hv
 clear hx hv
 obtain ⟨xx,hx,gq,hv,Eq,Aq⟩:=hc.ok 6 _ rfl rfl
 have qq6:vv6=.pointer (some ⟨gq,0,none⟩):=(Option.some.inj (show some vv6=some xx from hx)).trans hv
 clear hx hv
 have Dlq:gl≠gq:=fun e=>hc.far 5 6 _ _ rfl rfl rfl rfl (by decide) rfl rfl (by show some vv5=some vv6;rw [qq5,qq6,e])
 have BZ:=hc.bel
 clear hc
 have Na:=Fa.out.on BZ
 have Nm:=Fm.out.on BZ
 have No:=Fo.out.on BZ
 have Dal:ga≠gl:=by have:=Fa.out.lt;omega
 have Dml:gm≠gl:=by have:=Fm.out.lt;omega
 have Dol:go≠gl:=by have:=Fo.out.lt;omega
 have EEl:w.heap.size≤gl:=Nat.le_trans BW.out.size El
 have Daq:ga≠gq:=by have:=Fa.out.lt;omega
 have Dmq:gm≠gq:=by have:=Fm.out.lt;omega
 have Doq:go≠gq:=by have:=Fo.out.lt;omega
 have EEq:w.heap.size≤gq:=Nat.le_trans BW.out.size Eq
 have HSZ2:=BW.out.size
 have NB:=bel_tr BW.out BZ
 clear BW BZ Fa Fm Fo
 subst qq0 qq1 qq2 qq3 qq4 qq5 qq6
 simp only [List.map_cons,List.map_nil,over,Act.put,List.setIfInBounds_toArray,List.set_cons_zero,List.set_cons_succ]
 have OLD:=Al
 replace Na:=put8_far Na Dal (.int .u64 (wd M 0:Nat)) (.int .u64 (wd M 1:Nat)) (.int .u64 (wd M 2:Nat)) (.int .u64 (wd M 3:Nat)) (.int .u64 0) (.int .u64 0) (.int .u64 0) (.int .u64 0)
 replace Nm:=put8_far Nm Dml (.int .u64 (wd M 0:Nat)) (.int .u64 (wd M 1:Nat)) (.int .u64 (wd M 2:Nat)) (.int .u64 (wd M 3:Nat)) (.int .u64 0) (.int .u64 0) (.int .u64 0) (.int .u64 0)
 replace No:=put8_far No Dol (.int .u64 (wd M 0:Nat)) (.int .u64 (wd M 1:Nat)) (.int .u64 (wd M 2:Nat)) (.int .u64 (wd M 3:Nat)) (.int .u64 0) (.int .u64 0) (.int .u64 0) (.int .u64 0)
 replace Al:=put8_at Al (.int .u64 (wd M 0:Nat)) (.int .u64 (wd M 1:Nat)) (.int .u64 (wd M 2:Nat)) (.int .u64 (wd M 3:Nat)) (.int .u64 0) (.int .u64 0) (.int .u64 0) (.int .u64 0)
 replace Aq:=put8_far Aq Dlq.symm (.int .u64 (wd M 0:Nat)) (.int .u64 (wd M 1:Nat)) (.int .u64 (wd M 2:Nat)) (.int .u64 (wd M 3:Nat)) (.int .u64 0) (.int .u64 0) (.int .u64 0) (.int .u64 0)
 replace NB:=put8_below NB (Nat.le_trans HSZ2 El) (.int .u64 (wd M 0:Nat)) (.int .u64 (wd M 1:Nat)) (.int .u64 (wd M 2:Nat)) (.int .u64 (wd M 3:Nat)) (.int .u64 0) (.int .u64 0) (.int .u64 0) (.int .u64 0)
 refine store_oneM (i:=7) _ _ _ _ _ gl _ _ _ _ _ _ _ _ _ _ _ _ _ _ _ _ (by kernel_rfl) (by rfl) (by rfl) (by rfl) OLD (⟨Nm,Na⟩) ?_
 clear OLD
 generalize (put8 y2 gl (.int .u64 (wd M 0:Nat)) (.int .u64 (wd M 1:Nat)) (.int .u64 (wd M 2:Nat)) (.int .u64 (wd M 3:Nat)) (.int .u64 0) (.int .u64 0) (.int .u64 0) (.int .u64 0))=y2_7 at *
 have OLD:=Aq
 replace Na:=put8_far Na Daq (.int .u64 (wd A 0:Nat)) (.int .u64 (wd A 1:Nat)) (.int .u64 (wd A 2:Nat)) (.int .u64 (wd A 3:Nat)) (.int .u64 (wd 1 0:Nat)) (.int .u64 (wd 1 1:Nat)) (.int .u64 (wd 1 2:Nat)) (.int .u64 (wd 1 3:Nat))
 replace Nm:=put8_far Nm Dmq (.int .u64 (wd A 0:Nat)) (.int .u64 (wd A 1:Nat)) (.int .u64 (wd A 2:Nat)) (.int .u64 (wd A 3:Nat)) (.int .u64 (wd 1 0:Nat)) (.int .u64 (wd 1 1:Nat)) (.int .u64 (wd 1 2:Nat)) (.int .u64 (wd 1 3:Nat))
 replace No:=put8_far No Doq (.int .u64 (wd A 0:Nat)) (.int .u64 (wd A 1:Nat)) (.int .u64 (wd A 2:Nat)) (.int .u64 (wd A 3:Nat)) (.int .u64 (wd 1 0:Nat)) (.int .u64 (wd 1 1:Nat)) (.int .u64 (wd 1 2:Nat)) (.int .u64 (wd 1 3:Nat))
 replace Al:=put8_far Al Dlq (.int .u64 (wd A 0:Nat)) (.int .u64 (wd A 1:Nat)) (.int .u64 (wd A 2:Nat)) (.int .u64 (wd A 3:Nat)) (.int .u64 (wd 1 0:Nat)) (.int .u64 (wd 1 1:Nat)) (.int .u64 (wd 1 2:Nat)) (.int .u64 (wd 1 3:Nat))
 replace Aq:=put8_at Aq (.int .u64 (wd A 0:Nat)) (.int .u64 (wd A 1:Nat)) (.int .u64 (wd A 2:Nat)) (.int .u64 (wd A 3:Nat)) (.int .u64 (wd 1 0:Nat)) (.int .u64 (wd 1 1:Nat)) (.int .u64 (wd 1 2:Nat)) (.int .u64 (wd 1 3:Nat))
 replace NB:=put8_below NB (Nat.le_trans HSZ2 Eq) (.int .u64 (wd A 0:Nat)) (.int .u64 (wd A 1:Nat)) (.int .u64 (wd A 2:Nat)) (.int .u64 (wd A 3:Nat)) (.int .u64 (wd 1 0:Nat)) (.int .u64 (wd 1 1:Nat)) (.int .u64 (wd 1 2:Nat)) (.int .u64 (wd 1 3:Nat))
 refine store_oneM (i:=8) _ _ _ _ _ gq _ _ _ _ _ _ _ _ _ _ _ _ _ _ _ _ (by kernel_rfl) (by rfl) (by rfl) (by rfl) OLD (⟨Nm,Na⟩) ?_
 clear OLD
 generalize (put8 y2_7 gq (.int .u64 (wd A 0:Nat)) (.int .u64 (wd A 1:Nat)) (.int .u64 (wd A 2:Nat)) (.int .u64 (wd A 3:Nat)) (.int .u64 (wd 1 0:Nat)) (.int .u64 (wd 1 1:Nat)) (.int .u64 (wd 1 2:Nat)) (.int .u64 (wd 1 3:Nat)))=y2_8 at *
 refine wpAnyH_done (by kernel_rfl) ?_ _
 refine NoPanic.normal ?_
 have Fa:=Lib.hid Na
 have Fm:=Lib.hid Nm
 have Fo:=Lib.hid No
 have Fl:=Lib.hid Al
 have Fq:=Lib.hid Aq
 have BW:=Lib.hid NB
 clear NB Na Nm No Al Aq
 clear El
 have El:=EEl
 clear Eq
 have Eq:=EEq
 clear HSZ2
 go_wp2_with fail
 go_loopw [] (fun wr=>∃ L U R V:Nat,Hid (At wr ga 24 #[.int .u64 (wd A 0:Nat),.int .u64 (wd A 1:Nat),.int .u64 (wd A 2:Nat),.int .u64 (wd A 3:Nat)]∧At wr gm 24 #[.int .u64 (wd M 0:Nat),.int .u64 (wd M 1:Nat),.int .u64 (wd M 2:Nat),.int .u64 (wd M 3:Nat)]∧At wr go 24 #[.int .u64 0,.int .u64 0,.int .u64 0,.int .u64 0]∧At wr gl 88 #[.int .u64 (wd L 0:Nat),.int .u64 (wd L 1:Nat),.int .u64 (wd L 2:Nat),.int .u64 (wd L 3:Nat),.int .u64 (wd U 0:Nat),.int .u64 (wd U 1:Nat),.int .u64 (wd U 2:Nat),.int .u64 (wd U 3:Nat)]∧At wr gq 88 #[.int .u64 (wd R 0:Nat),.int .u64 (wd R 1:Nat),.int .u64 (wd R 2:Nat),.int .u64 (wd R 3:Nat),.int .u64 (wd V 0:Nat),.int .u64 (wd V 1:Nat),.int .u64 (wd V 2:Nat),.int .u64 (wd V 3:Nat)]∧Below w.heap.size w wr∧L≤M∧R<L∧U<M∧V<M∧Nat.gcd L R=Nat.gcd A M∧(M:Int)∣(A:Int)*U-L∧(M:Int)∣(A:Int)*V-R)) (fun wr=>blockVal wr gq)
 case atStart=>
  have e0:∀ k,wd 0 k=0:=fun k=>by simp [wd]
  refine ⟨M,0,A,1,Fa.out,Fm.out,Fo.out,?_,Fq.out,BW.out,Nat.le_refl _,HA.out,by have:=H1.out;omega,H1.out,Nat.gcd_comm _ _,⟨-1,by simp⟩,⟨0,by simp⟩⟩
  rw [e0,e0,e0,e0];exact Fl.out
 case round=>
  obtain ⟨L,U,R,V,hM⟩:=hrel
  clear BW Fa Fm Fo Fl Fq
  have Fa:=Lib.hid hM.out.1
  have Fm:=Lib.hid hM.out.2.1
  have Fo:=Lib.hid hM.out.2.2.1
  have Fl:=Lib.hid hM.out.2.2.2.1
  have Fq:=Lib.hid hM.out.2.2.2.2.1
  have BW:=Lib.hid hM.out.2.2.2.2.2.1
  have HL:=Lib.hid hM.out.2.2.2.2.2.2.1
  have HR:=Lib.hid hM.out.2.2.2.2.2.2.2.1
  have HU:=Lib.hid hM.out.2.2.2.2.2.2.2.2.1
  have HV:=Lib.hid hM.out.2.2.2.2.2.2.2.2.2.1
  have HG:=Lib.hid hM.out.2.2.2.2.2.2.2.2.2.2.1
  have HLU:=Lib.hid hM.out.2.2.2.2.2.2.2.2.2.2.2.1
  have HRV:=Lib.hid hM.out.2.2.2.2.2.2.2.2.2.2.2.2
  have hM256:=HM.out
  have hR256:R<2^256:=by have:=HL.out;have:=HR.out;omega
  have hL256:L<2^256:=by have:=HL.out;omega
  have HMS:=Lib.hid (Fq.out.val8 hR256)
  clear hM
  by_cases hr0:R=0
  ·subst hr0
   have EQ:∀ w,(Op.equalIn 10000 24 (.agg #[.int .u64 0,.int .u64 0,.int .u64 0,.int .u64 0]) (.agg #[.int .u64 0,.int .u64 0,.int .u64 0,.int .u64 0])).run Tryd.prog w=.ok true w:=fun w=>by rw [← num_zero,eqN 0 0 (by decide) (by decide)];rfl
   have e0:∀ k,wd 0 k=0:=fun k=>by simp [wd]
   have Nq:=Fq.out
   rw [e0,e0,e0,e0] at Nq
   clear Fq e0
   have Fq:=Lib.hid Nq
   clear Nq
   have hg:=HG.out
   rw [Nat.gcd_zero_right] at hg
   have eqb:=eqN L 1 hL256 (by decide)
   have HGL:=Lib.hid hg
   clear hg HMS HR hR256 HG
   have Lq:=Fq.out.lt
   have cq0:wr.cell? ⟨gq,0,none⟩=some (.int .u64 0):=Fq.out.cell 0
   have cq1:wr.cell? ⟨gq,1,none⟩=some (.int .u64 0):=Fq.out.cell 1
   have cq2:wr.cell? ⟨gq,2,none⟩=some (.int .u64 0):=Fq.out.cell 2
   have cq3:wr.cell? ⟨gq,3,none⟩=some (.int .u64 0):=Fq.out.cell 3
   have cq4:wr.cell? ⟨gq,4,none⟩=some (.int .u64 (wd V 0:Nat)):=Fq.out.cell 4
   have cq5:wr.cell? ⟨gq,5,none⟩=some (.int .u64 (wd V 1:Nat)):=Fq.out.cell 5
   have cq6:wr.cell? ⟨gq,6,none⟩=some (.int .u64 (wd V 2:Nat)):=Fq.out.cell 6
   have cq7:wr.cell? ⟨gq,7,none⟩=some (.int .u64 (wd V 3:Nat)):=Fq.out.cell 7
   go_wp2_with (simp only [EQ])
   clear EQ Lq cq0 cq1 cq2 cq3 cq4 cq5 cq6 cq7
   by_cases hl:L=1
   ·have EB:∀ w,(Op.equalIn 10000 24 (num L) (num 1)).run Tryd.prog w=.ok true w:=fun w=>by rw [eqb];simp [hl]
    have HEB:=Lib.hid EB
    clear EB eqb
    try simp only [List.append_eq,List.cons_append,List.nil_append]
    refine wp_region_noPanic ?_
    refine wp_region_held_drew (S:=fun w'=>At w' gl 88 #[.int .u64 (wd L 0:Nat),.int .u64 (wd L 1:Nat),.int .u64 (wd L 2:Nat),.int .u64 (wd L 3:Nat),.int .u64 (wd U 0:Nat),.int .u64 (wd U 1:Nat),.int .u64 (wd U 2:Nat),.int .u64 (wd U 3:Nat)]) (by kernel_rfl) (Fl.out.drew) (fun _=>?_)
    refine wpAnyH_cores (fuel:=0) (⟨0,55,[],Kind.val (.pointer (some ⟨gl,0,none⟩)),true⟩::⟨1,56,[0],Kind.val (.agg #[.int .u64 (wd L 0:Nat),.int .u64 (wd L 1:Nat),.int .u64 (wd L 2:Nat),.int .u64 (wd L 3:Nat)]),true⟩::⟨2,57,[1],Kind.val (.agg #[.int .u64 (wd 1 0:Nat),.int .u64 (wd 1 1:Nat),.int .u64 (wd 1 2:Nat),.int .u64 (wd 1 3:Nat)]),false⟩::⟨3,58,[1,2],Kind.val (.bool false),true⟩::[]) _ _ wr _ ?_ ?_ ?_ ?_ ?_ ?_ ?_ ?_ ?_ ?_ ?_
    ·rfl
    ·kernel_rfl
    ·exact of_decide_eq_true (by kernel_rfl)
    ·(repeat refine all_cons ⟨_,by rfl,by rfl⟩ ?_);exact all_nil
    ·exact fun _ hb=>Fl.out.on hb
    ·exact (Below.refl _ _).drew
    ·kernel_rfl
    ·exact fun _ _ _ _ _ h=>h
    ·(repeat (refine all_cons ?_ ?_;rotate_left));exact all_nil
     ·exact core_held _ _ _ _ _ _ _ _ (by rfl) (by rfl) (ko 8) (fun ρ w hx _=>fieldM0 _ _ _ _ _ _ ρ w gl hx)
     ·exact core_held _ _ _ _ _ _ _ _ (by rfl) (by rfl) (kc 0 55) (fun ρ w hx hs=>loadM0 _ _ _ _ _ _ ρ w gl _ _ _ _ _ _ _ _ hx hs)
     ·exact core_pureAs _ (by rfl)
     ·exact coreG_bin _ _ _ _ _ _ _ _ _ _ _ _ _ (by rfl) (by rfl) (wants_none) (kc 1 56) (kc 2 57) (neq_run true _ _ _ _ _ _ _ _ _ _ _ _ _ _ _ (HEB.out))
    ·(repeat (refine all_cons ?_ ?_;rotate_left));exact all_nil
     ·exact sA
     ·exact sA
     ·exact fun _=>coreG_call _ 30 _ _ [.const (.int .u64 1)] _ _ _ _ _ _ _ (by rfl) Tryd.func30 (by kernel_rfl) (by rfl) (by rfl) (wants_none) (.cons (known_const _) .nil) (HIO.out)
     ·exact sA
    intro vs y3 hc
    obtain ⟨vv0,vv1,vv2,vv3,rfl⟩:=len4 vs hc.lv
    have qq0:=okv hc 0
    have qq1:=okv hc 1
    have qq2:=okv hc 2
    have qq3:=okv hc 3
    have BZ:=hc.bel
    clear hc
    have Na:=Fa.out.on BZ
    have Nm:=Fm.out.on BZ
    have No:=Fo.out.on BZ
    have Nl:=Fl.out.on BZ
    have Nq:=Fq.out.on BZ
    have NB:=bel_tr BW.out BZ
    clear BW BZ Fa Fm Fo Fl Fq
    subst qq0 qq1 qq2 qq3
    simp only [List.map_cons,List.map_nil,over,Act.put,List.setIfInBounds_toArray,List.set_cons_zero,List.set_cons_succ]
    refine wpAnyH_done (by kernel_rfl) ?_ _
    refine NoPanic.normal ?_
    have Fa:=Lib.hid Na
    have Fm:=Lib.hid Nm
    have Fo:=Lib.hid No
    have Fl:=Lib.hid Nl
    have Fq:=Lib.hid Nq
    have BW:=Lib.hid NB
    clear NB Na Nm No Nl Nq
    have Ll:=Fl.out.lt
    have cl0:y3.cell? ⟨gl,0,none⟩=some (.int .u64 (wd L 0:Nat)):=Fl.out.cell 0
    have cl1:y3.cell? ⟨gl,1,none⟩=some (.int .u64 (wd L 1:Nat)):=Fl.out.cell 1
    have cl2:y3.cell? ⟨gl,2,none⟩=some (.int .u64 (wd L 2:Nat)):=Fl.out.cell 2
    have cl3:y3.cell? ⟨gl,3,none⟩=some (.int .u64 (wd L 3:Nat)):=Fl.out.cell 3
    have cl4:y3.cell? ⟨gl,4,none⟩=some (.int .u64 (wd U 0:Nat)):=Fl.out.cell 4
    have cl5:y3.cell? ⟨gl,5,none⟩=some (.int .u64 (wd U 1:Nat)):=Fl.out.cell 5
    have cl6:y3.cell? ⟨gl,6,none⟩=some (.int .u64 (wd U 2:Nat)):=Fl.out.cell 6
    have cl7:y3.cell? ⟨gl,7,none⟩=some (.int .u64 (wd U 3:Nat)):=Fl.out.cell 7
    have Lo:=Fo.out.lt
    have co0:=Fo.out.c0
    have co1:=Fo.out.c1
    have co2:=Fo.out.c2
    have co3:=Fo.out.c3
    have fo0:y3.frozen? ⟨go,0,none⟩=false:=Fo.out.frozen 0
    have fo1:y3.frozen? ⟨go,1,none⟩=false:=Fo.out.frozen 1
    have fo2:y3.frozen? ⟨go,2,none⟩=false:=Fo.out.frozen 2
    have fo3:y3.frozen? ⟨go,3,none⟩=false:=Fo.out.frozen 3
    go_wp2_with fail
    clear Ll cl0 cl1 cl2 cl3 cl4 cl5 cl6 cl7 Lo co0 co1 co2 co3 fo0 fo1 fo2 fo3
    generalize hW4:((((y3.setCell ⟨go,0,none⟩ (.int .u64 (wd U 0:Nat))).setCell ⟨go,1,none⟩ (.int .u64 (wd U 1:Nat))).setCell ⟨go,2,none⟩ (.int .u64 (wd U 2:Nat))).setCell ⟨go,3,none⟩ (.int .u64 (wd U 3:Nat)))=W4 at *
    have Na:=at_of hW4 ((Fa.out).far4 Dao _ _ _ _)
    have Nm:=at_of hW4 ((Fm.out).far4 Dmo _ _ _ _)
    have No:=at_of hW4 ((Fo.out).put4 _ _ _ _)
    have Nl:=at_of hW4 ((Fl.out).far4 Dol.symm _ _ _ _)
    have Nq:=at_of hW4 ((Fq.out).far4 Doq.symm _ _ _ _)
    have NB:=gr_of hW4 (((((BW.out).setCell Eo _).setCell Eo _).setCell Eo _).setCell Eo _)
    clear hW4 BW Fa Fm Fo Fl Fq
    have Fa:=Lib.hid Na
    have Fm:=Lib.hid Nm
    have Fo:=Lib.hid No
    have Fl:=Lib.hid Nl
    have Fq:=Lib.hid Nq
    have BW:=Lib.hid NB
    clear NB Na Nm No Nl Nq
    have Lo:=Fo.out.lt
    have co0:=Fo.out.c0
    have co1:=Fo.out.c1
    have co2:=Fo.out.c2
    have co3:=Fo.out.c3
    exact bodyPost_ret (v:=.tuple #[num U,.int .i64 0]) (by simp [results,Tryd.results44,go_sem, *]) rfl ⟨_,_,rfl,Or.inl ⟨by rw [← HGL.out,hl],rfl,U,rfl,HU.out,dvd_mod H1.out (by have:=HLU.out;rw [hl] at this;rw [Int.natCast_mul];exact this)⟩,BW.out⟩
   ·have EB:∀ w,(Op.equalIn 10000 24 (num L) (num 1)).run Tryd.prog w=.ok false w:=fun w=>by rw [eqb];simp [hl]
    have HEB:=Lib.hid EB
    clear EB eqb
    try simp only [List.append_eq,List.cons_append,List.nil_append]
    refine wp_region_noPanic ?_
    refine wp_region_held_drew (S:=fun w'=>At w' gl 88 #[.int .u64 (wd L 0:Nat),.int .u64 (wd L 1:Nat),.int .u64 (wd L 2:Nat),.int .u64 (wd L 3:Nat),.int .u64 (wd U 0:Nat),.int .u64 (wd U 1:Nat),.int .u64 (wd U 2:Nat),.int .u64 (wd U 3:Nat)]) (by kernel_rfl) (Fl.out.drew) (fun _=>?_)
    refine wpAnyH_cores (fuel:=0) (⟨0,55,[],Kind.val (.pointer (some ⟨gl,0,none⟩)),true⟩::⟨1,56,[0],Kind.val (.agg #[.int .u64 (wd L 0:Nat),.int .u64 (wd L 1:Nat),.int .u64 (wd L 2:Nat),.int .u64 (wd L 3:Nat)]),true⟩::⟨2,57,[1],Kind.val (.agg #[.int .u64 (wd 1 0:Nat),.int .u64 (wd 1 1:Nat),.int .u64 (wd 1 2:Nat),.int .u64 (wd 1 3:Nat)]),false⟩::⟨3,58,[1,2],Kind.val (.bool true),true⟩::[]) _ _ wr _ ?_ ?_ ?_ ?_ ?_ ?_ ?_ ?_ ?_ ?_ ?_
    ·rfl
    ·kernel_rfl
    ·exact of_decide_eq_true (by kernel_rfl)
    ·(repeat refine all_cons ⟨_,by rfl,by rfl⟩ ?_);exact all_nil
    ·exact fun _ hb=>Fl.out.on hb
    ·exact (Below.refl _ _).drew
    ·kernel_rfl
    ·exact fun _ _ _ _ _ h=>h
    ·(repeat (refine all_cons ?_ ?_;rotate_left));exact all_nil
     ·exact core_held _ _ _ _ _ _ _ _ (by rfl) (by rfl) (ko 8) (fun ρ w hx _=>fieldM0 _ _ _ _ _ _ ρ w gl hx)
     ·exact core_held _ _ _ _ _ _ _ _ (by rfl) (by rfl) (kc 0 55) (fun ρ w hx hs=>loadM0 _ _ _ _ _ _ ρ w gl _ _ _ _ _ _ _ _ hx hs)
     ·exact core_pureAs _ (by rfl)
     ·exact coreG_bin _ _ _ _ _ _ _ _ _ _ _ _ _ (by rfl) (by rfl) (wants_none) (kc 1 56) (kc 2 57) (neq_run false _ _ _ _ _ _ _ _ _ _ _ _ _ _ _ (HEB.out))
    ·(repeat (refine all_cons ?_ ?_;rotate_left));exact all_nil
     ·exact sA
     ·exact sA
     ·exact fun _=>coreG_call _ 30 _ _ [.const (.int .u64 1)] _ _ _ _ _ _ _ (by rfl) Tryd.func30 (by kernel_rfl) (by rfl) (by rfl) (wants_none) (.cons (known_const _) .nil) (HIO.out)
     ·exact sA
    intro vs y3 hc
    obtain ⟨vv0,vv1,vv2,vv3,rfl⟩:=len4 vs hc.lv
    have qq0:=okv hc 0
    have qq1:=okv hc 1
    have qq2:=okv hc 2
    have qq3:=okv hc 3
    have BZ:=hc.bel
    clear hc
    have Na:=Fa.out.on BZ
    have Nm:=Fm.out.on BZ
    have No:=Fo.out.on BZ
    have Nl:=Fl.out.on BZ
    have Nq:=Fq.out.on BZ
    have NB:=bel_tr BW.out BZ
    clear BW BZ Fa Fm Fo Fl Fq
    subst qq0 qq1 qq2 qq3
    simp only [List.map_cons,List.map_nil,over,Act.put,List.setIfInBounds_toArray,List.set_cons_zero,List.set_cons_succ]
    refine wpAnyH_done (by kernel_rfl) ?_ _
    refine NoPanic.normal ?_
    have Fa:=Lib.hid Na
    have Fm:=Lib.hid Nm
    have Fo:=Lib.hid No
    have Fl:=Lib.hid Nl
    have Fq:=Lib.hid Nq
    have BW:=Lib.hid NB
    clear NB Na Nm No Nl Nq
    have Lo:=Fo.out.lt
    have co0:=Fo.out.c0
    have co1:=Fo.out.c1
    have co2:=Fo.out.c2
    have co3:=Fo.out.c3
    have fo0:y3.frozen? ⟨go,0,none⟩=false:=Fo.out.frozen 0
    have fo1:y3.frozen? ⟨go,1,none⟩=false:=Fo.out.frozen 1
    have fo2:y3.frozen? ⟨go,2,none⟩=false:=Fo.out.frozen 2
    have fo3:y3.frozen? ⟨go,3,none⟩=false:=Fo.out.frozen 3
    go_wp2_with fail
    clear Lo co0 co1 co2 co3 fo0 fo1 fo2 fo3
    generalize hW4:((((y3.setCell ⟨go,0,none⟩ (.int .u64 0)).setCell ⟨go,1,none⟩ (.int .u64 0)).setCell ⟨go,2,none⟩ (.int .u64 0)).setCell ⟨go,3,none⟩ (.int .u64 0))=W4 at *
    have Na:=at_of hW4 ((Fa.out).far4 Dao _ _ _ _)
    have Nm:=at_of hW4 ((Fm.out).far4 Dmo _ _ _ _)
    have No:=at_of hW4 ((Fo.out).put4 _ _ _ _)
    have Nl:=at_of hW4 ((Fl.out).far4 Dol.symm _ _ _ _)
    have Nq:=at_of hW4 ((Fq.out).far4 Doq.symm _ _ _ _)
    have NB:=gr_of hW4 (((((BW.out).setCell Eo _).setCell Eo _).setCell Eo _).setCell Eo _)
    clear hW4 BW Fa Fm Fo Fl Fq
    have Fa:=Lib.hid Na
    have Fm:=Lib.hid Nm
    have Fo:=Lib.hid No
    have Fl:=Lib.hid Nl
    have Fq:=Lib.hid Nq
    have BW:=Lib.hid NB
    clear NB Na Nm No Nl Nq
    have Lo:=Fo.out.lt
    have co0:=Fo.out.c0
    have co1:=Fo.out.c1
    have co2:=Fo.out.c2
    have co3:=Fo.out.c3
    exact bodyPost_ret (v:=.tuple #[.agg #[.int .u64 0,.int .u64 0,.int .u64 0,.int .u64 0],.int .i64 7]) (by simp [results,Tryd.results44,go_sem, *]) rfl ⟨_,_,rfl,Or.inr ⟨by rw [← HGL.out];exact hl,rfl,num_zero.symm⟩,BW.out⟩
  ·have EQ:∀ w,(Op.equalIn 10000 24 (num R) (.agg #[.int .u64 0,.int .u64 0,.int .u64 0,.int .u64 0])).run Tryd.prog w=.ok false w:=fun w=>by rw [eqZ R hR256];simp [hr0]
   obtain ⟨Q,r,hQ,hr,he,C1⟩:=div_ex L R hL256 hR256 hr0
   have C2:=prod_any Q V M hQ (by have:=HV.out;omega) hM256 (by have:=H1.out;omega)
   obtain ⟨P,hP⟩:∃ P,P=Q*V%M:=⟨_,rfl⟩
   rw [← hP] at C2
   obtain ⟨D,c,hD,hc,hd,C3⟩:=diff_ex U P M HU.out (by rw [hP];exact Nat.mod_lt _ (by have:=H1.out;omega)) hM256
   have HC1:=Lib.hid C1;have HC2:=Lib.hid C2;have HC3:=Lib.hid C3;have HE:=Lib.hid he;have HRR:=Lib.hid hr;have HP:=Lib.hid hP;have HD:=Lib.hid hD;have HDD:=Lib.hid hd;have HR256:=Lib.hid hR256
   clear C1 C2 C3 he hr hP hD hc hd hQ hL256 hR256 hM256 hr0
   have Lq:=Fq.out.lt
   have cq0:wr.cell? ⟨gq,0,none⟩=some (.int .u64 (wd R 0:Nat)):=Fq.out.cell 0
   have cq1:wr.cell? ⟨gq,1,none⟩=some (.int .u64 (wd R 1:Nat)):=Fq.out.cell 1
   have cq2:wr.cell? ⟨gq,2,none⟩=some (.int .u64 (wd R 2:Nat)):=Fq.out.cell 2
   have cq3:wr.cell? ⟨gq,3,none⟩=some (.int .u64 (wd R 3:Nat)):=Fq.out.cell 3
   have cq4:wr.cell? ⟨gq,4,none⟩=some (.int .u64 (wd V 0:Nat)):=Fq.out.cell 4
   have cq5:wr.cell? ⟨gq,5,none⟩=some (.int .u64 (wd V 1:Nat)):=Fq.out.cell 5
   have cq6:wr.cell? ⟨gq,6,none⟩=some (.int .u64 (wd V 2:Nat)):=Fq.out.cell 6
   have cq7:wr.cell? ⟨gq,7,none⟩=some (.int .u64 (wd V 3:Nat)):=Fq.out.cell 7
   have Ll:=Fl.out.lt
   have cl0:wr.cell? ⟨gl,0,none⟩=some (.int .u64 (wd L 0:Nat)):=Fl.out.cell 0
   have cl1:wr.cell? ⟨gl,1,none⟩=some (.int .u64 (wd L 1:Nat)):=Fl.out.cell 1
   have cl2:wr.cell? ⟨gl,2,none⟩=some (.int .u64 (wd L 2:Nat)):=Fl.out.cell 2
   have cl3:wr.cell? ⟨gl,3,none⟩=some (.int .u64 (wd L 3:Nat)):=Fl.out.cell 3
   have cl4:wr.cell? ⟨gl,4,none⟩=some (.int .u64 (wd U 0:Nat)):=Fl.out.cell 4
   have cl5:wr.cell? ⟨gl,5,none⟩=some (.int .u64 (wd U 1:Nat)):=Fl.out.cell 5
   have cl6:wr.cell? ⟨gl,6,none⟩=some (.int .u64 (wd U 2:Nat)):=Fl.out.cell 6
   have cl7:wr.cell? ⟨gl,7,none⟩=some (.int .u64 (wd U 3:Nat)):=Fl.out.cell 7
   go_wp2_with (simp only [EQ])
   clear EQ Lq cq0 cq1 cq2 cq3 cq4 cq5 cq6 cq7 Ll cl0 cl1 cl2 cl3 cl4 cl5 cl6 cl7
   refine (HC1.out _).mono ?_
   rintro e v3 ⟨rfl,z3⟩
   have Na:=Lib.hid (Fa.out.on z3)
   have Nm:=Lib.hid (Fm.out.on z3)
   have No:=Lib.hid (Fo.out.on z3)
   have Nl:=Lib.hid (Fl.out.on z3)
   have Nq:=Lib.hid (Fq.out.on z3)
   have NB:=Lib.hid (bel_tr BW.out z3)
   clear BW z3 Fa Fm Fo Fl Fq
   have Fa:=Na
   have Fm:=Nm
   have Fo:=No
   have Fl:=Nl
   have Fq:=Nq
   have BW:=NB
   clear NB Na Nm No Nl Nq
   have Lq:=Fq.out.lt
   have cq0:v3.cell? ⟨gq,0,none⟩=some (.int .u64 (wd R 0:Nat)):=Fq.out.cell 0
   have cq1:v3.cell? ⟨gq,1,none⟩=some (.int .u64 (wd R 1:Nat)):=Fq.out.cell 1
   have cq2:v3.cell? ⟨gq,2,none⟩=some (.int .u64 (wd R 2:Nat)):=Fq.out.cell 2
   have cq3:v3.cell? ⟨gq,3,none⟩=some (.int .u64 (wd R 3:Nat)):=Fq.out.cell 3
   have cq4:v3.cell? ⟨gq,4,none⟩=some (.int .u64 (wd V 0:Nat)):=Fq.out.cell 4
   have cq5:v3.cell? ⟨gq,5,none⟩=some (.int .u64 (wd V 1:Nat)):=Fq.out.cell 5
   have cq6:v3.cell? ⟨gq,6,none⟩=some (.int .u64 (wd V 2:Nat)):=Fq.out.cell 6
   have cq7:v3.cell? ⟨gq,7,none⟩=some (.int .u64 (wd V 3:Nat)):=Fq.out.cell 7
   have Lm:=Fm.out.lt
   have cm0:=Fm.out.c0
   have cm1:=Fm.out.c1
   have cm2:=Fm.out.c2
   have cm3:=Fm.out.c3
   go_wp2_with fail
   clear Lq cq0 cq1 cq2 cq3 cq4 cq5 cq6 cq7 Lm cm0 cm1 cm2 cm3
   have Dou:go≠v3.heap.size:=by have:=Fo.out.lt;omega
   have Dlu:gl≠v3.heap.size:=by have:=Fl.out.lt;omega
   have Dqu:gq≠v3.heap.size:=by have:=Fq.out.lt;omega
   have Dov:go≠v3.heap.size+1:=by have:=Fo.out.lt;omega
   have Dlv:gl≠v3.heap.size+1:=by have:=Fl.out.lt;omega
   have Dqv:gq≠v3.heap.size+1:=by have:=Fq.out.lt;omega
   generalize hW4:((v3.alloc (.cells #[.int .u64 (wd Q 0:Nat),.int .u64 (wd Q 1:Nat),.int .u64 (wd Q 2:Nat),.int .u64 (wd Q 3:Nat)] 24)).alloc (.cells #[.int .u64 (wd r 0:Nat),.int .u64 (wd r 1:Nat),.int .u64 (wd r 2:Nat),.int .u64 (wd r 3:Nat)] 24))=W4 at *
   have Nu:At W4 (v3.heap.size) _ _:=at_of hW4 ((At.at_ _ _ _ _ (by simp)).alloc _)
   have Nv:At W4 (v3.heap.size+1) _ _:=at_of hW4 (At.at_ _ _ _ _ (by simp))
   have Na:=at_of hW4 ((Fa.out.alloc _).alloc _)
   have Nm:=at_of hW4 ((Fm.out.alloc _).alloc _)
   have No:=at_of hW4 ((Fo.out.alloc _).alloc _)
   have Nl:=at_of hW4 ((Fl.out.alloc _).alloc _)
   have Nq:=at_of hW4 ((Fq.out.alloc _).alloc _)
   have NB:=gr_of hW4 (gr_alloc (gr_alloc BW.out _) _)
   clear hW4 BW Fa Fm Fo Fl Fq
   generalize v3.heap.size+1=gv at *
   generalize v3.heap.size=gu at *
   have Fa:=Lib.hid Na
   have Fm:=Lib.hid Nm
   have Fo:=Lib.hid No
   have Fl:=Lib.hid Nl
   have Fq:=Lib.hid Nq
   have Fu:=Lib.hid Nu
   have Fv:=Lib.hid Nv
   have BW:=Lib.hid NB
   clear NB Na Nm No Nl Nq Nu Nv
   refine (HC2.out _).mono ?_
   rintro e v5 ⟨rfl,z5⟩
   have Na:=Lib.hid (Fa.out.on z5)
   have Nm:=Lib.hid (Fm.out.on z5)
   have No:=Lib.hid (Fo.out.on z5)
   have Nl:=Lib.hid (Fl.out.on z5)
   have Nq:=Lib.hid (Fq.out.on z5)
   have Nu:=Lib.hid (Fu.out.on z5)
   have Nv:=Lib.hid (Fv.out.on z5)
   have NB:=Lib.hid (bel_tr BW.out z5)
   clear BW z5 Fa Fm Fo Fl Fq Fu Fv
   have Fa:=Na
   have Fm:=Nm
   have Fo:=No
   have Fl:=Nl
   have Fq:=Nq
   have Fu:=Nu
   have Fv:=Nv
   have BW:=NB
   clear NB Na Nm No Nl Nq Nu Nv
   have Ll:=Fl.out.lt
   have cl0:v5.cell? ⟨gl,0,none⟩=some (.int .u64 (wd L 0:Nat)):=Fl.out.cell 0
   have cl1:v5.cell? ⟨gl,1,none⟩=some (.int .u64 (wd L 1:Nat)):=Fl.out.cell 1
   have cl2:v5.cell? ⟨gl,2,none⟩=some (.int .u64 (wd L 2:Nat)):=Fl.out.cell 2
   have cl3:v5.cell? ⟨gl,3,none⟩=some (.int .u64 (wd L 3:Nat)):=Fl.out.cell 3
   have cl4:v5.cell? ⟨gl,4,none⟩=some (.int .u64 (wd U 0:Nat)):=Fl.out.cell 4
   have cl5:v5.cell? ⟨gl,5,none⟩=some (.int .u64 (wd U 1:Nat)):=Fl.out.cell 5
   have cl6:v5.cell? ⟨gl,6,none⟩=some (.int .u64 (wd U 2:Nat)):=Fl.out.cell 6
   have cl7:v5.cell? ⟨gl,7,none⟩=some (.int .u64 (wd U 3:Nat)):=Fl.out.cell 7
   have Lm:=Fm.out.lt
   have cm0:=Fm.out.c0
   have cm1:=Fm.out.c1
   have cm2:=Fm.out.c2
   have cm3:=Fm.out.c3
   go_wp2_with fail
   clear Ll cl0 cl1 cl2 cl3 cl4 cl5 cl6 cl7 Lm cm0 cm1 cm2 cm3
   have Dox:go≠v5.heap.size:=by have:=Fo.out.lt;omega
   have Dlx:gl≠v5.heap.size:=by have:=Fl.out.lt;omega
   have Dqx:gq≠v5.heap.size:=by have:=Fq.out.lt;omega
   generalize hW6:(v5.alloc (.cells #[.int .u64 (wd P 0:Nat),.int .u64 (wd P 1:Nat),.int .u64 (wd P 2:Nat),.int .u64 (wd P 3:Nat)] 24))=W6 at *
   have Nx:At W6 (v5.heap.size) _ _:=at_of hW6 (At.at_ _ _ _ _ (by simp))
   have Na:=at_of hW6 (Fa.out.alloc _)
   have Nm:=at_of hW6 (Fm.out.alloc _)
   have No:=at_of hW6 (Fo.out.alloc _)
   have Nl:=at_of hW6 (Fl.out.alloc _)
   have Nq:=at_of hW6 (Fq.out.alloc _)
   have Nu:=at_of hW6 (Fu.out.alloc _)
   have Nv:=at_of hW6 (Fv.out.alloc _)
   have NB:=gr_of hW6 (gr_alloc BW.out _)
   clear hW6 BW Fa Fm Fo Fl Fq Fu Fv
   generalize v5.heap.size=gx at *
   have Fa:=Lib.hid Na
   have Fm:=Lib.hid Nm
   have Fo:=Lib.hid No
   have Fl:=Lib.hid Nl
   have Fq:=Lib.hid Nq
   have Fu:=Lib.hid Nu
   have Fv:=Lib.hid Nv
   have Fx:=Lib.hid Nx
   have BW:=Lib.hid NB
   clear NB Na Nm No Nl Nq Nu Nv Nx
   refine (HC3.out _).mono ?_
   rintro e v7 ⟨rfl,z7⟩
   have Na:=Lib.hid (Fa.out.on z7)
   have Nm:=Lib.hid (Fm.out.on z7)
   have No:=Lib.hid (Fo.out.on z7)
   have Nl:=Lib.hid (Fl.out.on z7)
   have Nq:=Lib.hid (Fq.out.on z7)
   have Nu:=Lib.hid (Fu.out.on z7)
   have Nv:=Lib.hid (Fv.out.on z7)
   have Nx:=Lib.hid (Fx.out.on z7)
   have NB:=Lib.hid (bel_tr BW.out z7)
   clear BW z7 Fa Fm Fo Fl Fq Fu Fv Fx
   have Fa:=Na
   have Fm:=Nm
   have Fo:=No
   have Fl:=Nl
   have Fq:=Nq
   have Fu:=Nu
   have Fv:=Nv
   have Fx:=Nx
   have BW:=NB
   clear NB Na Nm No Nl Nq Nu Nv Nx
   go_wp2_with fail
   have Doy:go≠v7.heap.size:=by have:=Fo.out.lt;omega
   have Dly:gl≠v7.heap.size:=by have:=Fl.out.lt;omega
   have Dqy:gq≠v7.heap.size:=by have:=Fq.out.lt;omega
   generalize hW8:(v7.alloc (.cells #[.int .u64 (wd D 0:Nat),.int .u64 (wd D 1:Nat),.int .u64 (wd D 2:Nat),.int .u64 (wd D 3:Nat)] 24))=W8 at *
   have Ny:At W8 (v7.heap.size) _ _:=at_of hW8 (At.at_ _ _ _ _ (by simp))
   have Na:=at_of hW8 (Fa.out.alloc _)
   have Nm:=at_of hW8 (Fm.out.alloc _)
   have No:=at_of hW8 (Fo.out.alloc _)
   have Nl:=at_of hW8 (Fl.out.alloc _)
   have Nq:=at_of hW8 (Fq.out.alloc _)
   have Nu:=at_of hW8 (Fu.out.alloc _)
   have Nv:=at_of hW8 (Fv.out.alloc _)
   have Nx:=at_of hW8 (Fx.out.alloc _)
   have NB:=gr_of hW8 (gr_alloc BW.out _)
   clear hW8 BW Fa Fm Fo Fl Fq Fu Fv Fx
   generalize v7.heap.size=gy at *
   have Fa:=Lib.hid Na
   have Fm:=Lib.hid Nm
   have Fo:=Lib.hid No
   have Fl:=Lib.hid Nl
   have Fq:=Lib.hid Nq
   have Fu:=Lib.hid Nu
   have Fv:=Lib.hid Nv
   have Fx:=Lib.hid Nx
   have Fy:=Lib.hid Ny
   have BW:=Lib.hid NB
   clear NB Na Nm No Nl Nq Nu Nv Nx Ny
   try simp only [List.append_eq,List.cons_append,List.nil_append]
   refine wp_region_noPanic ?_
   refine wp_region_held_drew (S:=fun w'=>At w' gv 24 #[.int .u64 (wd r 0:Nat),.int .u64 (wd r 1:Nat),.int .u64 (wd r 2:Nat),.int .u64 (wd r 3:Nat)]∧At w' gy 24 #[.int .u64 (wd D 0:Nat),.int .u64 (wd D 1:Nat),.int .u64 (wd D 2:Nat),.int .u64 (wd D 3:Nat)]) (by kernel_rfl) (⟨Fv.out.drew,Fy.out.drew⟩) (fun _=>?_)
   refine wpAnyH_cores (fuel:=2) (⟨0,51,[],Kind.val (.agg #[.int .u64 (wd R 0:Nat),.int .u64 (wd R 1:Nat),.int .u64 (wd R 2:Nat),.int .u64 (wd R 3:Nat),.int .u64 (wd V 0:Nat),.int .u64 (wd V 1:Nat),.int .u64 (wd V 2:Nat),.int .u64 (wd V 3:Nat)]),false⟩::⟨1,52,[],Kind.val (.agg #[.int .u64 (wd r 0:Nat),.int .u64 (wd r 1:Nat),.int .u64 (wd r 2:Nat),.int .u64 (wd r 3:Nat)]),true⟩::⟨2,53,[],Kind.val (.agg #[.int .u64 (wd D 0:Nat),.int .u64 (wd D 1:Nat),.int .u64 (wd D 2:Nat),.int .u64 (wd D 3:Nat)]),true⟩::⟨3,54,[1,2],Kind.val (.agg #[.int .u64 (wd r 0:Nat),.int .u64 (wd r 1:Nat),.int .u64 (wd r 2:Nat),.int .u64 (wd r 3:Nat),.int .u64 (wd D 0:Nat),.int .u64 (wd D 1:Nat),.int .u64 (wd D 2:Nat),.int .u64 (wd D 3:Nat)]),true⟩::[]) _ _ W8 _ ?_ ?_ ?_ ?_ ?_ ?_ ?_ ?_ ?_ ?_ ?_
   ·rfl
   ·kernel_rfl
   ·exact of_decide_eq_true rfl
   ·(repeat refine all_cons ⟨_,rfl,rfl⟩ ?_);exact all_nil
   ·exact fun _ hb=>⟨Fv.out.on hb,Fy.out.on hb⟩
   ·exact (Below.refl _ _).drew
   ·kernel_rfl
   ·exact fun _ _ _ _ _ h=>h
   ·(repeat (refine all_cons ?_ ?_;rotate_left));exact all_nil
    ·exact core_pureAs _ (by rfl)
    ·exact core_loadP _ _ _ _ _ gv _ _ _ _ (by rfl) (by rfl) (ko 11) (fun _ hs=>hs.1)
    ·exact core_loadP _ _ _ _ _ gy _ _ _ _ (by rfl) (by rfl) (ko 15) (fun _ hs=>hs.2)
    ·exact core_held2 _ _ _ _ _ _ _ _ _ _ (by rfl) (by rfl) (kc 1 52) (kc 2 53) (fun ρ w hx hy _=>build2 _ _ _ _ _ _ _ ρ w _ _ _ _ _ _ _ _ hx hy)
   ·(repeat (refine all_cons ?_ ?_;rotate_left));exact all_nil
    ·exact fun _=>core_loadM _ _ _ _ _ gq _ _ _ _ _ _ _ _ (by rfl) (by rfl) (ko 9) Fq.out
    ·exact sA
    ·exact sA
    ·exact sA
   intro vs y9 hc
   obtain ⟨vv0,vv1,vv2,vv3,rfl⟩:=len4 vs hc.lv
   have qq0:=okv hc 0
   have qq1:=okv hc 1
   have qq2:=okv hc 2
   have qq3:=okv hc 3
   have BZ:=hc.bel
   clear hc
   have Na:=Fa.out.on BZ
   have Nm:=Fm.out.on BZ
   have No:=Fo.out.on BZ
   have Nl:=Fl.out.on BZ
   have Nq:=Fq.out.on BZ
   have Nu:=Fu.out.on BZ
   have Nv:=Fv.out.on BZ
   have Nx:=Fx.out.on BZ
   have Ny:=Fy.out.on BZ
   have HSZ9:=BW.out.size
   have NB:=bel_tr BW.out BZ
   clear BW BZ Fa Fm Fo Fl Fq Fu Fv Fx Fy
   subst qq0 qq1 qq2 qq3
   simp only [List.map_cons,List.map_nil,over,Act.put,List.setIfInBounds_toArray,List.set_cons_zero,List.set_cons_succ]
   have OLD:=Nl
   replace Na:=put8_far Na Dal (.int .u64 (wd R 0:Nat)) (.int .u64 (wd R 1:Nat)) (.int .u64 (wd R 2:Nat)) (.int .u64 (wd R 3:Nat)) (.int .u64 (wd V 0:Nat)) (.int .u64 (wd V 1:Nat)) (.int .u64 (wd V 2:Nat)) (.int .u64 (wd V 3:Nat))
   replace Nm:=put8_far Nm Dml (.int .u64 (wd R 0:Nat)) (.int .u64 (wd R 1:Nat)) (.int .u64 (wd R 2:Nat)) (.int .u64 (wd R 3:Nat)) (.int .u64 (wd V 0:Nat)) (.int .u64 (wd V 1:Nat)) (.int .u64 (wd V 2:Nat)) (.int .u64 (wd V 3:Nat))
   replace No:=put8_far No Dol (.int .u64 (wd R 0:Nat)) (.int .u64 (wd R 1:Nat)) (.int .u64 (wd R 2:Nat)) (.int .u64 (wd R 3:Nat)) (.int .u64 (wd V 0:Nat)) (.int .u64 (wd V 1:Nat)) (.int .u64 (wd V 2:Nat)) (.int .u64 (wd V 3:Nat))
   replace Nl:=put8_at Nl (.int .u64 (wd R 0:Nat)) (.int .u64 (wd R 1:Nat)) (.int .u64 (wd R 2:Nat)) (.int .u64 (wd R 3:Nat)) (.int .u64 (wd V 0:Nat)) (.int .u64 (wd V 1:Nat)) (.int .u64 (wd V 2:Nat)) (.int .u64 (wd V 3:Nat))
   replace Nq:=put8_far Nq Dlq.symm (.int .u64 (wd R 0:Nat)) (.int .u64 (wd R 1:Nat)) (.int .u64 (wd R 2:Nat)) (.int .u64 (wd R 3:Nat)) (.int .u64 (wd V 0:Nat)) (.int .u64 (wd V 1:Nat)) (.int .u64 (wd V 2:Nat)) (.int .u64 (wd V 3:Nat))
   replace Nu:=put8_far Nu Dlu.symm (.int .u64 (wd R 0:Nat)) (.int .u64 (wd R 1:Nat)) (.int .u64 (wd R 2:Nat)) (.int .u64 (wd R 3:Nat)) (.int .u64 (wd V 0:Nat)) (.int .u64 (wd V 1:Nat)) (.int .u64 (wd V 2:Nat)) (.int .u64 (wd V 3:Nat))
   replace Nv:=put8_far Nv Dlv.symm (.int .u64 (wd R 0:Nat)) (.int .u64 (wd R 1:Nat)) (.int .u64 (wd R 2:Nat)) (.int .u64 (wd R 3:Nat)) (.int .u64 (wd V 0:Nat)) (.int .u64 (wd V 1:Nat)) (.int .u64 (wd V 2:Nat)) (.int .u64 (wd V 3:Nat))
   replace Nx:=put8_far Nx Dlx.symm (.int .u64 (wd R 0:Nat)) (.int .u64 (wd R 1:Nat)) (.int .u64 (wd R 2:Nat)) (.int .u64 (wd R 3:Nat)) (.int .u64 (wd V 0:Nat)) (.int .u64 (wd V 1:Nat)) (.int .u64 (wd V 2:Nat)) (.int .u64 (wd V 3:Nat))
   replace Ny:=put8_far Ny Dly.symm (.int .u64 (wd R 0:Nat)) (.int .u64 (wd R 1:Nat)) (.int .u64 (wd R 2:Nat)) (.int .u64 (wd R 3:Nat)) (.int .u64 (wd V 0:Nat)) (.int .u64 (wd V 1:Nat)) (.int .u64 (wd V 2:Nat)) (.int .u64 (wd V 3:Nat))
   replace NB:=put8_below NB El (.int .u64 (wd R 0:Nat)) (.int .u64 (wd R 1:Nat)) (.int .u64 (wd R 2:Nat)) (.int .u64 (wd R 3:Nat)) (.int .u64 (wd V 0:Nat)) (.int .u64 (wd V 1:Nat)) (.int .u64 (wd V 2:Nat)) (.int .u64 (wd V 3:Nat))
   refine store_oneM (i:=4) _ _ _ _ _ gl _ _ _ _ _ _ _ _ _ _ _ _ _ _ _ _ (by kernel_rfl) (by rfl) (by rfl) (by rfl) OLD (⟨Nv,Ny⟩) ?_
   clear OLD
   generalize (put8 y9 gl (.int .u64 (wd R 0:Nat)) (.int .u64 (wd R 1:Nat)) (.int .u64 (wd R 2:Nat)) (.int .u64 (wd R 3:Nat)) (.int .u64 (wd V 0:Nat)) (.int .u64 (wd V 1:Nat)) (.int .u64 (wd V 2:Nat)) (.int .u64 (wd V 3:Nat)))=y9_4 at *
   have OLD:=Nq
   replace Na:=put8_far Na Daq (.int .u64 (wd r 0:Nat)) (.int .u64 (wd r 1:Nat)) (.int .u64 (wd r 2:Nat)) (.int .u64 (wd r 3:Nat)) (.int .u64 (wd D 0:Nat)) (.int .u64 (wd D 1:Nat)) (.int .u64 (wd D 2:Nat)) (.int .u64 (wd D 3:Nat))
   replace Nm:=put8_far Nm Dmq (.int .u64 (wd r 0:Nat)) (.int .u64 (wd r 1:Nat)) (.int .u64 (wd r 2:Nat)) (.int .u64 (wd r 3:Nat)) (.int .u64 (wd D 0:Nat)) (.int .u64 (wd D 1:Nat)) (.int .u64 (wd D 2:Nat)) (.int .u64 (wd D 3:Nat))
   replace No:=put8_far No Doq (.int .u64 (wd r 0:Nat)) (.int .u64 (wd r 1:Nat)) (.int .u64 (wd r 2:Nat)) (.int .u64 (wd r 3:Nat)) (.int .u64 (wd D 0:Nat)) (.int .u64 (wd D 1:Nat)) (.int .u64 (wd D 2:Nat)) (.int .u64 (wd D 3:Nat))
   replace Nl:=put8_far Nl Dlq (.int .u64 (wd r 0:Nat)) (.int .u64 (wd r 1:Nat)) (.int .u64 (wd r 2:Nat)) (.int .u64 (wd r 3:Nat)) (.int .u64 (wd D 0:Nat)) (.int .u64 (wd D 1:Nat)) (.int .u64 (wd D 2:Nat)) (.int .u64 (wd D 3:Nat))
   replace Nq:=put8_at Nq (.int .u64 (wd r 0:Nat)) (.int .u64 (wd r 1:Nat)) (.int .u64 (wd r 2:Nat)) (.int .u64 (wd r 3:Nat)) (.int .u64 (wd D 0:Nat)) (.int .u64 (wd D 1:Nat)) (.int .u64 (wd D 2:Nat)) (.int .u64 (wd D 3:Nat))
   replace Nu:=put8_far Nu Dqu.symm (.int .u64 (wd r 0:Nat)) (.int .u64 (wd r 1:Nat)) (.int .u64 (wd r 2:Nat)) (.int .u64 (wd r 3:Nat)) (.int .u64 (wd D 0:Nat)) (.int .u64 (wd D 1:Nat)) (.int .u64 (wd D 2:Nat)) (.int .u64 (wd D 3:Nat))
   replace Nv:=put8_far Nv Dqv.symm (.int .u64 (wd r 0:Nat)) (.int .u64 (wd r 1:Nat)) (.int .u64 (wd r 2:Nat)) (.int .u64 (wd r 3:Nat)) (.int .u64 (wd D 0:Nat)) (.int .u64 (wd D 1:Nat)) (.int .u64 (wd D 2:Nat)) (.int .u64 (wd D 3:Nat))
   replace Nx:=put8_far Nx Dqx.symm (.int .u64 (wd r 0:Nat)) (.int .u64 (wd r 1:Nat)) (.int .u64 (wd r 2:Nat)) (.int .u64 (wd r 3:Nat)) (.int .u64 (wd D 0:Nat)) (.int .u64 (wd D 1:Nat)) (.int .u64 (wd D 2:Nat)) (.int .u64 (wd D 3:Nat))
   replace Ny:=put8_far Ny Dqy.symm (.int .u64 (wd r 0:Nat)) (.int .u64 (wd r 1:Nat)) (.int .u64 (wd r 2:Nat)) (.int .u64 (wd r 3:Nat)) (.int .u64 (wd D 0:Nat)) (.int .u64 (wd D 1:Nat)) (.int .u64 (wd D 2:Nat)) (.int .u64 (wd D 3:Nat))
   replace NB:=put8_below NB Eq (.int .u64 (wd r 0:Nat)) (.int .u64 (wd r 1:Nat)) (.int .u64 (wd r 2:Nat)) (.int .u64 (wd r 3:Nat)) (.int .u64 (wd D 0:Nat)) (.int .u64 (wd D 1:Nat)) (.int .u64 (wd D 2:Nat)) (.int .u64 (wd D 3:Nat))
   refine store_oneM (i:=5) _ _ _ _ _ gq _ _ _ _ _ _ _ _ _ _ _ _ _ _ _ _ (by kernel_rfl) (by rfl) (by rfl) (by rfl) OLD (⟨Nv,Ny⟩) ?_
   clear OLD
   generalize (put8 y9_4 gq (.int .u64 (wd r 0:Nat)) (.int .u64 (wd r 1:Nat)) (.int .u64 (wd r 2:Nat)) (.int .u64 (wd r 3:Nat)) (.int .u64 (wd D 0:Nat)) (.int .u64 (wd D 1:Nat)) (.int .u64 (wd D 2:Nat)) (.int .u64 (wd D 3:Nat)))=y9_5 at *
   refine wpAnyH_done (by kernel_rfl) ?_ _
   refine NoPanic.normal ?_
   have Fa:=Lib.hid Na
   have Fm:=Lib.hid Nm
   have Fo:=Lib.hid No
   have Fl:=Lib.hid Nl
   have Fq:=Lib.hid Nq
   have Fu:=Lib.hid Nu
   have Fv:=Lib.hid Nv
   have Fx:=Lib.hid Nx
   have Fy:=Lib.hid Ny
   have BW:=Lib.hid NB
   clear NB Na Nm No Nl Nq Nu Nv Nx Ny
   clear HSZ9
   go_wp2_with fail
   go_roundw
   case rel=>
    have h1:=HL.out;have h2:=HR.out;have h3:=HRR.out
    have hg:Nat.gcd R r=Nat.gcd A M:=by rw [← HG.out,HE.out,Nat.gcd_comm (Q*R+r),Nat.mul_comm Q R];simp
    have hd:(M:Int)∣(A:Int)*D-r:=by
     obtain ⟨q,hq⟩:=mod_ex (Q*V) M
     rw [← HP.out] at hq
     have e1:=cst HE.out;have e2:=cst hq;have e3:=cst HDD.out
     simp only [Int.natCast_add,Int.natCast_mul] at e1 e2 e3
     exact eu_round A M L U R V Q r P D c HLU.out HRV.out e1 ⟨q,by omega⟩ e3
    exact ⟨R,V,r,D,Fa.out,Fm.out,Fo.out,Fl.out,Fq.out,BW.out,by omega,h3,HV.out,HD.out,hg,HRV.out,hd⟩
   case measure=>
    have h3:=HRR.out
    rw [HMS.out,Fq.out.val8 (by have:=HR256.out;omega)];exact h3

end Go.Proofs.YtlphnfajhpkleaaDoor
