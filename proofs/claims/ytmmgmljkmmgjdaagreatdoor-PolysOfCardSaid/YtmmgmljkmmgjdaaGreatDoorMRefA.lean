import Derived.Test.YtmmgmljkmmgjdaaGreatDoorMMod11
import Derived.Test.YtmmgmljkmmgjdaaGreatDoorMRDiv
import Derived.Test.YtmmgmljkmmgjdaaGreatDoorMRMul
import Derived.Test.YtmmgmljkmmgjdaaGreatDoorMRWWord
import Derived.Test.YtmmgmljkmmgjdaaGreatDoorMRbits
import Derived.Test.YtmmgmljkmmgjdaaGreatDoorMTree
namespace Go.Proofs.YtmmgmljkmmgjdaaGreatDoor
set_option maxRecDepth 100000
set_option maxHeartbeats 8000000
open Go.RowKit
set_option linter.unusedSimpArgs false
set_option linter.unusedVariables false
attribute [local go_sem ↓] Go.wp_at_zero Go.wp_at_succ

theorem may_yes (A B M Z:Nat) (k j i:Int)
  (hk:0<k)
  (hj:j<0)
  (hi:i<0)
  (O:∀ w,Calls Tryz.prog 122 #[.int .u64 1] w fun e w'=>e=.returned (num Z)∧Below w.heap.size w w')
  (K:∀ w,Calls Tryz.prog 119 #[num M,num Z] w fun e w'=>e=.returned (.int .i64 k)∧Below w.heap.size w w')
  (J:∀ w,Calls Tryz.prog 119 #[num A,num M] w fun e w'=>e=.returned (.int .i64 j)∧Below w.heap.size w w')
  (I:∀ w,Calls Tryz.prog 119 #[num B,num M] w fun e w'=>e=.returned (.int .i64 i)∧Below w.heap.size w w')
  (w:World):Calls Tryz.prog 185 #[num A,num B,num M] w fun e w'=>e=.returned (.bool true)∧Below w.heap.size w w':=by
 have HO:=Jja O
 have HK:=Jja K
 have HJ:=Jja J
 have HI:=Jja I
 clear O K J I
 go_enter Tryz.func185,Tryz.ntmps185
 go_wp2_with fail
 have BW:=Jja (Below.refl w.heap.size w)
 generalize hW1:(((w.alloc (.cells (ncs A) 24)).alloc (.cells (ncs B) 24)).alloc (.cells (ncs M) 24))=W1 at *
 have Na:At W1 (w.heap.size) _ _:=Jf hW1 (((At.at_ _ _ _ _ (by simp)).alloc _).alloc _)
 have Nb:At W1 (w.heap.size+1) _ _:=Jf hW1 ((At.at_ _ _ _ _ (by simp)).alloc _)
 have Nm:At W1 (w.heap.size+1+1) _ _:=Jf hW1 (At.at_ _ _ _ _ (by simp))
 have NB:=Ka hW1 (Jd (Jd (Jd BW.out _) _) _)
 clear hW1 BW 
 generalize w.heap.size+1+1=gm at *
 generalize w.heap.size+1=gb at *
 obtain ⟨ga,hg0⟩:∃ g,g=w.heap.size:=⟨_,rfl⟩
 rw [← hg0] at Na ⊢
 clear hg0
 have Fa:=Jja Na
 have Fb:=Jja Nb
 have Fm:=Jja Nm
 have BW:=Jja NB
 clear NB Na Nb Nm
 try simp only [List.append_eq,List.cons_append,List.nil_append]
 refine wp_region_noPanic ?_
 refine wp_region_held_drew (S:=fun w'=>At w' gm 24 (ncs M)∧At w' ga 24 (ncs A)∧At w' gb 24 (ncs B)) (by kernel_rfl) (⟨Fm.out.drew,Fa.out.drew,Fb.out.drew⟩) (fun _=>?_)
 refine Jy (fuel:=1) (⟨0,7,[],Kind.val (num M),true⟩::⟨1,8,[0],Kind.val (num Z),false⟩::⟨2,9,[0,1],Kind.val (.int .i64 k),false⟩::⟨3,10,[2],Kind.val (.bool true),true⟩::⟨4,11,[3],Kind.val (.bool true),true⟩::⟨5,12,[4],Kind.val (num A),true⟩::⟨6,13,[4,5],Kind.val (num M),true⟩::⟨7,14,[4,5,6],Kind.val (.int .i64 j),false⟩::⟨8,15,[4,7],Kind.val (.bool true),true⟩::⟨9,16,[4,8],Kind.val (.bool true),true⟩::⟨10,17,[9],Kind.val (.bool true),true⟩::⟨11,18,[10],Kind.val (num B),true⟩::⟨12,19,[10,11],Kind.val (num M),true⟩::⟨13,20,[10,11,12],Kind.val (.int .i64 i),false⟩::⟨14,21,[10,13],Kind.val (.bool true),true⟩::⟨15,22,[10,14],Kind.val (.bool true),true⟩::[]) _ _ W1 _ ?_ ?_ ?_ ?_ ?_ ?_ ?_ ?_ ?_ ?_ ?_
 ·rfl
 ·kernel_rfl
 ·exact of_decide_eq_true (by kernel_rfl)
 ·(repeat refine all_cons ⟨_,by rfl,by rfl⟩ ?_);exact all_nil
 ·exact fun _ hb=>⟨Fm.out.on hb,Fa.out.on hb,Fb.out.on hb⟩
 ·exact (Below.refl _ _).drew
 ·kernel_rfl
 ·exact fun _ _ _ _ _ h=>h
 ·(repeat (refine all_cons ?_ ?_;rotate_left));exact all_nil
  all_goals try exact Jm _ (by rfl)
  ·exact Ju _ _ _ _ _ _ gm _ _ _ _ (by rfl) (by rfl) (Jg) (ko 5) (fun _ hs=>hs.1)
  ·exact Ke _ _ _ _ _ _ _ _ _ _ _ _ _ (by rfl) (by rfl) (Jg) (kc 2 9) (Ji _) ((fun ρ w hx hy=>by simp only [execOp,hx,hy];simp [go_sem];exact hk))
  ·exact Kr _ _ _ _ _ _ _ (by rfl) (by rfl) (Jg) (kc 3 10)
  ·exact Ju _ _ _ _ _ _ ga _ _ _ _ (by rfl) (by rfl) (wc 4 11 4 (kc 4 11)) (ko 3) (fun _ hs=>hs.2.1)
  ·exact Ju _ _ _ _ _ _ gm _ _ _ _ (by rfl) (by rfl) (wc 4 11 4 (kc 4 11)) (ko 5) (fun _ hs=>hs.1)
  ·exact Ke _ _ _ _ _ _ _ _ _ _ _ _ _ (by rfl) (by rfl) (wc 4 11 4 (kc 4 11)) (kc 7 14) (Ji _) ((fun ρ w hx hy=>by simp only [execOp,hx,hy];simp [go_sem];exact hj))
  ·exact Kq _ _ _ _ _ _ _ _ _ _ _ _ (by rfl) (by rfl) (Jg) (kc 4 11) (kc 8 15) (Ji _) (by rfl)
  ·exact Kr _ _ _ _ _ _ _ (by rfl) (by rfl) (Jg) (kc 9 16)
  ·exact Ju _ _ _ _ _ _ gb _ _ _ _ (by rfl) (by rfl) (wc 10 17 10 (kc 10 17)) (ko 4) (fun _ hs=>hs.2.2)
  ·exact Ju _ _ _ _ _ _ gm _ _ _ _ (by rfl) (by rfl) (wc 10 17 10 (kc 10 17)) (ko 5) (fun _ hs=>hs.1)
  ·exact Ke _ _ _ _ _ _ _ _ _ _ _ _ _ (by rfl) (by rfl) (wc 10 17 10 (kc 10 17)) (kc 13 20) (Ji _) ((fun ρ w hx hy=>by simp only [execOp,hx,hy];simp [go_sem];exact hi))
  ·exact Kq _ _ _ _ _ _ _ _ _ _ _ _ (by rfl) (by rfl) (Jg) (kc 10 17) (kc 14 21) (Ji _) (by rfl)
 ·(repeat (refine all_cons ?_ ?_;rotate_left));exact all_nil
  all_goals try exact sA
  ·exact fun _=>Jl _ 122 _ _ [.const (.int .u64 1)] _ _ _ _ _ _ _ (by rfl) Tryz.func122 (by kernel_rfl) (by rfl) (by rfl) (Jg) (.cons (Ji _) .nil) (HO.out)
  ·exact fun _=>Jl _ 119 _ _ [.tmp 7,.tmp 8] _ _ _ _ _ _ _ (by rfl) Tryz.func119 (by kernel_rfl) (by rfl) (by rfl) (Jg) (.cons (kc 0 7) (.cons (kc 1 8) .nil)) (HK.out)
  ·exact fun _=>Jl _ 119 _ _ [.tmp 12,.tmp 13] _ _ _ _ _ _ _ (by rfl) Tryz.func119 (by kernel_rfl) (by rfl) (by rfl) (wc 4 11 4 (kc 4 11)) (.cons (kc 5 12) (.cons (kc 6 13) .nil)) (HJ.out)
  ·exact fun _=>Jl _ 119 _ _ [.tmp 18,.tmp 19] _ _ _ _ _ _ _ (by rfl) Tryz.func119 (by kernel_rfl) (by rfl) (by rfl) (wc 10 17 10 (kc 10 17)) (.cons (kc 11 18) (.cons (kc 12 19) .nil)) (HI.out)
 intro vs y2 hc
 have BZ:=Jr BW.out hc.bel
 refine Vd (i:=16) (.tmp 22) 6 _ _ _ (.bool true) (by kernel_rfl) (by rfl) (hc.at_ (of_decide_eq_true (by kernel_rfl)) (by rfl) 15 22 _ (.bool true) (by rfl) (by rfl) (by rfl)) (⟨Fm.out.on hc.bel,Fa.out.on hc.bel,Fb.out.on hc.bel⟩) ?_
 refine wpAnyH_done (by kernel_rfl) ?_ _
 refine NoPanic.normal ?_
 generalize hA:Act.put (over _ _ vs) (some 6) (.bool true)=A
 have hA0:A.tmps.getD 6 undef=.bool true:=by rw [← hA];exact Jgv _ _ _ (by rw [Wr];exact Nat.le_of_ble_eq_true rfl)
 have hAd:A.defers=[]:=by rw [← hA,Jao,Vu]
 clear hA hc
 go_wp2_with fail
 refine bodyPost_ret (v:=.bool true) (by simp [results,Tryz.results185,go_sem] at hA0 ⊢;simp [hA0]) hAd ⟨rfl,BZ⟩

theorem may_b (A B M Z:Nat) (k j i:Int)
  (hk:0<k)
  (hj:j<0)
  (hi:0≤i)
  (O:∀ w,Calls Tryz.prog 122 #[.int .u64 1] w fun e w'=>e=.returned (num Z)∧Below w.heap.size w w')
  (K:∀ w,Calls Tryz.prog 119 #[num M,num Z] w fun e w'=>e=.returned (.int .i64 k)∧Below w.heap.size w w')
  (J:∀ w,Calls Tryz.prog 119 #[num A,num M] w fun e w'=>e=.returned (.int .i64 j)∧Below w.heap.size w w')
  (I:∀ w,Calls Tryz.prog 119 #[num B,num M] w fun e w'=>e=.returned (.int .i64 i)∧Below w.heap.size w w')
  (w:World):Calls Tryz.prog 185 #[num A,num B,num M] w fun e w'=>e=.returned (.bool false)∧Below w.heap.size w w':=by
 have HO:=Jja O
 have HK:=Jja K
 have HJ:=Jja J
 have HI:=Jja I
 clear O K J I
 go_enter Tryz.func185,Tryz.ntmps185
 go_wp2_with fail
 have BW:=Jja (Below.refl w.heap.size w)
 generalize hW1:(((w.alloc (.cells (ncs A) 24)).alloc (.cells (ncs B) 24)).alloc (.cells (ncs M) 24))=W1 at *
 have Na:At W1 (w.heap.size) _ _:=Jf hW1 (((At.at_ _ _ _ _ (by simp)).alloc _).alloc _)
 have Nb:At W1 (w.heap.size+1) _ _:=Jf hW1 ((At.at_ _ _ _ _ (by simp)).alloc _)
 have Nm:At W1 (w.heap.size+1+1) _ _:=Jf hW1 (At.at_ _ _ _ _ (by simp))
 have NB:=Ka hW1 (Jd (Jd (Jd BW.out _) _) _)
 clear hW1 BW 
 generalize w.heap.size+1+1=gm at *
 generalize w.heap.size+1=gb at *
 obtain ⟨ga,hg0⟩:∃ g,g=w.heap.size:=⟨_,rfl⟩
 rw [← hg0] at Na ⊢
 clear hg0
 have Fa:=Jja Na
 have Fb:=Jja Nb
 have Fm:=Jja Nm
 have BW:=Jja NB
 clear NB Na Nb Nm
 try simp only [List.append_eq,List.cons_append,List.nil_append]
 refine wp_region_noPanic ?_
 refine wp_region_held_drew (S:=fun w'=>At w' gm 24 (ncs M)∧At w' ga 24 (ncs A)∧At w' gb 24 (ncs B)) (by kernel_rfl) (⟨Fm.out.drew,Fa.out.drew,Fb.out.drew⟩) (fun _=>?_)
 refine Jy (fuel:=1) (⟨0,7,[],Kind.val (num M),true⟩::⟨1,8,[0],Kind.val (num Z),false⟩::⟨2,9,[0,1],Kind.val (.int .i64 k),false⟩::⟨3,10,[2],Kind.val (.bool true),true⟩::⟨4,11,[3],Kind.val (.bool true),true⟩::⟨5,12,[4],Kind.val (num A),true⟩::⟨6,13,[4,5],Kind.val (num M),true⟩::⟨7,14,[4,5,6],Kind.val (.int .i64 j),false⟩::⟨8,15,[4,7],Kind.val (.bool true),true⟩::⟨9,16,[4,8],Kind.val (.bool true),true⟩::⟨10,17,[9],Kind.val (.bool true),true⟩::⟨11,18,[10],Kind.val (num B),true⟩::⟨12,19,[10,11],Kind.val (num M),true⟩::⟨13,20,[10,11,12],Kind.val (.int .i64 i),false⟩::⟨14,21,[10,13],Kind.val (.bool false),true⟩::⟨15,22,[10,14],Kind.val (.bool false),true⟩::[]) _ _ W1 _ ?_ ?_ ?_ ?_ ?_ ?_ ?_ ?_ ?_ ?_ ?_
 ·rfl
 ·kernel_rfl
 ·exact of_decide_eq_true (by kernel_rfl)
 ·(repeat refine all_cons ⟨_,by rfl,by rfl⟩ ?_);exact all_nil
 ·exact fun _ hb=>⟨Fm.out.on hb,Fa.out.on hb,Fb.out.on hb⟩
 ·exact (Below.refl _ _).drew
 ·kernel_rfl
 ·exact fun _ _ _ _ _ h=>h
 ·(repeat (refine all_cons ?_ ?_;rotate_left));exact all_nil
  all_goals try exact Jm _ (by rfl)
  ·exact Ju _ _ _ _ _ _ gm _ _ _ _ (by rfl) (by rfl) (Jg) (ko 5) (fun _ hs=>hs.1)
  ·exact Ke _ _ _ _ _ _ _ _ _ _ _ _ _ (by rfl) (by rfl) (Jg) (kc 2 9) (Ji _) ((fun ρ w hx hy=>by simp only [execOp,hx,hy];simp [go_sem];exact hk))
  ·exact Kr _ _ _ _ _ _ _ (by rfl) (by rfl) (Jg) (kc 3 10)
  ·exact Ju _ _ _ _ _ _ ga _ _ _ _ (by rfl) (by rfl) (wc 4 11 4 (kc 4 11)) (ko 3) (fun _ hs=>hs.2.1)
  ·exact Ju _ _ _ _ _ _ gm _ _ _ _ (by rfl) (by rfl) (wc 4 11 4 (kc 4 11)) (ko 5) (fun _ hs=>hs.1)
  ·exact Ke _ _ _ _ _ _ _ _ _ _ _ _ _ (by rfl) (by rfl) (wc 4 11 4 (kc 4 11)) (kc 7 14) (Ji _) ((fun ρ w hx hy=>by simp only [execOp,hx,hy];simp [go_sem];exact hj))
  ·exact Kq _ _ _ _ _ _ _ _ _ _ _ _ (by rfl) (by rfl) (Jg) (kc 4 11) (kc 8 15) (Ji _) (by rfl)
  ·exact Kr _ _ _ _ _ _ _ (by rfl) (by rfl) (Jg) (kc 9 16)
  ·exact Ju _ _ _ _ _ _ gb _ _ _ _ (by rfl) (by rfl) (wc 10 17 10 (kc 10 17)) (ko 4) (fun _ hs=>hs.2.2)
  ·exact Ju _ _ _ _ _ _ gm _ _ _ _ (by rfl) (by rfl) (wc 10 17 10 (kc 10 17)) (ko 5) (fun _ hs=>hs.1)
  ·exact Ke _ _ _ _ _ _ _ _ _ _ _ _ _ (by rfl) (by rfl) (wc 10 17 10 (kc 10 17)) (kc 13 20) (Ji _) ((fun ρ w hx hy=>by simp only [execOp,hx,hy];simp [go_sem];exact hi))
  ·exact Kq _ _ _ _ _ _ _ _ _ _ _ _ (by rfl) (by rfl) (Jg) (kc 10 17) (kc 14 21) (Ji _) (by rfl)
 ·(repeat (refine all_cons ?_ ?_;rotate_left));exact all_nil
  all_goals try exact sA
  ·exact fun _=>Jl _ 122 _ _ [.const (.int .u64 1)] _ _ _ _ _ _ _ (by rfl) Tryz.func122 (by kernel_rfl) (by rfl) (by rfl) (Jg) (.cons (Ji _) .nil) (HO.out)
  ·exact fun _=>Jl _ 119 _ _ [.tmp 7,.tmp 8] _ _ _ _ _ _ _ (by rfl) Tryz.func119 (by kernel_rfl) (by rfl) (by rfl) (Jg) (.cons (kc 0 7) (.cons (kc 1 8) .nil)) (HK.out)
  ·exact fun _=>Jl _ 119 _ _ [.tmp 12,.tmp 13] _ _ _ _ _ _ _ (by rfl) Tryz.func119 (by kernel_rfl) (by rfl) (by rfl) (wc 4 11 4 (kc 4 11)) (.cons (kc 5 12) (.cons (kc 6 13) .nil)) (HJ.out)
  ·exact fun _=>Jl _ 119 _ _ [.tmp 18,.tmp 19] _ _ _ _ _ _ _ (by rfl) Tryz.func119 (by kernel_rfl) (by rfl) (by rfl) (wc 10 17 10 (kc 10 17)) (.cons (kc 11 18) (.cons (kc 12 19) .nil)) (HI.out)
 intro vs y2 hc
 have BZ:=Jr BW.out hc.bel
 refine Vd (i:=16) (.tmp 22) 6 _ _ _ (.bool false) (by kernel_rfl) (by rfl) (hc.at_ (of_decide_eq_true (by kernel_rfl)) (by rfl) 15 22 _ (.bool false) (by rfl) (by rfl) (by rfl)) (⟨Fm.out.on hc.bel,Fa.out.on hc.bel,Fb.out.on hc.bel⟩) ?_
 refine wpAnyH_done (by kernel_rfl) ?_ _
 refine NoPanic.normal ?_
 generalize hA:Act.put (over _ _ vs) (some 6) (.bool false)=A
 have hA0:A.tmps.getD 6 undef=.bool false:=by rw [← hA];exact Jgv _ _ _ (by rw [Wr];exact Nat.le_of_ble_eq_true rfl)
 have hAd:A.defers=[]:=by rw [← hA,Jao,Vu]
 clear hA hc
 go_wp2_with fail
 refine bodyPost_ret (v:=.bool false) (by simp [results,Tryz.results185,go_sem] at hA0 ⊢;simp [hA0]) hAd ⟨rfl,BZ⟩

theorem may_a (A B M Z:Nat) (k j:Int)
  (hk:0<k)
  (hj:0≤j)
  (O:∀ w,Calls Tryz.prog 122 #[.int .u64 1] w fun e w'=>e=.returned (num Z)∧Below w.heap.size w w')
  (K:∀ w,Calls Tryz.prog 119 #[num M,num Z] w fun e w'=>e=.returned (.int .i64 k)∧Below w.heap.size w w')
  (J:∀ w,Calls Tryz.prog 119 #[num A,num M] w fun e w'=>e=.returned (.int .i64 j)∧Below w.heap.size w w')
  (w:World):Calls Tryz.prog 185 #[num A,num B,num M] w fun e w'=>e=.returned (.bool false)∧Below w.heap.size w w':=by
 have HO:=Jja O
 have HK:=Jja K
 have HJ:=Jja J
 clear O K J
 go_enter Tryz.func185,Tryz.ntmps185
 go_wp2_with fail
 have BW:=Jja (Below.refl w.heap.size w)
 generalize hW1:(((w.alloc (.cells (ncs A) 24)).alloc (.cells (ncs B) 24)).alloc (.cells (ncs M) 24))=W1 at *
 have Na:At W1 (w.heap.size) _ _:=Jf hW1 (((At.at_ _ _ _ _ (by simp)).alloc _).alloc _)
 have Nb:At W1 (w.heap.size+1) _ _:=Jf hW1 ((At.at_ _ _ _ _ (by simp)).alloc _)
 have Nm:At W1 (w.heap.size+1+1) _ _:=Jf hW1 (At.at_ _ _ _ _ (by simp))
 have NB:=Ka hW1 (Jd (Jd (Jd BW.out _) _) _)
 clear hW1 BW 
 generalize w.heap.size+1+1=gm at *
 generalize w.heap.size+1=gb at *
 obtain ⟨ga,hg0⟩:∃ g,g=w.heap.size:=⟨_,rfl⟩
 rw [← hg0] at Na ⊢
 clear hg0
 have Fa:=Jja Na
 have Fb:=Jja Nb
 have Fm:=Jja Nm
 have BW:=Jja NB
 clear NB Na Nb Nm
 try simp only [List.append_eq,List.cons_append,List.nil_append]
 refine wp_region_noPanic ?_
 refine wp_region_held_drew (S:=fun w'=>At w' gm 24 (ncs M)∧At w' ga 24 (ncs A)∧At w' gb 24 (ncs B)) (by kernel_rfl) (⟨Fm.out.drew,Fa.out.drew,Fb.out.drew⟩) (fun _=>?_)
 refine Jy (fuel:=1) (⟨0,7,[],Kind.val (num M),true⟩::⟨1,8,[0],Kind.val (num Z),false⟩::⟨2,9,[0,1],Kind.val (.int .i64 k),false⟩::⟨3,10,[2],Kind.val (.bool true),true⟩::⟨4,11,[3],Kind.val (.bool true),true⟩::⟨5,12,[4],Kind.val (num A),true⟩::⟨6,13,[4,5],Kind.val (num M),true⟩::⟨7,14,[4,5,6],Kind.val (.int .i64 j),false⟩::⟨8,15,[4,7],Kind.val (.bool false),true⟩::⟨9,16,[4,8],Kind.val (.bool false),true⟩::⟨10,17,[9],Kind.val (.bool false),true⟩::⟨11,18,[10],Kind.val (undef),true⟩::⟨12,19,[10,11],Kind.val (undef),true⟩::⟨13,20,[10,11,12],Kind.val (undef),true⟩::⟨14,21,[10,13],Kind.val (undef),true⟩::⟨15,22,[10,14],Kind.val (.bool false),true⟩::[]) _ _ W1 _ ?_ ?_ ?_ ?_ ?_ ?_ ?_ ?_ ?_ ?_ ?_
 ·rfl
 ·kernel_rfl
 ·exact of_decide_eq_true (by kernel_rfl)
 ·(repeat refine all_cons ⟨_,by rfl,by rfl⟩ ?_);exact all_nil
 ·exact fun _ hb=>⟨Fm.out.on hb,Fa.out.on hb,Fb.out.on hb⟩
 ·exact (Below.refl _ _).drew
 ·kernel_rfl
 ·exact fun _ _ _ _ _ h=>h
 ·(repeat (refine all_cons ?_ ?_;rotate_left));exact all_nil
  all_goals try exact Jm _ (by rfl)
  ·exact Ju _ _ _ _ _ _ gm _ _ _ _ (by rfl) (by rfl) (Jg) (ko 5) (fun _ hs=>hs.1)
  ·exact Ke _ _ _ _ _ _ _ _ _ _ _ _ _ (by rfl) (by rfl) (Jg) (kc 2 9) (Ji _) ((fun ρ w hx hy=>by simp only [execOp,hx,hy];simp [go_sem];exact hk))
  ·exact Kr _ _ _ _ _ _ _ (by rfl) (by rfl) (Jg) (kc 3 10)
  ·exact Ju _ _ _ _ _ _ ga _ _ _ _ (by rfl) (by rfl) (wc 4 11 4 (kc 4 11)) (ko 3) (fun _ hs=>hs.2.1)
  ·exact Ju _ _ _ _ _ _ gm _ _ _ _ (by rfl) (by rfl) (wc 4 11 4 (kc 4 11)) (ko 5) (fun _ hs=>hs.1)
  ·exact Ke _ _ _ _ _ _ _ _ _ _ _ _ _ (by rfl) (by rfl) (wc 4 11 4 (kc 4 11)) (kc 7 14) (Ji _) ((fun ρ w hx hy=>by simp only [execOp,hx,hy];simp [go_sem];exact hj))
  ·exact Kq _ _ _ _ _ _ _ _ _ _ _ _ (by rfl) (by rfl) (Jg) (kc 4 11) (kc 8 15) (Ji _) (by rfl)
  ·exact Kr _ _ _ _ _ _ _ (by rfl) (by rfl) (Jg) (kc 9 16)
  ·exact Kb _ _ _ _ _ _ (by rfl) (by rfl) (wc 10 17 10 (kc 10 17))
  ·exact Kb _ _ _ _ _ _ (by rfl) (by rfl) (wc 10 17 10 (kc 10 17))
  ·exact Kb _ _ _ _ _ _ (by rfl) (by rfl) (wc 10 17 10 (kc 10 17))
  ·exact Kb _ _ _ _ _ _ (by rfl) (by rfl) (wc 10 17 10 (kc 10 17))
  ·exact Kq _ _ _ _ _ _ _ _ _ _ _ _ (by rfl) (by rfl) (Jg) (kc 10 17) (kc 14 21) (Ji _) (by rfl)
 ·(repeat (refine all_cons ?_ ?_;rotate_left));exact all_nil
  all_goals try exact sA
  ·exact fun _=>Jl _ 122 _ _ [.const (.int .u64 1)] _ _ _ _ _ _ _ (by rfl) Tryz.func122 (by kernel_rfl) (by rfl) (by rfl) (Jg) (.cons (Ji _) .nil) (HO.out)
  ·exact fun _=>Jl _ 119 _ _ [.tmp 7,.tmp 8] _ _ _ _ _ _ _ (by rfl) Tryz.func119 (by kernel_rfl) (by rfl) (by rfl) (Jg) (.cons (kc 0 7) (.cons (kc 1 8) .nil)) (HK.out)
  ·exact fun _=>Jl _ 119 _ _ [.tmp 12,.tmp 13] _ _ _ _ _ _ _ (by rfl) Tryz.func119 (by kernel_rfl) (by rfl) (by rfl) (wc 4 11 4 (kc 4 11)) (.cons (kc 5 12) (.cons (kc 6 13) .nil)) (HJ.out)
 intro vs y2 hc
 have BZ:=Jr BW.out hc.bel
 refine Vd (i:=16) (.tmp 22) 6 _ _ _ (.bool false) (by kernel_rfl) (by rfl) (hc.at_ (of_decide_eq_true (by kernel_rfl)) (by rfl) 15 22 _ (.bool false) (by rfl) (by rfl) (by rfl)) (⟨Fm.out.on hc.bel,Fa.out.on hc.bel,Fb.out.on hc.bel⟩) ?_
 refine wpAnyH_done (by kernel_rfl) ?_ _
 refine NoPanic.normal ?_
 generalize hA:Act.put (over _ _ vs) (some 6) (.bool false)=A
 have hA0:A.tmps.getD 6 undef=.bool false:=by rw [← hA];exact Jgv _ _ _ (by rw [Wr];exact Nat.le_of_ble_eq_true rfl)
 have hAd:A.defers=[]:=by rw [← hA,Jao,Vu]
 clear hA hc
 go_wp2_with fail
 refine bodyPost_ret (v:=.bool false) (by simp [results,Tryz.results185,go_sem] at hA0 ⊢;simp [hA0]) hAd ⟨rfl,BZ⟩

theorem may_m (A B M Z:Nat) (k:Int)
  (hk:k≤0)
  (O:∀ w,Calls Tryz.prog 122 #[.int .u64 1] w fun e w'=>e=.returned (num Z)∧Below w.heap.size w w')
  (K:∀ w,Calls Tryz.prog 119 #[num M,num Z] w fun e w'=>e=.returned (.int .i64 k)∧Below w.heap.size w w')
  (w:World):Calls Tryz.prog 185 #[num A,num B,num M] w fun e w'=>e=.returned (.bool false)∧Below w.heap.size w w':=by
 have HO:=Jja O
 have HK:=Jja K
 clear O K
 go_enter Tryz.func185,Tryz.ntmps185
 go_wp2_with fail
 have BW:=Jja (Below.refl w.heap.size w)
 generalize hW1:(((w.alloc (.cells (ncs A) 24)).alloc (.cells (ncs B) 24)).alloc (.cells (ncs M) 24))=W1 at *
 have Na:At W1 (w.heap.size) _ _:=Jf hW1 (((At.at_ _ _ _ _ (by simp)).alloc _).alloc _)
 have Nb:At W1 (w.heap.size+1) _ _:=Jf hW1 ((At.at_ _ _ _ _ (by simp)).alloc _)
 have Nm:At W1 (w.heap.size+1+1) _ _:=Jf hW1 (At.at_ _ _ _ _ (by simp))
 have NB:=Ka hW1 (Jd (Jd (Jd BW.out _) _) _)
 clear hW1 BW 
 generalize w.heap.size+1+1=gm at *
 generalize w.heap.size+1=gb at *
 obtain ⟨ga,hg0⟩:∃ g,g=w.heap.size:=⟨_,rfl⟩
 rw [← hg0] at Na ⊢
 clear hg0
 have Fa:=Jja Na
 have Fb:=Jja Nb
 have Fm:=Jja Nm
 have BW:=Jja NB
 clear NB Na Nb Nm
 try simp only [List.append_eq,List.cons_append,List.nil_append]
 refine wp_region_noPanic ?_
 refine wp_region_held_drew (S:=fun w'=>At w' gm 24 (ncs M)∧At w' ga 24 (ncs A)∧At w' gb 24 (ncs B)) (by kernel_rfl) (⟨Fm.out.drew,Fa.out.drew,Fb.out.drew⟩) (fun _=>?_)
 refine Jy (fuel:=1) (⟨0,7,[],Kind.val (num M),true⟩::⟨1,8,[0],Kind.val (num Z),false⟩::⟨2,9,[0,1],Kind.val (.int .i64 k),false⟩::⟨3,10,[2],Kind.val (.bool false),true⟩::⟨4,11,[3],Kind.val (.bool false),true⟩::⟨5,12,[4],Kind.val (undef),true⟩::⟨6,13,[4,5],Kind.val (undef),true⟩::⟨7,14,[4,5,6],Kind.val (undef),true⟩::⟨8,15,[4,7],Kind.val (undef),true⟩::⟨9,16,[4,8],Kind.val (.bool false),true⟩::⟨10,17,[9],Kind.val (.bool false),true⟩::⟨11,18,[10],Kind.val (undef),true⟩::⟨12,19,[10,11],Kind.val (undef),true⟩::⟨13,20,[10,11,12],Kind.val (undef),true⟩::⟨14,21,[10,13],Kind.val (undef),true⟩::⟨15,22,[10,14],Kind.val (.bool false),true⟩::[]) _ _ W1 _ ?_ ?_ ?_ ?_ ?_ ?_ ?_ ?_ ?_ ?_ ?_
 ·rfl
 ·kernel_rfl
 ·exact of_decide_eq_true (by kernel_rfl)
 ·(repeat refine all_cons ⟨_,by rfl,by rfl⟩ ?_);exact all_nil
 ·exact fun _ hb=>⟨Fm.out.on hb,Fa.out.on hb,Fb.out.on hb⟩
 ·exact (Below.refl _ _).drew
 ·kernel_rfl
 ·exact fun _ _ _ _ _ h=>h
 ·(repeat (refine all_cons ?_ ?_;rotate_left));exact all_nil
  ·exact Ju _ _ _ _ _ _ gm _ _ _ _ (by rfl) (by rfl) (Jg) (ko 5) (fun _ hs=>hs.1)
  ·exact Jm _ (by rfl)
  ·exact Jm _ (by rfl)
  ·exact Ke _ _ _ _ _ _ _ _ _ _ _ _ _ (by rfl) (by rfl) (Jg) (kc 2 9) (Ji _) ((fun ρ w hx hy=>by simp only [execOp,hx,hy];simp [go_sem];exact hk))
  ·exact Kr _ _ _ _ _ _ _ (by rfl) (by rfl) (Jg) (kc 3 10)
  ·exact Kb _ _ _ _ _ _ (by rfl) (by rfl) (wc 4 11 4 (kc 4 11))
  ·exact Kb _ _ _ _ _ _ (by rfl) (by rfl) (wc 4 11 4 (kc 4 11))
  ·exact Kb _ _ _ _ _ _ (by rfl) (by rfl) (wc 4 11 4 (kc 4 11))
  ·exact Kb _ _ _ _ _ _ (by rfl) (by rfl) (wc 4 11 4 (kc 4 11))
  ·exact Kq _ _ _ _ _ _ _ _ _ _ _ _ (by rfl) (by rfl) (Jg) (kc 4 11) (kc 8 15) (Ji _) (by rfl)
  ·exact Kr _ _ _ _ _ _ _ (by rfl) (by rfl) (Jg) (kc 9 16)
  ·exact Kb _ _ _ _ _ _ (by rfl) (by rfl) (wc 10 17 10 (kc 10 17))
  ·exact Kb _ _ _ _ _ _ (by rfl) (by rfl) (wc 10 17 10 (kc 10 17))
  ·exact Kb _ _ _ _ _ _ (by rfl) (by rfl) (wc 10 17 10 (kc 10 17))
  ·exact Kb _ _ _ _ _ _ (by rfl) (by rfl) (wc 10 17 10 (kc 10 17))
  ·exact Kq _ _ _ _ _ _ _ _ _ _ _ _ (by rfl) (by rfl) (Jg) (kc 10 17) (kc 14 21) (Ji _) (by rfl)
 ·(repeat (refine all_cons ?_ ?_;rotate_left));exact all_nil
  all_goals try exact sA
  ·exact fun _=>Jl _ 122 _ _ [.const (.int .u64 1)] _ _ _ _ _ _ _ (by rfl) Tryz.func122 (by kernel_rfl) (by rfl) (by rfl) (Jg) (.cons (Ji _) .nil) (HO.out)
  ·exact fun _=>Jl _ 119 _ _ [.tmp 7,.tmp 8] _ _ _ _ _ _ _ (by rfl) Tryz.func119 (by kernel_rfl) (by rfl) (by rfl) (Jg) (.cons (kc 0 7) (.cons (kc 1 8) .nil)) (HK.out)
 intro vs y2 hc
 have BZ:=Jr BW.out hc.bel
 refine Vd (i:=16) (.tmp 22) 6 _ _ _ (.bool false) (by kernel_rfl) (by rfl) (hc.at_ (of_decide_eq_true (by kernel_rfl)) (by rfl) 15 22 _ (.bool false) (by rfl) (by rfl) (by rfl)) (⟨Fm.out.on hc.bel,Fa.out.on hc.bel,Fb.out.on hc.bel⟩) ?_
 refine wpAnyH_done (by kernel_rfl) ?_ _
 refine NoPanic.normal ?_
 generalize hA:Act.put (over _ _ vs) (some 6) (.bool false)=A
 have hA0:A.tmps.getD 6 undef=.bool false:=by rw [← hA];exact Jgv _ _ _ (by rw [Wr];exact Nat.le_of_ble_eq_true rfl)
 have hAd:A.defers=[]:=by rw [← hA,Jao,Vu]
 clear hA hc
 go_wp2_with fail
 refine bodyPost_ret (v:=.bool false) (by simp [results,Tryz.results185,go_sem] at hA0 ⊢;simp [hA0]) hAd ⟨rfl,BZ⟩

theorem Jdi (A B M:Nat) (hA:A<2^256) (hB:B<2^256) (hM:M<2^256) (w:World):Calls Tryz.prog 185 #[num A,num B,num M] w fun e w'=>e=.returned (.bool (decide (1<M∧A<M∧B<M)))∧Below w.heap.size w w':=by
 have O:∀ w,Calls Tryz.prog 122 #[.int .u64 1] w fun e w'=>e=.returned (num 1)∧Below w.heap.size w w':=fun w=>Xg 1 (by decide) w
 have K:=Xh M 1 hM (by decide)
 have J:=Xh A M hA hM
 have I:=Xh B M hB hM
 by_cases h1:1<M
 ·by_cases h2:A<M
  ·by_cases h3:B<M
   ·rw [show decide (1<M∧A<M∧B<M)=true from decide_eq_true ⟨h1,h2,h3⟩]
    exact may_yes A B M 1 _ _ _ (Wa h1) (Uv h2) (Uv h3) O K J I w
   ·rw [show decide (1<M∧A<M∧B<M)=false from decide_eq_false fun h=>h3 h.2.2]
    exact may_b A B M 1 _ _ _ (Wa h1) (Uv h2) (Jfm (by omega)) O K J I w
  ·rw [show decide (1<M∧A<M∧B<M)=false from decide_eq_false fun h=>h2 h.2.1]
   exact may_a A B M 1 _ _ (Wa h1) (Jfm (by omega)) O K J w
 ·rw [show decide (1<M∧A<M∧B<M)=false from decide_eq_false fun h=>h1 h.1]
  exact may_m A B M 1 _ (cmpN_le (by omega)) O K w

theorem radd4_no (A B M:Nat)
  (cm:∀ w,Calls Tryz.prog 185 #[num A,num B,num M] w fun e w'=>e=.returned (.bool false)∧Below w.heap.size w w')
  (w:World):Calls Tryz.prog 193 #[num A,num B,num M] w fun e w'=>e=.returned (.tuple #[.agg #[.int .u64 0,.int .u64 0,.int .u64 0,.int .u64 0],.int .i64 1])∧Below w.heap.size w w':=by
 have Hcm:=Jja cm
 clear cm
 go_enter Tryz.func193,Tryz.ntmps193
 go_wp2_with fail
 have BW:=Jja (Below.refl w.heap.size w)
 have Ex:w.heap.size≤w.heap.size+1+1+1:=by have:=BW.out.size;omega
 have Dax:w.heap.size≠w.heap.size+1+1+1:=by omega
 have Dbx:w.heap.size+1≠w.heap.size+1+1+1:=by omega
 have Dmx:w.heap.size+1+1≠w.heap.size+1+1+1:=by omega
 generalize hW1:((((w.alloc (.cells (ncs A) 24)).alloc (.cells (ncs B) 24)).alloc (.cells (ncs M) 24)).alloc (.cells #[.int .u64 0,.int .u64 0,.int .u64 0,.int .u64 0] 24))=W1 at *
 have Na:At W1 (w.heap.size) _ _:=Jf hW1 ((((At.at_ _ _ _ _ (by simp)).alloc _).alloc _).alloc _)
 have Nb:At W1 (w.heap.size+1) _ _:=Jf hW1 (((At.at_ _ _ _ _ (by simp)).alloc _).alloc _)
 have Nm:At W1 (w.heap.size+1+1) _ _:=Jf hW1 ((At.at_ _ _ _ _ (by simp)).alloc _)
 have Nx:At W1 (w.heap.size+1+1+1) _ _:=Jf hW1 (At.at_ _ _ _ _ (by simp))
 have NB:=Ka hW1 (Jd (Jd (Jd (Jd BW.out _) _) _) _)
 clear hW1 BW 
 generalize w.heap.size+1+1+1=gx at *
 generalize w.heap.size+1+1=gm at *
 generalize w.heap.size+1=gb at *
 obtain ⟨ga,hg0⟩:∃ g,g=w.heap.size:=⟨_,rfl⟩
 rw [← hg0] at Na ⊢
 rw [← hg0] at Dax
 clear hg0
 have Fa:=Jja Na
 have Fb:=Jja Nb
 have Fm:=Jja Nm
 have Fx:=Jja Nx
 have BW:=Jja NB
 clear NB Na Nb Nm Nx
 refine (Hcm.out _).mono ?_
 rintro e v2 ⟨rfl,z2⟩
 have Na:=Jja (Fa.out.on z2)
 have Nb:=Jja (Fb.out.on z2)
 have Nm:=Jja (Fm.out.on z2)
 have Nx:=Jja (Fx.out.on z2)
 have NB:=Jja (Jr BW.out z2)
 clear BW z2 Fa Fb Fm Fx
 have Fa:=Na
 have Fb:=Nb
 have Fm:=Nm
 have Fx:=Nx
 have BW:=NB
 clear NB Na Nb Nm Nx
 have Lx:=Fx.out.lt
 have cx0:=Fx.out.c0;have cx1:=Fx.out.c1;have cx2:=Fx.out.c2;have cx3:=Fx.out.c3
 obtain ⟨fx0,fx1,fx2,fx3⟩:=Vo Fx.out
 go_wp2_with fail
 clear Lx cx0 cx1 cx2 cx3 fx0 fx1 fx2 fx3
 generalize hW3:((((v2.setCell ⟨gx,0,none⟩ (.int .u64 0)).setCell ⟨gx,1,none⟩ (.int .u64 0)).setCell ⟨gx,2,none⟩ (.int .u64 0)).setCell ⟨gx,3,none⟩ (.int .u64 0))=W3 at *
 have Na:=Jf hW3 ((Fa.out).far4 Dax _ _ _ _)
 have Nb:=Jf hW3 ((Fb.out).far4 Dbx _ _ _ _)
 have Nm:=Jf hW3 ((Fm.out).far4 Dmx _ _ _ _)
 have Nx:=Jf hW3 ((Fx.out).put4 _ _ _ _)
 have NB:=Ka hW3 (((((BW.out).setCell Ex _).setCell Ex _).setCell Ex _).setCell Ex _)
 clear hW3 BW Fa Fb Fm Fx
 have Fa:=Jja Na
 have Fb:=Jja Nb
 have Fm:=Jja Nm
 have Fx:=Jja Nx
 have BW:=Jja NB
 clear NB Na Nb Nm Nx
 have Lx:=Fx.out.lt
 have cx0:=Fx.out.c0;have cx1:=Fx.out.c1;have cx2:=Fx.out.c2;have cx3:=Fx.out.c3
 refine bodyPost_ret (v:=.tuple #[.agg #[.int .u64 0,.int .u64 0,.int .u64 0,.int .u64 0],.int .i64 1]) (by simp [results,Tryz.results193,go_sem, *]) rfl ⟨rfl,BW.out⟩

theorem rsub4_a (A B M S:Nat)
  (cm:∀ w,Calls Tryz.prog 185 #[num A,num B,num M] w fun e w'=>e=.returned (.bool true)∧Below w.heap.size w w')
  (cs:∀ w,Calls Tryz.prog 123 #[num A,num B] w fun e w'=>e=.returned (.tuple #[num S,.int .u64 0])∧Below w.heap.size w w')
  (w:World):Calls Tryz.prog 195 #[num A,num B,num M] w fun e w'=>e=.returned (.tuple #[num S,.int .i64 0])∧Below w.heap.size w w':=by
 have Hcm:=Jja cm
 have Hcs:=Jja cs
 clear cm cs
 go_enter Tryz.func195,Tryz.ntmps195
 go_wp2_with fail
 have BW:=Jja (Below.refl w.heap.size w)
 have Ex:w.heap.size≤w.heap.size+1+1+1:=by have:=BW.out.size;omega
 have Dax:w.heap.size≠w.heap.size+1+1+1:=by omega
 have Dbx:w.heap.size+1≠w.heap.size+1+1+1:=by omega
 have Dmx:w.heap.size+1+1≠w.heap.size+1+1+1:=by omega
 generalize hW1:((((w.alloc (.cells (ncs A) 24)).alloc (.cells (ncs B) 24)).alloc (.cells (ncs M) 24)).alloc (.cells #[.int .u64 0,.int .u64 0,.int .u64 0,.int .u64 0] 24))=W1 at *
 have Na:At W1 (w.heap.size) _ _:=Jf hW1 ((((At.at_ _ _ _ _ (by simp)).alloc _).alloc _).alloc _)
 have Nb:At W1 (w.heap.size+1) _ _:=Jf hW1 (((At.at_ _ _ _ _ (by simp)).alloc _).alloc _)
 have Nm:At W1 (w.heap.size+1+1) _ _:=Jf hW1 ((At.at_ _ _ _ _ (by simp)).alloc _)
 have Nx:At W1 (w.heap.size+1+1+1) _ _:=Jf hW1 (At.at_ _ _ _ _ (by simp))
 have NB:=Ka hW1 (Jd (Jd (Jd (Jd BW.out _) _) _) _)
 clear hW1 BW 
 generalize w.heap.size+1+1+1=gx at *
 generalize w.heap.size+1+1=gm at *
 generalize w.heap.size+1=gb at *
 obtain ⟨ga,hg0⟩:∃ g,g=w.heap.size:=⟨_,rfl⟩
 rw [← hg0] at Na ⊢
 rw [← hg0] at Dax
 clear hg0
 have Fa:=Jja Na
 have Fb:=Jja Nb
 have Fm:=Jja Nm
 have Fx:=Jja Nx
 have BW:=Jja NB
 clear NB Na Nb Nm Nx
 refine (Hcm.out _).mono ?_
 rintro e v2 ⟨rfl,z2⟩
 have Na:=Jja (Fa.out.on z2)
 have Nb:=Jja (Fb.out.on z2)
 have Nm:=Jja (Fm.out.on z2)
 have Nx:=Jja (Fx.out.on z2)
 have NB:=Jja (Jr BW.out z2)
 clear BW z2 Fa Fb Fm Fx
 have Fa:=Na
 have Fb:=Nb
 have Fm:=Nm
 have Fx:=Nx
 have BW:=NB
 clear NB Na Nb Nm Nx
 have La:=Fa.out.lt
 have ca0:=Fa.out.c0;have ca1:=Fa.out.c1;have ca2:=Fa.out.c2;have ca3:=Fa.out.c3
 have Lb:=Fb.out.lt
 have cb0:=Fb.out.c0;have cb1:=Fb.out.c1;have cb2:=Fb.out.c2;have cb3:=Fb.out.c3
 go_wp2_with fail
 clear La ca0 ca1 ca2 ca3 Lb cb0 cb1 cb2 cb3
 refine (Hcs.out _).mono ?_
 rintro e v3 ⟨rfl,z3⟩
 have Na:=Jja (Fa.out.on z3)
 have Nb:=Jja (Fb.out.on z3)
 have Nm:=Jja (Fm.out.on z3)
 have Nx:=Jja (Fx.out.on z3)
 have NB:=Jja (Jr BW.out z3)
 clear BW z3 Fa Fb Fm Fx
 have Fa:=Na
 have Fb:=Nb
 have Fm:=Nm
 have Fx:=Nx
 have BW:=NB
 clear NB Na Nb Nm Nx
 have Lx:=Fx.out.lt
 have cx0:=Fx.out.c0;have cx1:=Fx.out.c1;have cx2:=Fx.out.c2;have cx3:=Fx.out.c3
 obtain ⟨fx0,fx1,fx2,fx3⟩:=Vo Fx.out
 go_wp2_with fail
 clear Lx cx0 cx1 cx2 cx3 fx0 fx1 fx2 fx3
 generalize hW4:((((v3.setCell ⟨gx,0,none⟩ (.int .u64 (wd S 0))).setCell ⟨gx,1,none⟩ (.int .u64 (wd S 1))).setCell ⟨gx,2,none⟩ (.int .u64 (wd S 2))).setCell ⟨gx,3,none⟩ (.int .u64 (wd S 3)))=W4 at *
 have Na:=Jf hW4 ((Fa.out).far4 Dax _ _ _ _)
 have Nb:=Jf hW4 ((Fb.out).far4 Dbx _ _ _ _)
 have Nm:=Jf hW4 ((Fm.out).far4 Dmx _ _ _ _)
 have Nx:=Jf hW4 ((Fx.out).put4 _ _ _ _)
 have NB:=Ka hW4 (((((BW.out).setCell Ex _).setCell Ex _).setCell Ex _).setCell Ex _)
 clear hW4 BW Fa Fb Fm Fx
 have Fa:=Jja Na
 have Fb:=Jja Nb
 have Fm:=Jja Nm
 have Fx:=Jja Nx
 have BW:=Jja NB
 clear NB Na Nb Nm Nx
 have Dxs:gx≠W4.heap.size:=by have:=Fx.out.lt;omega
 generalize hW5:(W4.alloc (.cells (ncs S) 24))=W5 at *
 have Ns:At W5 (W4.heap.size) _ _:=Jf hW5 (At.at_ _ _ _ _ (by simp))
 have Na:=Jf hW5 (Fa.out.alloc _)
 have Nb:=Jf hW5 (Fb.out.alloc _)
 have Nm:=Jf hW5 (Fm.out.alloc _)
 have Nx:=Jf hW5 (Fx.out.alloc _)
 have NB:=Ka hW5 (Jd BW.out _)
 clear hW5 BW Fa Fb Fm Fx
 generalize W4.heap.size=gs at *
 have Fa:=Jja Na
 have Fb:=Jja Nb
 have Fm:=Jja Nm
 have Fx:=Jja Nx
 have Fs:=Jja Ns
 have BW:=Jja NB
 clear NB Na Nb Nm Nx Ns
 have Lx:=Fx.out.lt
 have cx0:=Fx.out.c0;have cx1:=Fx.out.c1;have cx2:=Fx.out.c2;have cx3:=Fx.out.c3
 refine bodyPost_ret (v:=.tuple #[num S,.int .i64 0]) (by simp [results,Tryz.results195,go_sem, *]) rfl ⟨rfl,BW.out⟩

theorem rsub4_b (A B M S L c:Nat)
  (cm:∀ w,Calls Tryz.prog 185 #[num A,num B,num M] w fun e w'=>e=.returned (.bool true)∧Below w.heap.size w w')
  (cs:∀ w,Calls Tryz.prog 123 #[num A,num B] w fun e w'=>e=.returned (.tuple #[num S,.int .u64 1])∧Below w.heap.size w w')
  (ct:∀ w,Calls Tryz.prog 182 #[num S,num M] w fun e w'=>e=.returned (.tuple #[num L,.int .u64 (c:Nat)])∧Below w.heap.size w w')
  (w:World):Calls Tryz.prog 195 #[num A,num B,num M] w fun e w'=>e=.returned (.tuple #[num L,.int .i64 0])∧Below w.heap.size w w':=by
 have Hcm:=Jja cm
 have Hcs:=Jja cs
 have Hct:=Jja ct
 clear cm cs ct
 go_enter Tryz.func195,Tryz.ntmps195
 go_wp2_with fail
 have BW:=Jja (Below.refl w.heap.size w)
 have Ex:w.heap.size≤w.heap.size+1+1+1:=by have:=BW.out.size;omega
 have Dax:w.heap.size≠w.heap.size+1+1+1:=by omega
 have Dbx:w.heap.size+1≠w.heap.size+1+1+1:=by omega
 have Dmx:w.heap.size+1+1≠w.heap.size+1+1+1:=by omega
 generalize hW1:((((w.alloc (.cells (ncs A) 24)).alloc (.cells (ncs B) 24)).alloc (.cells (ncs M) 24)).alloc (.cells #[.int .u64 0,.int .u64 0,.int .u64 0,.int .u64 0] 24))=W1 at *
 have Na:At W1 (w.heap.size) _ _:=Jf hW1 ((((At.at_ _ _ _ _ (by simp)).alloc _).alloc _).alloc _)
 have Nb:At W1 (w.heap.size+1) _ _:=Jf hW1 (((At.at_ _ _ _ _ (by simp)).alloc _).alloc _)
 have Nm:At W1 (w.heap.size+1+1) _ _:=Jf hW1 ((At.at_ _ _ _ _ (by simp)).alloc _)
 have Nx:At W1 (w.heap.size+1+1+1) _ _:=Jf hW1 (At.at_ _ _ _ _ (by simp))
 have NB:=Ka hW1 (Jd (Jd (Jd (Jd BW.out _) _) _) _)
 clear hW1 BW 
 generalize w.heap.size+1+1+1=gx at *
 generalize w.heap.size+1+1=gm at *
 generalize w.heap.size+1=gb at *
 obtain ⟨ga,hg0⟩:∃ g,g=w.heap.size:=⟨_,rfl⟩
 rw [← hg0] at Na ⊢
 rw [← hg0] at Dax
 clear hg0
 have Fa:=Jja Na
 have Fb:=Jja Nb
 have Fm:=Jja Nm
 have Fx:=Jja Nx
 have BW:=Jja NB
 clear NB Na Nb Nm Nx
 refine (Hcm.out _).mono ?_
 rintro e v2 ⟨rfl,z2⟩
 have Na:=Jja (Fa.out.on z2)
 have Nb:=Jja (Fb.out.on z2)
 have Nm:=Jja (Fm.out.on z2)
 have Nx:=Jja (Fx.out.on z2)
 have NB:=Jja (Jr BW.out z2)
 clear BW z2 Fa Fb Fm Fx
 have Fa:=Na
 have Fb:=Nb
 have Fm:=Nm
 have Fx:=Nx
 have BW:=NB
 clear NB Na Nb Nm Nx
 have La:=Fa.out.lt
 have ca0:=Fa.out.c0;have ca1:=Fa.out.c1;have ca2:=Fa.out.c2;have ca3:=Fa.out.c3
 have Lb:=Fb.out.lt
 have cb0:=Fb.out.c0;have cb1:=Fb.out.c1;have cb2:=Fb.out.c2;have cb3:=Fb.out.c3
 go_wp2_with fail
 clear La ca0 ca1 ca2 ca3 Lb cb0 cb1 cb2 cb3
 refine (Hcs.out _).mono ?_
 rintro e v3 ⟨rfl,z3⟩
 have Na:=Jja (Fa.out.on z3)
 have Nb:=Jja (Fb.out.on z3)
 have Nm:=Jja (Fm.out.on z3)
 have Nx:=Jja (Fx.out.on z3)
 have NB:=Jja (Jr BW.out z3)
 clear BW z3 Fa Fb Fm Fx
 have Fa:=Na
 have Fb:=Nb
 have Fm:=Nm
 have Fx:=Nx
 have BW:=NB
 clear NB Na Nb Nm Nx
 have Lm:=Fm.out.lt
 have cm0:=Fm.out.c0;have cm1:=Fm.out.c1;have cm2:=Fm.out.c2;have cm3:=Fm.out.c3
 go_wp2_with fail
 clear Lm cm0 cm1 cm2 cm3
 have Es:w.heap.size≤v3.heap.size:=by have:=BW.out.size;omega
 have Das:ga≠v3.heap.size:=by have:=Fa.out.lt;omega
 have Dbs:gb≠v3.heap.size:=by have:=Fb.out.lt;omega
 have Dms:gm≠v3.heap.size:=by have:=Fm.out.lt;omega
 have Dxs:gx≠v3.heap.size:=by have:=Fx.out.lt;omega
 generalize hW4:(v3.alloc (.cells (ncs S) 24))=W4 at *
 have Ns:At W4 (v3.heap.size) _ _:=Jf hW4 (At.at_ _ _ _ _ (by simp))
 have Na:=Jf hW4 (Fa.out.alloc _)
 have Nb:=Jf hW4 (Fb.out.alloc _)
 have Nm:=Jf hW4 (Fm.out.alloc _)
 have Nx:=Jf hW4 (Fx.out.alloc _)
 have NB:=Ka hW4 (Jd BW.out _)
 clear hW4 BW Fa Fb Fm Fx
 generalize v3.heap.size=gs at *
 have Fa:=Jja Na
 have Fb:=Jja Nb
 have Fm:=Jja Nm
 have Fx:=Jja Nx
 have Fs:=Jja Ns
 have BW:=Jja NB
 clear NB Na Nb Nm Nx Ns
 refine (Hct.out _).mono ?_
 rintro e v5 ⟨rfl,z5⟩
 have Na:=Jja (Fa.out.on z5)
 have Nb:=Jja (Fb.out.on z5)
 have Nm:=Jja (Fm.out.on z5)
 have Nx:=Jja (Fx.out.on z5)
 have Ns:=Jja (Fs.out.on z5)
 have NB:=Jja (Jr BW.out z5)
 clear BW z5 Fa Fb Fm Fx Fs
 have Fa:=Na
 have Fb:=Nb
 have Fm:=Nm
 have Fx:=Nx
 have Fs:=Ns
 have BW:=NB
 clear NB Na Nb Nm Nx Ns
 have Ls:=Fs.out.lt
 have cs0:=Fs.out.c0;have cs1:=Fs.out.c1;have cs2:=Fs.out.c2;have cs3:=Fs.out.c3
 obtain ⟨fs0,fs1,fs2,fs3⟩:=Vo Fs.out
 have Lx:=Fx.out.lt
 have cx0:=Fx.out.c0;have cx1:=Fx.out.c1;have cx2:=Fx.out.c2;have cx3:=Fx.out.c3
 obtain ⟨fx0,fx1,fx2,fx3⟩:=Vo Fx.out
 go_wp2_with fail
 clear Ls cs0 cs1 cs2 cs3 fs0 fs1 fs2 fs3 Lx cx0 cx1 cx2 cx3 fx0 fx1 fx2 fx3
 generalize hW6:((((((((v5.setCell ⟨gs,0,none⟩ (.int .u64 (wd L 0))).setCell ⟨gs,1,none⟩ (.int .u64 (wd L 1))).setCell ⟨gs,2,none⟩ (.int .u64 (wd L 2))).setCell ⟨gs,3,none⟩ (.int .u64 (wd L 3))).setCell ⟨gx,0,none⟩ (.int .u64 (wd L 0))).setCell ⟨gx,1,none⟩ (.int .u64 (wd L 1))).setCell ⟨gx,2,none⟩ (.int .u64 (wd L 2))).setCell ⟨gx,3,none⟩ (.int .u64 (wd L 3)))=W6 at *
 have Na:=Jf hW6 (((Fa.out).far4 Das _ _ _ _).far4 Dax _ _ _ _)
 have Nb:=Jf hW6 (((Fb.out).far4 Dbs _ _ _ _).far4 Dbx _ _ _ _)
 have Nm:=Jf hW6 (((Fm.out).far4 Dms _ _ _ _).far4 Dmx _ _ _ _)
 have Nx:=Jf hW6 (((Fx.out).far4 Dxs _ _ _ _).put4 _ _ _ _)
 have Ns:=Jf hW6 (((Fs.out).put4 _ _ _ _).far4 Dxs.symm _ _ _ _)
 have NB:=Ka hW6 (((((((((BW.out).setCell Es _).setCell Es _).setCell Es _).setCell Es _).setCell Ex _).setCell Ex _).setCell Ex _).setCell Ex _)
 clear hW6 BW Fa Fb Fm Fx Fs
 have Fa:=Jja Na
 have Fb:=Jja Nb
 have Fm:=Jja Nm
 have Fx:=Jja Nx
 have Fs:=Jja Ns
 have BW:=Jja NB
 clear NB Na Nb Nm Nx Ns
 have Lx:=Fx.out.lt
 have cx0:=Fx.out.c0;have cx1:=Fx.out.c1;have cx2:=Fx.out.c2;have cx3:=Fx.out.c3
 refine bodyPost_ret (v:=.tuple #[num L,.int .i64 0]) (by simp [results,Tryz.results195,go_sem, *]) rfl ⟨rfl,BW.out⟩

theorem radd4_over (A B M S L c:Nat)
  (cm:∀ w,Calls Tryz.prog 185 #[num A,num B,num M] w fun e w'=>e=.returned (.bool true)∧Below w.heap.size w w')
  (cs:∀ w,Calls Tryz.prog 182 #[num A,num B] w fun e w'=>e=.returned (.tuple #[num S,.int .u64 1])∧Below w.heap.size w w')
  (ct:∀ w,Calls Tryz.prog 123 #[num S,num M] w fun e w'=>e=.returned (.tuple #[num L,.int .u64 (c:Nat)])∧Below w.heap.size w w')
  (w:World):Calls Tryz.prog 193 #[num A,num B,num M] w fun e w'=>e=.returned (.tuple #[num L,.int .i64 0])∧Below w.heap.size w w':=by
 have Hcm:=Jja cm
 have Hcs:=Jja cs
 have Hct:=Jja ct
 clear cm cs ct
 go_enter Tryz.func193,Tryz.ntmps193
 go_wp2_with fail
 have BW:=Jja (Below.refl w.heap.size w)
 have Ex:w.heap.size≤w.heap.size+1+1+1:=by have:=BW.out.size;omega
 have Dax:w.heap.size≠w.heap.size+1+1+1:=by omega
 have Dbx:w.heap.size+1≠w.heap.size+1+1+1:=by omega
 have Dmx:w.heap.size+1+1≠w.heap.size+1+1+1:=by omega
 generalize hW1:((((w.alloc (.cells (ncs A) 24)).alloc (.cells (ncs B) 24)).alloc (.cells (ncs M) 24)).alloc (.cells #[.int .u64 0,.int .u64 0,.int .u64 0,.int .u64 0] 24))=W1 at *
 have Na:At W1 (w.heap.size) _ _:=Jf hW1 ((((At.at_ _ _ _ _ (by simp)).alloc _).alloc _).alloc _)
 have Nb:At W1 (w.heap.size+1) _ _:=Jf hW1 (((At.at_ _ _ _ _ (by simp)).alloc _).alloc _)
 have Nm:At W1 (w.heap.size+1+1) _ _:=Jf hW1 ((At.at_ _ _ _ _ (by simp)).alloc _)
 have Nx:At W1 (w.heap.size+1+1+1) _ _:=Jf hW1 (At.at_ _ _ _ _ (by simp))
 have NB:=Ka hW1 (Jd (Jd (Jd (Jd BW.out _) _) _) _)
 clear hW1 BW 
 generalize w.heap.size+1+1+1=gx at *
 generalize w.heap.size+1+1=gm at *
 generalize w.heap.size+1=gb at *
 obtain ⟨ga,hg0⟩:∃ g,g=w.heap.size:=⟨_,rfl⟩
 rw [← hg0] at Na ⊢
 rw [← hg0] at Dax
 clear hg0
 have Fa:=Jja Na
 have Fb:=Jja Nb
 have Fm:=Jja Nm
 have Fx:=Jja Nx
 have BW:=Jja NB
 clear NB Na Nb Nm Nx
 refine (Hcm.out _).mono ?_
 rintro e v2 ⟨rfl,z2⟩
 have Na:=Jja (Fa.out.on z2)
 have Nb:=Jja (Fb.out.on z2)
 have Nm:=Jja (Fm.out.on z2)
 have Nx:=Jja (Fx.out.on z2)
 have NB:=Jja (Jr BW.out z2)
 clear BW z2 Fa Fb Fm Fx
 have Fa:=Na
 have Fb:=Nb
 have Fm:=Nm
 have Fx:=Nx
 have BW:=NB
 clear NB Na Nb Nm Nx
 have La:=Fa.out.lt
 have ca0:=Fa.out.c0;have ca1:=Fa.out.c1;have ca2:=Fa.out.c2;have ca3:=Fa.out.c3
 have Lb:=Fb.out.lt
 have cb0:=Fb.out.c0;have cb1:=Fb.out.c1;have cb2:=Fb.out.c2;have cb3:=Fb.out.c3
 go_wp2_with fail
 clear La ca0 ca1 ca2 ca3 Lb cb0 cb1 cb2 cb3
 refine (Hcs.out _).mono ?_
 rintro e v3 ⟨rfl,z3⟩
 have Na:=Jja (Fa.out.on z3)
 have Nb:=Jja (Fb.out.on z3)
 have Nm:=Jja (Fm.out.on z3)
 have Nx:=Jja (Fx.out.on z3)
 have NB:=Jja (Jr BW.out z3)
 clear BW z3 Fa Fb Fm Fx
 have Fa:=Na
 have Fb:=Nb
 have Fm:=Nm
 have Fx:=Nx
 have BW:=NB
 clear NB Na Nb Nm Nx
 have Lm:=Fm.out.lt
 have cm0:=Fm.out.c0;have cm1:=Fm.out.c1;have cm2:=Fm.out.c2;have cm3:=Fm.out.c3
 go_wp2_with fail
 clear Lm cm0 cm1 cm2 cm3
 have Es:w.heap.size≤v3.heap.size:=by have:=BW.out.size;omega
 have Das:ga≠v3.heap.size:=by have:=Fa.out.lt;omega
 have Dbs:gb≠v3.heap.size:=by have:=Fb.out.lt;omega
 have Dms:gm≠v3.heap.size:=by have:=Fm.out.lt;omega
 have Dxs:gx≠v3.heap.size:=by have:=Fx.out.lt;omega
 generalize hW4:(v3.alloc (.cells (ncs S) 24))=W4 at *
 have Ns:At W4 (v3.heap.size) _ _:=Jf hW4 (At.at_ _ _ _ _ (by simp))
 have Na:=Jf hW4 (Fa.out.alloc _)
 have Nb:=Jf hW4 (Fb.out.alloc _)
 have Nm:=Jf hW4 (Fm.out.alloc _)
 have Nx:=Jf hW4 (Fx.out.alloc _)
 have NB:=Ka hW4 (Jd BW.out _)
 clear hW4 BW Fa Fb Fm Fx
 generalize v3.heap.size=gs at *
 have Fa:=Jja Na
 have Fb:=Jja Nb
 have Fm:=Jja Nm
 have Fx:=Jja Nx
 have Fs:=Jja Ns
 have BW:=Jja NB
 clear NB Na Nb Nm Nx Ns
 refine (Hct.out _).mono ?_
 rintro e v5 ⟨rfl,z5⟩
 have Na:=Jja (Fa.out.on z5)
 have Nb:=Jja (Fb.out.on z5)
 have Nm:=Jja (Fm.out.on z5)
 have Nx:=Jja (Fx.out.on z5)
 have Ns:=Jja (Fs.out.on z5)
 have NB:=Jja (Jr BW.out z5)
 clear BW z5 Fa Fb Fm Fx Fs
 have Fa:=Na
 have Fb:=Nb
 have Fm:=Nm
 have Fx:=Nx
 have Fs:=Ns
 have BW:=NB
 clear NB Na Nb Nm Nx Ns
 have Ls:=Fs.out.lt
 have cs0:=Fs.out.c0;have cs1:=Fs.out.c1;have cs2:=Fs.out.c2;have cs3:=Fs.out.c3
 obtain ⟨fs0,fs1,fs2,fs3⟩:=Vo Fs.out
 have Lx:=Fx.out.lt
 have cx0:=Fx.out.c0;have cx1:=Fx.out.c1;have cx2:=Fx.out.c2;have cx3:=Fx.out.c3
 obtain ⟨fx0,fx1,fx2,fx3⟩:=Vo Fx.out
 go_wp2_with fail
 clear Ls cs0 cs1 cs2 cs3 fs0 fs1 fs2 fs3 Lx cx0 cx1 cx2 cx3 fx0 fx1 fx2 fx3
 generalize hW6:((((((((v5.setCell ⟨gs,0,none⟩ (.int .u64 (wd L 0))).setCell ⟨gs,1,none⟩ (.int .u64 (wd L 1))).setCell ⟨gs,2,none⟩ (.int .u64 (wd L 2))).setCell ⟨gs,3,none⟩ (.int .u64 (wd L 3))).setCell ⟨gx,0,none⟩ (.int .u64 (wd L 0))).setCell ⟨gx,1,none⟩ (.int .u64 (wd L 1))).setCell ⟨gx,2,none⟩ (.int .u64 (wd L 2))).setCell ⟨gx,3,none⟩ (.int .u64 (wd L 3)))=W6 at *
 have Na:=Jf hW6 (((Fa.out).far4 Das _ _ _ _).far4 Dax _ _ _ _)
 have Nb:=Jf hW6 (((Fb.out).far4 Dbs _ _ _ _).far4 Dbx _ _ _ _)
 have Nm:=Jf hW6 (((Fm.out).far4 Dms _ _ _ _).far4 Dmx _ _ _ _)
 have Nx:=Jf hW6 (((Fx.out).far4 Dxs _ _ _ _).put4 _ _ _ _)
 have Ns:=Jf hW6 (((Fs.out).put4 _ _ _ _).far4 Dxs.symm _ _ _ _)
 have NB:=Ka hW6 (((((((((BW.out).setCell Es _).setCell Es _).setCell Es _).setCell Es _).setCell Ex _).setCell Ex _).setCell Ex _).setCell Ex _)
 clear hW6 BW Fa Fb Fm Fx Fs
 have Fa:=Jja Na
 have Fb:=Jja Nb
 have Fm:=Jja Nm
 have Fx:=Jja Nx
 have Fs:=Jja Ns
 have BW:=Jja NB
 clear NB Na Nb Nm Nx Ns
 have Lx:=Fx.out.lt
 have cx0:=Fx.out.c0;have cx1:=Fx.out.c1;have cx2:=Fx.out.c2;have cx3:=Fx.out.c3
 refine bodyPost_ret (v:=.tuple #[num L,.int .i64 0]) (by simp [results,Tryz.results193,go_sem, *]) rfl ⟨rfl,BW.out⟩

theorem radd4_ge (A B M S L c:Nat) (k:Int) (hk:0≤k)
  (cm:∀ w,Calls Tryz.prog 185 #[num A,num B,num M] w fun e w'=>e=.returned (.bool true)∧Below w.heap.size w w')
  (cs:∀ w,Calls Tryz.prog 182 #[num A,num B] w fun e w'=>e=.returned (.tuple #[num S,.int .u64 0])∧Below w.heap.size w w')
  (ck:∀ w,Calls Tryz.prog 119 #[num S,num M] w fun e w'=>e=.returned (.int .i64 k)∧Below w.heap.size w w')
  (ct:∀ w,Calls Tryz.prog 123 #[num S,num M] w fun e w'=>e=.returned (.tuple #[num L,.int .u64 (c:Nat)])∧Below w.heap.size w w')
  (w:World):Calls Tryz.prog 193 #[num A,num B,num M] w fun e w'=>e=.returned (.tuple #[num L,.int .i64 0])∧Below w.heap.size w w':=by
 have Hcm:=Jja cm
 have Hcs:=Jja cs
 have Hck:=Jja ck
 have Hct:=Jja ct
 clear cm cs ck ct
 go_enter Tryz.func193,Tryz.ntmps193
 go_wp2_with fail
 have BW:=Jja (Below.refl w.heap.size w)
 have Ex:w.heap.size≤w.heap.size+1+1+1:=by have:=BW.out.size;omega
 have Dax:w.heap.size≠w.heap.size+1+1+1:=by omega
 have Dbx:w.heap.size+1≠w.heap.size+1+1+1:=by omega
 have Dmx:w.heap.size+1+1≠w.heap.size+1+1+1:=by omega
 generalize hW1:((((w.alloc (.cells (ncs A) 24)).alloc (.cells (ncs B) 24)).alloc (.cells (ncs M) 24)).alloc (.cells #[.int .u64 0,.int .u64 0,.int .u64 0,.int .u64 0] 24))=W1 at *
 have Na:At W1 (w.heap.size) _ _:=Jf hW1 ((((At.at_ _ _ _ _ (by simp)).alloc _).alloc _).alloc _)
 have Nb:At W1 (w.heap.size+1) _ _:=Jf hW1 (((At.at_ _ _ _ _ (by simp)).alloc _).alloc _)
 have Nm:At W1 (w.heap.size+1+1) _ _:=Jf hW1 ((At.at_ _ _ _ _ (by simp)).alloc _)
 have Nx:At W1 (w.heap.size+1+1+1) _ _:=Jf hW1 (At.at_ _ _ _ _ (by simp))
 have NB:=Ka hW1 (Jd (Jd (Jd (Jd BW.out _) _) _) _)
 clear hW1 BW 
 generalize w.heap.size+1+1+1=gx at *
 generalize w.heap.size+1+1=gm at *
 generalize w.heap.size+1=gb at *
 obtain ⟨ga,hg0⟩:∃ g,g=w.heap.size:=⟨_,rfl⟩
 rw [← hg0] at Na ⊢
 rw [← hg0] at Dax
 clear hg0
 have Fa:=Jja Na
 have Fb:=Jja Nb
 have Fm:=Jja Nm
 have Fx:=Jja Nx
 have BW:=Jja NB
 clear NB Na Nb Nm Nx
 refine (Hcm.out _).mono ?_
 rintro e v2 ⟨rfl,z2⟩
 have Na:=Jja (Fa.out.on z2)
 have Nb:=Jja (Fb.out.on z2)
 have Nm:=Jja (Fm.out.on z2)
 have Nx:=Jja (Fx.out.on z2)
 have NB:=Jja (Jr BW.out z2)
 clear BW z2 Fa Fb Fm Fx
 have Fa:=Na
 have Fb:=Nb
 have Fm:=Nm
 have Fx:=Nx
 have BW:=NB
 clear NB Na Nb Nm Nx
 have La:=Fa.out.lt
 have ca0:=Fa.out.c0;have ca1:=Fa.out.c1;have ca2:=Fa.out.c2;have ca3:=Fa.out.c3
 have Lb:=Fb.out.lt
 have cb0:=Fb.out.c0;have cb1:=Fb.out.c1;have cb2:=Fb.out.c2;have cb3:=Fb.out.c3
 go_wp2_with fail
 clear La ca0 ca1 ca2 ca3 Lb cb0 cb1 cb2 cb3
 refine (Hcs.out _).mono ?_
 rintro e v3 ⟨rfl,z3⟩
 have Na:=Jja (Fa.out.on z3)
 have Nb:=Jja (Fb.out.on z3)
 have Nm:=Jja (Fm.out.on z3)
 have Nx:=Jja (Fx.out.on z3)
 have NB:=Jja (Jr BW.out z3)
 clear BW z3 Fa Fb Fm Fx
 have Fa:=Na
 have Fb:=Nb
 have Fm:=Nm
 have Fx:=Nx
 have BW:=NB
 clear NB Na Nb Nm Nx
 have Lm:=Fm.out.lt
 have cm0:=Fm.out.c0;have cm1:=Fm.out.c1;have cm2:=Fm.out.c2;have cm3:=Fm.out.c3
 go_wp2_with fail
 clear Lm cm0 cm1 cm2 cm3
 have Es:w.heap.size≤v3.heap.size:=by have:=BW.out.size;omega
 have Das:ga≠v3.heap.size:=by have:=Fa.out.lt;omega
 have Dbs:gb≠v3.heap.size:=by have:=Fb.out.lt;omega
 have Dms:gm≠v3.heap.size:=by have:=Fm.out.lt;omega
 have Dxs:gx≠v3.heap.size:=by have:=Fx.out.lt;omega
 generalize hW4:(v3.alloc (.cells (ncs S) 24))=W4 at *
 have Ns:At W4 (v3.heap.size) _ _:=Jf hW4 (At.at_ _ _ _ _ (by simp))
 have Na:=Jf hW4 (Fa.out.alloc _)
 have Nb:=Jf hW4 (Fb.out.alloc _)
 have Nm:=Jf hW4 (Fm.out.alloc _)
 have Nx:=Jf hW4 (Fx.out.alloc _)
 have NB:=Ka hW4 (Jd BW.out _)
 clear hW4 BW Fa Fb Fm Fx
 generalize v3.heap.size=gs at *
 have Fa:=Jja Na
 have Fb:=Jja Nb
 have Fm:=Jja Nm
 have Fx:=Jja Nx
 have Fs:=Jja Ns
 have BW:=Jja NB
 clear NB Na Nb Nm Nx Ns
 refine (Hck.out _).mono ?_
 rintro e v5 ⟨rfl,z5⟩
 have Na:=Jja (Fa.out.on z5)
 have Nb:=Jja (Fb.out.on z5)
 have Nm:=Jja (Fm.out.on z5)
 have Nx:=Jja (Fx.out.on z5)
 have Ns:=Jja (Fs.out.on z5)
 have NB:=Jja (Jr BW.out z5)
 clear BW z5 Fa Fb Fm Fx Fs
 have Fa:=Na
 have Fb:=Nb
 have Fm:=Nm
 have Fx:=Nx
 have Fs:=Ns
 have BW:=NB
 clear NB Na Nb Nm Nx Ns
 have Ls:=Fs.out.lt
 have cs0:=Fs.out.c0;have cs1:=Fs.out.c1;have cs2:=Fs.out.c2;have cs3:=Fs.out.c3
 have Lm:=Fm.out.lt
 have cm0:=Fm.out.c0;have cm1:=Fm.out.c1;have cm2:=Fm.out.c2;have cm3:=Fm.out.c3
 go_wp2_with fail
 clear Ls cs0 cs1 cs2 cs3 Lm cm0 cm1 cm2 cm3
 refine (Hct.out _).mono ?_
 rintro e v6 ⟨rfl,z6⟩
 have Na:=Jja (Fa.out.on z6)
 have Nb:=Jja (Fb.out.on z6)
 have Nm:=Jja (Fm.out.on z6)
 have Nx:=Jja (Fx.out.on z6)
 have Ns:=Jja (Fs.out.on z6)
 have NB:=Jja (Jr BW.out z6)
 clear BW z6 Fa Fb Fm Fx Fs
 have Fa:=Na
 have Fb:=Nb
 have Fm:=Nm
 have Fx:=Nx
 have Fs:=Ns
 have BW:=NB
 clear NB Na Nb Nm Nx Ns
 have Ls:=Fs.out.lt
 have cs0:=Fs.out.c0;have cs1:=Fs.out.c1;have cs2:=Fs.out.c2;have cs3:=Fs.out.c3
 obtain ⟨fs0,fs1,fs2,fs3⟩:=Vo Fs.out
 have Lx:=Fx.out.lt
 have cx0:=Fx.out.c0;have cx1:=Fx.out.c1;have cx2:=Fx.out.c2;have cx3:=Fx.out.c3
 obtain ⟨fx0,fx1,fx2,fx3⟩:=Vo Fx.out
 go_wp2_with fail
 clear Ls cs0 cs1 cs2 cs3 fs0 fs1 fs2 fs3 Lx cx0 cx1 cx2 cx3 fx0 fx1 fx2 fx3
 generalize hW7:((((((((v6.setCell ⟨gs,0,none⟩ (.int .u64 (wd L 0))).setCell ⟨gs,1,none⟩ (.int .u64 (wd L 1))).setCell ⟨gs,2,none⟩ (.int .u64 (wd L 2))).setCell ⟨gs,3,none⟩ (.int .u64 (wd L 3))).setCell ⟨gx,0,none⟩ (.int .u64 (wd L 0))).setCell ⟨gx,1,none⟩ (.int .u64 (wd L 1))).setCell ⟨gx,2,none⟩ (.int .u64 (wd L 2))).setCell ⟨gx,3,none⟩ (.int .u64 (wd L 3)))=W7 at *
 have Na:=Jf hW7 (((Fa.out).far4 Das _ _ _ _).far4 Dax _ _ _ _)
 have Nb:=Jf hW7 (((Fb.out).far4 Dbs _ _ _ _).far4 Dbx _ _ _ _)
 have Nm:=Jf hW7 (((Fm.out).far4 Dms _ _ _ _).far4 Dmx _ _ _ _)
 have Nx:=Jf hW7 (((Fx.out).far4 Dxs _ _ _ _).put4 _ _ _ _)
 have Ns:=Jf hW7 (((Fs.out).put4 _ _ _ _).far4 Dxs.symm _ _ _ _)
 have NB:=Ka hW7 (((((((((BW.out).setCell Es _).setCell Es _).setCell Es _).setCell Es _).setCell Ex _).setCell Ex _).setCell Ex _).setCell Ex _)
 clear hW7 BW Fa Fb Fm Fx Fs
 have Fa:=Jja Na
 have Fb:=Jja Nb
 have Fm:=Jja Nm
 have Fx:=Jja Nx
 have Fs:=Jja Ns
 have BW:=Jja NB
 clear NB Na Nb Nm Nx Ns
 have Lx:=Fx.out.lt
 have cx0:=Fx.out.c0;have cx1:=Fx.out.c1;have cx2:=Fx.out.c2;have cx3:=Fx.out.c3
 refine bodyPost_ret (v:=.tuple #[num L,.int .i64 0]) (by simp [results,Tryz.results193,go_sem, *]) rfl ⟨rfl,BW.out⟩

theorem radd4_lt (A B M S:Nat) (k:Int) (hk:k<0)
  (cm:∀ w,Calls Tryz.prog 185 #[num A,num B,num M] w fun e w'=>e=.returned (.bool true)∧Below w.heap.size w w')
  (cs:∀ w,Calls Tryz.prog 182 #[num A,num B] w fun e w'=>e=.returned (.tuple #[num S,.int .u64 0])∧Below w.heap.size w w')
  (ck:∀ w,Calls Tryz.prog 119 #[num S,num M] w fun e w'=>e=.returned (.int .i64 k)∧Below w.heap.size w w')
  (w:World):Calls Tryz.prog 193 #[num A,num B,num M] w fun e w'=>e=.returned (.tuple #[num S,.int .i64 0])∧Below w.heap.size w w':=by
 have Hcm:=Jja cm
 have Hcs:=Jja cs
 have Hck:=Jja ck
 clear cm cs ck
 go_enter Tryz.func193,Tryz.ntmps193
 go_wp2_with fail
 have BW:=Jja (Below.refl w.heap.size w)
 have Ex:w.heap.size≤w.heap.size+1+1+1:=by have:=BW.out.size;omega
 have Dax:w.heap.size≠w.heap.size+1+1+1:=by omega
 have Dbx:w.heap.size+1≠w.heap.size+1+1+1:=by omega
 have Dmx:w.heap.size+1+1≠w.heap.size+1+1+1:=by omega
 generalize hW1:((((w.alloc (.cells (ncs A) 24)).alloc (.cells (ncs B) 24)).alloc (.cells (ncs M) 24)).alloc (.cells #[.int .u64 0,.int .u64 0,.int .u64 0,.int .u64 0] 24))=W1 at *
 have Na:At W1 (w.heap.size) _ _:=Jf hW1 ((((At.at_ _ _ _ _ (by simp)).alloc _).alloc _).alloc _)
 have Nb:At W1 (w.heap.size+1) _ _:=Jf hW1 (((At.at_ _ _ _ _ (by simp)).alloc _).alloc _)
 have Nm:At W1 (w.heap.size+1+1) _ _:=Jf hW1 ((At.at_ _ _ _ _ (by simp)).alloc _)
 have Nx:At W1 (w.heap.size+1+1+1) _ _:=Jf hW1 (At.at_ _ _ _ _ (by simp))
 have NB:=Ka hW1 (Jd (Jd (Jd (Jd BW.out _) _) _) _)
 clear hW1 BW 
 generalize w.heap.size+1+1+1=gx at *
 generalize w.heap.size+1+1=gm at *
 generalize w.heap.size+1=gb at *
 obtain ⟨ga,hg0⟩:∃ g,g=w.heap.size:=⟨_,rfl⟩
 rw [← hg0] at Na ⊢
 rw [← hg0] at Dax
 clear hg0
 have Fa:=Jja Na
 have Fb:=Jja Nb
 have Fm:=Jja Nm
 have Fx:=Jja Nx
 have BW:=Jja NB
 clear NB Na Nb Nm Nx
 refine (Hcm.out _).mono ?_
 rintro e v2 ⟨rfl,z2⟩
 have Na:=Jja (Fa.out.on z2)
 have Nb:=Jja (Fb.out.on z2)
 have Nm:=Jja (Fm.out.on z2)
 have Nx:=Jja (Fx.out.on z2)
 have NB:=Jja (Jr BW.out z2)
 clear BW z2 Fa Fb Fm Fx
 have Fa:=Na
 have Fb:=Nb
 have Fm:=Nm
 have Fx:=Nx
 have BW:=NB
 clear NB Na Nb Nm Nx
 have La:=Fa.out.lt
 have ca0:=Fa.out.c0;have ca1:=Fa.out.c1;have ca2:=Fa.out.c2;have ca3:=Fa.out.c3
 have Lb:=Fb.out.lt
 have cb0:=Fb.out.c0;have cb1:=Fb.out.c1;have cb2:=Fb.out.c2;have cb3:=Fb.out.c3
 go_wp2_with fail
 clear La ca0 ca1 ca2 ca3 Lb cb0 cb1 cb2 cb3
 refine (Hcs.out _).mono ?_
 rintro e v3 ⟨rfl,z3⟩
 have Na:=Jja (Fa.out.on z3)
 have Nb:=Jja (Fb.out.on z3)
 have Nm:=Jja (Fm.out.on z3)
 have Nx:=Jja (Fx.out.on z3)
 have NB:=Jja (Jr BW.out z3)
 clear BW z3 Fa Fb Fm Fx
 have Fa:=Na
 have Fb:=Nb
 have Fm:=Nm
 have Fx:=Nx
 have BW:=NB
 clear NB Na Nb Nm Nx
 have Lm:=Fm.out.lt
 have cm0:=Fm.out.c0;have cm1:=Fm.out.c1;have cm2:=Fm.out.c2;have cm3:=Fm.out.c3
 go_wp2_with fail
 clear Lm cm0 cm1 cm2 cm3
 have Es:w.heap.size≤v3.heap.size:=by have:=BW.out.size;omega
 have Das:ga≠v3.heap.size:=by have:=Fa.out.lt;omega
 have Dbs:gb≠v3.heap.size:=by have:=Fb.out.lt;omega
 have Dms:gm≠v3.heap.size:=by have:=Fm.out.lt;omega
 have Dxs:gx≠v3.heap.size:=by have:=Fx.out.lt;omega
 generalize hW4:(v3.alloc (.cells (ncs S) 24))=W4 at *
 have Ns:At W4 (v3.heap.size) _ _:=Jf hW4 (At.at_ _ _ _ _ (by simp))
 have Na:=Jf hW4 (Fa.out.alloc _)
 have Nb:=Jf hW4 (Fb.out.alloc _)
 have Nm:=Jf hW4 (Fm.out.alloc _)
 have Nx:=Jf hW4 (Fx.out.alloc _)
 have NB:=Ka hW4 (Jd BW.out _)
 clear hW4 BW Fa Fb Fm Fx
 generalize v3.heap.size=gs at *
 have Fa:=Jja Na
 have Fb:=Jja Nb
 have Fm:=Jja Nm
 have Fx:=Jja Nx
 have Fs:=Jja Ns
 have BW:=Jja NB
 clear NB Na Nb Nm Nx Ns
 refine (Hck.out _).mono ?_
 rintro e v5 ⟨rfl,z5⟩
 have Na:=Jja (Fa.out.on z5)
 have Nb:=Jja (Fb.out.on z5)
 have Nm:=Jja (Fm.out.on z5)
 have Nx:=Jja (Fx.out.on z5)
 have Ns:=Jja (Fs.out.on z5)
 have NB:=Jja (Jr BW.out z5)
 clear BW z5 Fa Fb Fm Fx Fs
 have Fa:=Na
 have Fb:=Nb
 have Fm:=Nm
 have Fx:=Nx
 have Fs:=Ns
 have BW:=NB
 clear NB Na Nb Nm Nx Ns
 have Ls:=Fs.out.lt
 have cs0:=Fs.out.c0;have cs1:=Fs.out.c1;have cs2:=Fs.out.c2;have cs3:=Fs.out.c3
 have Lm:=Fm.out.lt
 have cm0:=Fm.out.c0;have cm1:=Fm.out.c1;have cm2:=Fm.out.c2;have cm3:=Fm.out.c3
 have hk2:¬ 0≤k:=by omega
 have Lx:=Fx.out.lt
 have cx0:=Fx.out.c0;have cx1:=Fx.out.c1;have cx2:=Fx.out.c2;have cx3:=Fx.out.c3
 obtain ⟨fx0,fx1,fx2,fx3⟩:=Vo Fx.out
 go_wp2_with fail
 clear Ls cs0 cs1 cs2 cs3 Lm cm0 cm1 cm2 cm3 Lx cx0 cx1 cx2 cx3 fx0 fx1 fx2 fx3
 generalize hW6:((((v5.setCell ⟨gx,0,none⟩ (.int .u64 (wd S 0))).setCell ⟨gx,1,none⟩ (.int .u64 (wd S 1))).setCell ⟨gx,2,none⟩ (.int .u64 (wd S 2))).setCell ⟨gx,3,none⟩ (.int .u64 (wd S 3)))=W6 at *
 have Na:=Jf hW6 ((Fa.out).far4 Dax _ _ _ _)
 have Nb:=Jf hW6 ((Fb.out).far4 Dbx _ _ _ _)
 have Nm:=Jf hW6 ((Fm.out).far4 Dmx _ _ _ _)
 have Nx:=Jf hW6 ((Fx.out).put4 _ _ _ _)
 have Ns:=Jf hW6 ((Fs.out).far4 Dxs.symm _ _ _ _)
 have NB:=Ka hW6 (((((BW.out).setCell Ex _).setCell Ex _).setCell Ex _).setCell Ex _)
 clear hW6 BW Fa Fb Fm Fx Fs
 have Fa:=Jja Na
 have Fb:=Jja Nb
 have Fm:=Jja Nm
 have Fx:=Jja Nx
 have Fs:=Jja Ns
 have BW:=Jja NB
 clear NB Na Nb Nm Nx Ns
 have Lx:=Fx.out.lt
 have cx0:=Fx.out.c0;have cx1:=Fx.out.c1;have cx2:=Fx.out.c2;have cx3:=Fx.out.c3
 refine bodyPost_ret (v:=.tuple #[num S,.int .i64 0]) (by simp [results,Tryz.results193,go_sem, *]) rfl ⟨rfl,BW.out⟩

theorem times4_w (A B M hi lo q r:Nat)
  (cw:∀ w,Calls Tryz.prog 181 #[num M] w fun e w'=>e=.returned (.bool true)∧Below w.heap.size w w')
  (cx:∀ w,Calls Tryz.prog 203 #[.int .u64 (wd A 0),.int .u64 (wd B 0)] w fun e w'=>e=.returned (.tuple #[.int .u64 (hi:Nat),.int .u64 (lo:Nat)])∧Below w.heap.size w w')
  (cd:∀ w,Calls Tryz.prog 204 #[.int .u64 (hi:Nat),.int .u64 (lo:Nat),.int .u64 (wd M 0)] w fun e w'=>e=.returned (.tuple #[.int .u64 (q:Nat),.int .u64 (r:Nat)])∧Below w.heap.size w w')
  (co:∀ w,Calls Tryz.prog 122 #[.int .u64 (r:Nat)] w fun e w'=>e=.returned (num r)∧Below w.heap.size w w')
  (w:World):Calls Tryz.prog 188 #[num A,num B,num M] w fun e w'=>e=.returned (num r)∧Below w.heap.size w w':=by
 have Hcw:=Jja cw
 have Hcx:=Jja cx
 have Hcd:=Jja cd
 have Hco:=Jja co
 clear cw cx cd co
 go_enter Tryz.func188,Tryz.ntmps188
 go_wp2_with fail
 have BW:=Jja (Below.refl w.heap.size w)
 have Ex:w.heap.size≤w.heap.size+1+1+1:=by have:=BW.out.size;omega
 have Dax:w.heap.size≠w.heap.size+1+1+1:=by omega
 have Dbx:w.heap.size+1≠w.heap.size+1+1+1:=by omega
 have Dmx:w.heap.size+1+1≠w.heap.size+1+1+1:=by omega
 generalize hW1:((((w.alloc (.cells (ncs A) 24)).alloc (.cells (ncs B) 24)).alloc (.cells (ncs M) 24)).alloc (.cells #[.int .u64 0,.int .u64 0,.int .u64 0,.int .u64 0] 24))=W1 at *
 have Na:At W1 (w.heap.size) _ _:=Jf hW1 ((((At.at_ _ _ _ _ (by simp)).alloc _).alloc _).alloc _)
 have Nb:At W1 (w.heap.size+1) _ _:=Jf hW1 (((At.at_ _ _ _ _ (by simp)).alloc _).alloc _)
 have Nm:At W1 (w.heap.size+1+1) _ _:=Jf hW1 ((At.at_ _ _ _ _ (by simp)).alloc _)
 have Nx:At W1 (w.heap.size+1+1+1) _ _:=Jf hW1 (At.at_ _ _ _ _ (by simp))
 have NB:=Ka hW1 (Jd (Jd (Jd (Jd BW.out _) _) _) _)
 clear hW1 BW 
 generalize w.heap.size+1+1+1=gx at *
 generalize w.heap.size+1+1=gm at *
 generalize w.heap.size+1=gb at *
 obtain ⟨ga,hg0⟩:∃ g,g=w.heap.size:=⟨_,rfl⟩
 rw [← hg0] at Na ⊢
 rw [← hg0] at Dax
 clear hg0
 have Fa:=Jja Na
 have Fb:=Jja Nb
 have Fm:=Jja Nm
 have Fx:=Jja Nx
 have BW:=Jja NB
 clear NB Na Nb Nm Nx
 refine (Hcw.out _).mono ?_
 rintro e v2 ⟨rfl,z2⟩
 have Na:=Jja (Fa.out.on z2)
 have Nb:=Jja (Fb.out.on z2)
 have Nm:=Jja (Fm.out.on z2)
 have Nx:=Jja (Fx.out.on z2)
 have NB:=Jja (Jr BW.out z2)
 clear BW z2 Fa Fb Fm Fx
 have Fa:=Na
 have Fb:=Nb
 have Fm:=Nm
 have Fx:=Nx
 have BW:=NB
 clear NB Na Nb Nm Nx
 have La:=Fa.out.lt
 have ca0:=Fa.out.c0;have ca1:=Fa.out.c1;have ca2:=Fa.out.c2;have ca3:=Fa.out.c3
 have Lb:=Fb.out.lt
 have cb0:=Fb.out.c0;have cb1:=Fb.out.c1;have cb2:=Fb.out.c2;have cb3:=Fb.out.c3
 go_wp2_with fail
 clear La ca0 ca1 ca2 ca3 Lb cb0 cb1 cb2 cb3
 refine (Hcx.out _).mono ?_
 rintro e v3 ⟨rfl,z3⟩
 have Na:=Jja (Fa.out.on z3)
 have Nb:=Jja (Fb.out.on z3)
 have Nm:=Jja (Fm.out.on z3)
 have Nx:=Jja (Fx.out.on z3)
 have NB:=Jja (Jr BW.out z3)
 clear BW z3 Fa Fb Fm Fx
 have Fa:=Na
 have Fb:=Nb
 have Fm:=Nm
 have Fx:=Nx
 have BW:=NB
 clear NB Na Nb Nm Nx
 have Lm:=Fm.out.lt
 have cm0:=Fm.out.c0;have cm1:=Fm.out.c1;have cm2:=Fm.out.c2;have cm3:=Fm.out.c3
 go_wp2_with fail
 clear Lm cm0 cm1 cm2 cm3
 refine (Hcd.out _).mono ?_
 rintro e v4 ⟨rfl,z4⟩
 have Na:=Jja (Fa.out.on z4)
 have Nb:=Jja (Fb.out.on z4)
 have Nm:=Jja (Fm.out.on z4)
 have Nx:=Jja (Fx.out.on z4)
 have NB:=Jja (Jr BW.out z4)
 clear BW z4 Fa Fb Fm Fx
 have Fa:=Na
 have Fb:=Nb
 have Fm:=Nm
 have Fx:=Nx
 have BW:=NB
 clear NB Na Nb Nm Nx
 go_wp2_with fail
 refine (Hco.out _).mono ?_
 rintro e v5 ⟨rfl,z5⟩
 have Na:=Jja (Fa.out.on z5)
 have Nb:=Jja (Fb.out.on z5)
 have Nm:=Jja (Fm.out.on z5)
 have Nx:=Jja (Fx.out.on z5)
 have NB:=Jja (Jr BW.out z5)
 clear BW z5 Fa Fb Fm Fx
 have Fa:=Na
 have Fb:=Nb
 have Fm:=Nm
 have Fx:=Nx
 have BW:=NB
 clear NB Na Nb Nm Nx
 have Lx:=Fx.out.lt
 have cx0:=Fx.out.c0;have cx1:=Fx.out.c1;have cx2:=Fx.out.c2;have cx3:=Fx.out.c3
 obtain ⟨fx0,fx1,fx2,fx3⟩:=Vo Fx.out
 go_wp2_with fail
 clear Lx cx0 cx1 cx2 cx3 fx0 fx1 fx2 fx3
 generalize hW6:((((v5.setCell ⟨gx,0,none⟩ (.int .u64 (wd r 0))).setCell ⟨gx,1,none⟩ (.int .u64 (wd r 1))).setCell ⟨gx,2,none⟩ (.int .u64 (wd r 2))).setCell ⟨gx,3,none⟩ (.int .u64 (wd r 3)))=W6 at *
 have Na:=Jf hW6 ((Fa.out).far4 Dax _ _ _ _)
 have Nb:=Jf hW6 ((Fb.out).far4 Dbx _ _ _ _)
 have Nm:=Jf hW6 ((Fm.out).far4 Dmx _ _ _ _)
 have Nx:=Jf hW6 ((Fx.out).put4 _ _ _ _)
 have NB:=Ka hW6 (((((BW.out).setCell Ex _).setCell Ex _).setCell Ex _).setCell Ex _)
 clear hW6 BW Fa Fb Fm Fx
 have Fa:=Jja Na
 have Fb:=Jja Nb
 have Fm:=Jja Nm
 have Fx:=Jja Nx
 have BW:=Jja NB
 clear NB Na Nb Nm Nx
 have Lx:=Fx.out.lt
 have cx0:=Fx.out.c0;have cx1:=Fx.out.c1;have cx2:=Fx.out.c2;have cx3:=Fx.out.c3
 refine bodyPost_ret (v:=num r) (by simp [results,Tryz.results188,go_sem, *]) rfl ⟨rfl,BW.out⟩

theorem times4_l (A B M L H r:Nat)
  (cw:∀ w,Calls Tryz.prog 181 #[num M] w fun e w'=>e=.returned (.bool false)∧Below w.heap.size w w')
  (cx:∀ w,Calls Tryz.prog 205 #[num A,num B] w fun e w'=>e=.returned (.tuple #[num L,num H])∧Below w.heap.size w w')
  (cd:∀ w,Calls Tryz.prog 206 #[num L,num H,num M] w fun e w'=>e=.returned (.tuple #[num r,.int .i64 0])∧Below w.heap.size w w')
  (w:World):Calls Tryz.prog 188 #[num A,num B,num M] w fun e w'=>e=.returned (num r)∧Below w.heap.size w w':=by
 have Hcw:=Jja cw
 have Hcx:=Jja cx
 have Hcd:=Jja cd
 clear cw cx cd
 go_enter Tryz.func188,Tryz.ntmps188
 go_wp2_with fail
 have BW:=Jja (Below.refl w.heap.size w)
 have Ex:w.heap.size≤w.heap.size+1+1+1:=by have:=BW.out.size;omega
 have Dax:w.heap.size≠w.heap.size+1+1+1:=by omega
 have Dbx:w.heap.size+1≠w.heap.size+1+1+1:=by omega
 have Dmx:w.heap.size+1+1≠w.heap.size+1+1+1:=by omega
 generalize hW1:((((w.alloc (.cells (ncs A) 24)).alloc (.cells (ncs B) 24)).alloc (.cells (ncs M) 24)).alloc (.cells #[.int .u64 0,.int .u64 0,.int .u64 0,.int .u64 0] 24))=W1 at *
 have Na:At W1 (w.heap.size) _ _:=Jf hW1 ((((At.at_ _ _ _ _ (by simp)).alloc _).alloc _).alloc _)
 have Nb:At W1 (w.heap.size+1) _ _:=Jf hW1 (((At.at_ _ _ _ _ (by simp)).alloc _).alloc _)
 have Nm:At W1 (w.heap.size+1+1) _ _:=Jf hW1 ((At.at_ _ _ _ _ (by simp)).alloc _)
 have Nx:At W1 (w.heap.size+1+1+1) _ _:=Jf hW1 (At.at_ _ _ _ _ (by simp))
 have NB:=Ka hW1 (Jd (Jd (Jd (Jd BW.out _) _) _) _)
 clear hW1 BW 
 generalize w.heap.size+1+1+1=gx at *
 generalize w.heap.size+1+1=gm at *
 generalize w.heap.size+1=gb at *
 obtain ⟨ga,hg0⟩:∃ g,g=w.heap.size:=⟨_,rfl⟩
 rw [← hg0] at Na ⊢
 rw [← hg0] at Dax
 clear hg0
 have Fa:=Jja Na
 have Fb:=Jja Nb
 have Fm:=Jja Nm
 have Fx:=Jja Nx
 have BW:=Jja NB
 clear NB Na Nb Nm Nx
 refine (Hcw.out _).mono ?_
 rintro e v2 ⟨rfl,z2⟩
 have Na:=Jja (Fa.out.on z2)
 have Nb:=Jja (Fb.out.on z2)
 have Nm:=Jja (Fm.out.on z2)
 have Nx:=Jja (Fx.out.on z2)
 have NB:=Jja (Jr BW.out z2)
 clear BW z2 Fa Fb Fm Fx
 have Fa:=Na
 have Fb:=Nb
 have Fm:=Nm
 have Fx:=Nx
 have BW:=NB
 clear NB Na Nb Nm Nx
 have La:=Fa.out.lt
 have ca0:=Fa.out.c0;have ca1:=Fa.out.c1;have ca2:=Fa.out.c2;have ca3:=Fa.out.c3
 have Lb:=Fb.out.lt
 have cb0:=Fb.out.c0;have cb1:=Fb.out.c1;have cb2:=Fb.out.c2;have cb3:=Fb.out.c3
 go_wp2_with fail
 clear La ca0 ca1 ca2 ca3 Lb cb0 cb1 cb2 cb3
 refine (Hcx.out _).mono ?_
 rintro e v3 ⟨rfl,z3⟩
 have Na:=Jja (Fa.out.on z3)
 have Nb:=Jja (Fb.out.on z3)
 have Nm:=Jja (Fm.out.on z3)
 have Nx:=Jja (Fx.out.on z3)
 have NB:=Jja (Jr BW.out z3)
 clear BW z3 Fa Fb Fm Fx
 have Fa:=Na
 have Fb:=Nb
 have Fm:=Nm
 have Fx:=Nx
 have BW:=NB
 clear NB Na Nb Nm Nx
 have Lm:=Fm.out.lt
 have cm0:=Fm.out.c0;have cm1:=Fm.out.c1;have cm2:=Fm.out.c2;have cm3:=Fm.out.c3
 go_wp2_with fail
 clear Lm cm0 cm1 cm2 cm3
 have Dxl:gx≠v3.heap.size:=by have:=Fx.out.lt;omega
 have Dxh:gx≠v3.heap.size+1:=by have:=Fx.out.lt;omega
 generalize hW4:((v3.alloc (.cells (ncs L) 24)).alloc (.cells (ncs H) 24))=W4 at *
 have Nl:At W4 (v3.heap.size) _ _:=Jf hW4 ((At.at_ _ _ _ _ (by simp)).alloc _)
 have Nh:At W4 (v3.heap.size+1) _ _:=Jf hW4 (At.at_ _ _ _ _ (by simp))
 have Na:=Jf hW4 ((Fa.out.alloc _).alloc _)
 have Nb:=Jf hW4 ((Fb.out.alloc _).alloc _)
 have Nm:=Jf hW4 ((Fm.out.alloc _).alloc _)
 have Nx:=Jf hW4 ((Fx.out.alloc _).alloc _)
 have NB:=Ka hW4 (Jd (Jd BW.out _) _)
 clear hW4 BW Fa Fb Fm Fx
 generalize v3.heap.size+1=gh at *
 generalize v3.heap.size=gl at *
 have Fa:=Jja Na
 have Fb:=Jja Nb
 have Fm:=Jja Nm
 have Fx:=Jja Nx
 have Fl:=Jja Nl
 have Fh:=Jja Nh
 have BW:=Jja NB
 clear NB Na Nb Nm Nx Nl Nh
 refine (Hcd.out _).mono ?_
 rintro e v5 ⟨rfl,z5⟩
 have Na:=Jja (Fa.out.on z5)
 have Nb:=Jja (Fb.out.on z5)
 have Nm:=Jja (Fm.out.on z5)
 have Nx:=Jja (Fx.out.on z5)
 have Nl:=Jja (Fl.out.on z5)
 have Nh:=Jja (Fh.out.on z5)
 have NB:=Jja (Jr BW.out z5)
 clear BW z5 Fa Fb Fm Fx Fl Fh
 have Fa:=Na
 have Fb:=Nb
 have Fm:=Nm
 have Fx:=Nx
 have Fl:=Nl
 have Fh:=Nh
 have BW:=NB
 clear NB Na Nb Nm Nx Nl Nh
 have Lx:=Fx.out.lt
 have cx0:=Fx.out.c0;have cx1:=Fx.out.c1;have cx2:=Fx.out.c2;have cx3:=Fx.out.c3
 obtain ⟨fx0,fx1,fx2,fx3⟩:=Vo Fx.out
 go_wp2_with fail
 clear Lx cx0 cx1 cx2 cx3 fx0 fx1 fx2 fx3
 generalize hW6:((((v5.setCell ⟨gx,0,none⟩ (.int .u64 (wd r 0))).setCell ⟨gx,1,none⟩ (.int .u64 (wd r 1))).setCell ⟨gx,2,none⟩ (.int .u64 (wd r 2))).setCell ⟨gx,3,none⟩ (.int .u64 (wd r 3)))=W6 at *
 have Na:=Jf hW6 ((Fa.out).far4 Dax _ _ _ _)
 have Nb:=Jf hW6 ((Fb.out).far4 Dbx _ _ _ _)
 have Nm:=Jf hW6 ((Fm.out).far4 Dmx _ _ _ _)
 have Nx:=Jf hW6 ((Fx.out).put4 _ _ _ _)
 have Nl:=Jf hW6 ((Fl.out).far4 Dxl.symm _ _ _ _)
 have Nh:=Jf hW6 ((Fh.out).far4 Dxh.symm _ _ _ _)
 have NB:=Ka hW6 (((((BW.out).setCell Ex _).setCell Ex _).setCell Ex _).setCell Ex _)
 clear hW6 BW Fa Fb Fm Fx Fl Fh
 have Fa:=Jja Na
 have Fb:=Jja Nb
 have Fm:=Jja Nm
 have Fx:=Jja Nx
 have Fl:=Jja Nl
 have Fh:=Jja Nh
 have BW:=Jja NB
 clear NB Na Nb Nm Nx Nl Nh
 have Dxy:gx≠W6.heap.size:=by have:=Fx.out.lt;omega
 generalize hW7:(W6.alloc (.cells (ncs r) 24))=W7 at *
 have Ny:At W7 (W6.heap.size) _ _:=Jf hW7 (At.at_ _ _ _ _ (by simp))
 have Na:=Jf hW7 (Fa.out.alloc _)
 have Nb:=Jf hW7 (Fb.out.alloc _)
 have Nm:=Jf hW7 (Fm.out.alloc _)
 have Nx:=Jf hW7 (Fx.out.alloc _)
 have Nl:=Jf hW7 (Fl.out.alloc _)
 have Nh:=Jf hW7 (Fh.out.alloc _)
 have NB:=Ka hW7 (Jd BW.out _)
 clear hW7 BW Fa Fb Fm Fx Fl Fh
 generalize W6.heap.size=gy at *
 have Fa:=Jja Na
 have Fb:=Jja Nb
 have Fm:=Jja Nm
 have Fx:=Jja Nx
 have Fl:=Jja Nl
 have Fh:=Jja Nh
 have Fy:=Jja Ny
 have BW:=Jja NB
 clear NB Na Nb Nm Nx Nl Nh Ny
 have Lx:=Fx.out.lt
 have cx0:=Fx.out.c0;have cx1:=Fx.out.c1;have cx2:=Fx.out.c2;have cx3:=Fx.out.c3
 refine bodyPost_ret (v:=num r) (by simp [results,Tryz.results188,go_sem, *]) rfl ⟨rfl,BW.out⟩

theorem rmul4_y (A B M r:Nat)
  (cm:∀ w,Calls Tryz.prog 185 #[num A,num B,num M] w fun e w'=>e=.returned (.bool true)∧Below w.heap.size w w')
  (ct:∀ w,Calls Tryz.prog 188 #[num A,num B,num M] w fun e w'=>e=.returned (num r)∧Below w.heap.size w w')
  (w:World):Calls Tryz.prog 125 #[num A,num B,num M] w fun e w'=>e=.returned (.tuple #[num r,.int .i64 0])∧Below w.heap.size w w':=by
 have Hcm:=Jja cm
 have Hct:=Jja ct
 clear cm ct
 go_enter Tryz.func125,Tryz.ntmps125
 go_wp2_with fail
 have BW:=Jja (Below.refl w.heap.size w)
 have Ex:w.heap.size≤w.heap.size+1+1+1:=by have:=BW.out.size;omega
 have Dax:w.heap.size≠w.heap.size+1+1+1:=by omega
 have Dbx:w.heap.size+1≠w.heap.size+1+1+1:=by omega
 have Dmx:w.heap.size+1+1≠w.heap.size+1+1+1:=by omega
 generalize hW1:((((w.alloc (.cells (ncs A) 24)).alloc (.cells (ncs B) 24)).alloc (.cells (ncs M) 24)).alloc (.cells #[.int .u64 0,.int .u64 0,.int .u64 0,.int .u64 0] 24))=W1 at *
 have Na:At W1 (w.heap.size) _ _:=Jf hW1 ((((At.at_ _ _ _ _ (by simp)).alloc _).alloc _).alloc _)
 have Nb:At W1 (w.heap.size+1) _ _:=Jf hW1 (((At.at_ _ _ _ _ (by simp)).alloc _).alloc _)
 have Nm:At W1 (w.heap.size+1+1) _ _:=Jf hW1 ((At.at_ _ _ _ _ (by simp)).alloc _)
 have Nx:At W1 (w.heap.size+1+1+1) _ _:=Jf hW1 (At.at_ _ _ _ _ (by simp))
 have NB:=Ka hW1 (Jd (Jd (Jd (Jd BW.out _) _) _) _)
 clear hW1 BW 
 generalize w.heap.size+1+1+1=gx at *
 generalize w.heap.size+1+1=gm at *
 generalize w.heap.size+1=gb at *
 obtain ⟨ga,hg0⟩:∃ g,g=w.heap.size:=⟨_,rfl⟩
 rw [← hg0] at Na ⊢
 rw [← hg0] at Dax
 clear hg0
 have Fa:=Jja Na
 have Fb:=Jja Nb
 have Fm:=Jja Nm
 have Fx:=Jja Nx
 have BW:=Jja NB
 clear NB Na Nb Nm Nx
 refine (Hcm.out _).mono ?_
 rintro e v2 ⟨rfl,z2⟩
 have Na:=Jja (Fa.out.on z2)
 have Nb:=Jja (Fb.out.on z2)
 have Nm:=Jja (Fm.out.on z2)
 have Nx:=Jja (Fx.out.on z2)
 have NB:=Jja (Jr BW.out z2)
 clear BW z2 Fa Fb Fm Fx
 have Fa:=Na
 have Fb:=Nb
 have Fm:=Nm
 have Fx:=Nx
 have BW:=NB
 clear NB Na Nb Nm Nx
 have La:=Fa.out.lt
 have ca0:=Fa.out.c0;have ca1:=Fa.out.c1;have ca2:=Fa.out.c2;have ca3:=Fa.out.c3
 have Lb:=Fb.out.lt
 have cb0:=Fb.out.c0;have cb1:=Fb.out.c1;have cb2:=Fb.out.c2;have cb3:=Fb.out.c3
 have Lm:=Fm.out.lt
 have cm0:=Fm.out.c0;have cm1:=Fm.out.c1;have cm2:=Fm.out.c2;have cm3:=Fm.out.c3
 go_wp2_with fail
 clear La ca0 ca1 ca2 ca3 Lb cb0 cb1 cb2 cb3 Lm cm0 cm1 cm2 cm3
 refine (Hct.out _).mono ?_
 rintro e v3 ⟨rfl,z3⟩
 have Na:=Jja (Fa.out.on z3)
 have Nb:=Jja (Fb.out.on z3)
 have Nm:=Jja (Fm.out.on z3)
 have Nx:=Jja (Fx.out.on z3)
 have NB:=Jja (Jr BW.out z3)
 clear BW z3 Fa Fb Fm Fx
 have Fa:=Na
 have Fb:=Nb
 have Fm:=Nm
 have Fx:=Nx
 have BW:=NB
 clear NB Na Nb Nm Nx
 have Lx:=Fx.out.lt
 have cx0:=Fx.out.c0;have cx1:=Fx.out.c1;have cx2:=Fx.out.c2;have cx3:=Fx.out.c3
 obtain ⟨fx0,fx1,fx2,fx3⟩:=Vo Fx.out
 go_wp2_with fail
 clear Lx cx0 cx1 cx2 cx3 fx0 fx1 fx2 fx3
 generalize hW4:((((v3.setCell ⟨gx,0,none⟩ (.int .u64 (wd r 0))).setCell ⟨gx,1,none⟩ (.int .u64 (wd r 1))).setCell ⟨gx,2,none⟩ (.int .u64 (wd r 2))).setCell ⟨gx,3,none⟩ (.int .u64 (wd r 3)))=W4 at *
 have Na:=Jf hW4 ((Fa.out).far4 Dax _ _ _ _)
 have Nb:=Jf hW4 ((Fb.out).far4 Dbx _ _ _ _)
 have Nm:=Jf hW4 ((Fm.out).far4 Dmx _ _ _ _)
 have Nx:=Jf hW4 ((Fx.out).put4 _ _ _ _)
 have NB:=Ka hW4 (((((BW.out).setCell Ex _).setCell Ex _).setCell Ex _).setCell Ex _)
 clear hW4 BW Fa Fb Fm Fx
 have Fa:=Jja Na
 have Fb:=Jja Nb
 have Fm:=Jja Nm
 have Fx:=Jja Nx
 have BW:=Jja NB
 clear NB Na Nb Nm Nx
 have Lx:=Fx.out.lt
 have cx0:=Fx.out.c0;have cx1:=Fx.out.c1;have cx2:=Fx.out.c2;have cx3:=Fx.out.c3
 refine bodyPost_ret (v:=.tuple #[num r,.int .i64 0]) (by simp [results,Tryz.results125,go_sem, *]) rfl ⟨rfl,BW.out⟩

end Go.Proofs.YtmmgmljkmmgjdaaGreatDoor
