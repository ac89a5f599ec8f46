/-
 mods.task: what is done with numbers once they may.
-/
import Derived.Test.YtlphnfajhpkleaaDoorMMod8
import Derived.Test.YtlphnfajhpkleaaDoorMSmall
namespace Go.Proofs.YtlphnfajhpkleaaDoor
open Go.RowKit
set_option linter.unusedSimpArgs false
set_option linter.unusedVariables false
attribute [local go_sem ↓] Go.wp_at_zero Go.wp_at_succ

set_option maxRecDepth 100000 in
set_option maxHeartbeats 8000000 in
theorem with_bad0 (A B M Z:Nat) (fv:Value) (k:Int)
  (hk:k≤0)
  (cO:∀ w,Calls Tryd.prog 30 #[.int .u64 1] w fun e w'=>e=.returned (num Z)∧Below w.heap.size w w')
  (ck:∀ w,Calls Tryd.prog 12 #[num M,num Z] w fun e w'=>e=.returned (.int .i64 k)∧Below w.heap.size w w')
  (w:World):Calls Tryd.prog 37 #[.agg #[fv],num A,num B,num M] w fun e w'=>e=.returned (.tuple #[.agg #[.int .u64 0,.int .u64 0,.int .u64 0,.int .u64 0],.int .i64 1])∧Below w.heap.size w w':=by
 have HcO:=Lib.hid cO
 have Hck:=Lib.hid ck
 clear cO ck
 go_enter Tryd.func37,Tryd.ntmps37
 go_wp2_with fail
 have BW:=Lib.hid (Below.refl w.heap.size w)
 have Ex:w.heap.size≤w.heap.size+1+1+1+1:=by have:=BW.out.size;omega
 have Dtx:w.heap.size≠w.heap.size+1+1+1+1:=by omega
 have Dax:w.heap.size+1≠w.heap.size+1+1+1+1:=by omega
 have Dbx:w.heap.size+1+1≠w.heap.size+1+1+1+1:=by omega
 have Dmx:w.heap.size+1+1+1≠w.heap.size+1+1+1+1:=by omega
 generalize hW1:(((((w.alloc (.cells #[fv] 62)).alloc (.cells #[.int .u64 (wd A 0:Nat),.int .u64 (wd A 1:Nat),.int .u64 (wd A 2:Nat),.int .u64 (wd A 3:Nat)] 24)).alloc (.cells #[.int .u64 (wd B 0:Nat),.int .u64 (wd B 1:Nat),.int .u64 (wd B 2:Nat),.int .u64 (wd B 3:Nat)] 24)).alloc (.cells #[.int .u64 (wd M 0:Nat),.int .u64 (wd M 1:Nat),.int .u64 (wd M 2:Nat),.int .u64 (wd M 3:Nat)] 24)).alloc (.cells #[.int .u64 0,.int .u64 0,.int .u64 0,.int .u64 0] 24))=W1 at *
 have Nt:At W1 (w.heap.size) _ _:=at_of hW1 (((((At.at_ _ _ _ _ (by simp)).alloc _).alloc _).alloc _).alloc _)
 have Na:At W1 (w.heap.size+1) _ _:=at_of hW1 ((((At.at_ _ _ _ _ (by simp)).alloc _).alloc _).alloc _)
 have Nb:At W1 (w.heap.size+1+1) _ _:=at_of hW1 (((At.at_ _ _ _ _ (by simp)).alloc _).alloc _)
 have Nm:At W1 (w.heap.size+1+1+1) _ _:=at_of hW1 ((At.at_ _ _ _ _ (by simp)).alloc _)
 have Nx:At W1 (w.heap.size+1+1+1+1) _ _:=at_of hW1 (At.at_ _ _ _ _ (by simp))
 have NB:=gr_of hW1 (gr_alloc (gr_alloc (gr_alloc (gr_alloc (gr_alloc BW.out _) _) _) _) _)
 clear hW1 BW 
 generalize w.heap.size+1+1+1+1=gx at *
 generalize w.heap.size+1+1+1=gm at *
 generalize w.heap.size+1+1=gb at *
 generalize w.heap.size+1=ga at *
 obtain ⟨gt,hg0⟩:∃ g,g=w.heap.size:=⟨_,rfl⟩
 rw [← hg0] at Nt ⊢
 rw [← hg0] at Dtx
 clear hg0
 have Ft:=Lib.hid Nt
 have Fa:=Lib.hid Na
 have Fb:=Lib.hid Nb
 have Fm:=Lib.hid Nm
 have Fx:=Lib.hid Nx
 have BW:=Lib.hid NB
 clear NB Nt Na Nb Nm Nx
 try simp only [List.append_eq,List.cons_append,List.nil_append]
 refine wp_region_noPanic ?_
 refine wp_region_held_drew (S:=fun w'=>At w' gm 24 #[.int .u64 (wd M 0:Nat),.int .u64 (wd M 1:Nat),.int .u64 (wd M 2:Nat),.int .u64 (wd M 3:Nat)]∧At w' ga 24 #[.int .u64 (wd A 0:Nat),.int .u64 (wd A 1:Nat),.int .u64 (wd A 2:Nat),.int .u64 (wd A 3:Nat)]∧At w' gb 24 #[.int .u64 (wd B 0:Nat),.int .u64 (wd B 1:Nat),.int .u64 (wd B 2:Nat),.int .u64 (wd B 3:Nat)]) (by kernel_rfl) (⟨Fm.out.drew,Fa.out.drew,Fb.out.drew⟩) (fun _=>?_)
 refine wpAnyH_cores (fuel:=0) (⟨0,10,[],Kind.val (.agg #[.int .u64 (wd M 0:Nat),.int .u64 (wd M 1:Nat),.int .u64 (wd M 2:Nat),.int .u64 (wd M 3:Nat)]),true⟩::⟨1,11,[0],Kind.val (.agg #[.int .u64 (wd Z 0:Nat),.int .u64 (wd Z 1:Nat),.int .u64 (wd Z 2:Nat),.int .u64 (wd Z 3:Nat)]),false⟩::⟨2,12,[0,1],Kind.val (.int .i64 k),false⟩::⟨3,13,[2],Kind.val (.bool true),true⟩::⟨4,14,[3],Kind.val (.bool true),true⟩::⟨5,15,[4],Kind.val (undef),true⟩::⟨6,16,[4,5],Kind.val (undef),true⟩::⟨7,17,[4,5,6],Kind.val (undef),true⟩::⟨8,18,[4,7],Kind.val (undef),true⟩::⟨9,19,[4,8],Kind.val (.bool true),true⟩::⟨10,20,[9],Kind.val (.bool true),true⟩::⟨11,21,[10],Kind.val (undef),true⟩::⟨12,22,[10,11],Kind.val (undef),true⟩::⟨13,23,[10,11,12],Kind.val (undef),true⟩::⟨14,24,[10,13],Kind.val (undef),true⟩::⟨15,25,[10,14],Kind.val (.bool true),true⟩::[]) _ _ W1 _ ?_ ?_ ?_ ?_ ?_ ?_ ?_ ?_ ?_ ?_ ?_
 ·rfl
 ·kernel_rfl
 ·exact of_decide_eq_true (by kernel_rfl)
 ·(repeat refine all_cons ⟨_,by rfl,by rfl⟩ ?_);exact all_nil
 ·exact fun _ hb=>⟨Fm.out.on hb,Fa.out.on hb,Fb.out.on hb⟩
 ·exact (Below.refl _ _).drew
 ·kernel_rfl
 ·exact fun _ _ _ _ _ h=>h
 ·(repeat (refine all_cons ?_ ?_;rotate_left));exact all_nil
  ·exact coreG_loadP _ _ _ _ _ _ gm _ _ _ _ (by rfl) (by rfl) (wants_none) (ko 7) (fun _ hs=>hs.1)
  ·exact core_pureAs _ (by rfl)
  ·exact core_pureAs _ (by rfl)
  ·exact coreG_bin _ _ _ _ _ _ _ _ _ _ _ _ _ (by rfl) (by rfl) (wants_none) (kc 2 12) (known_const _) ((fun ρ w hx hy=>by simp only [execOp,hx,hy];simp [go_sem];exact hk))
  ·exact coreG_move _ _ _ _ _ _ _ (by rfl) (by rfl) (wants_none) (kc 3 13)
  ·exact coreG_skip _ _ _ _ _ _ (by rfl) (by rfl) (wc 4 14 4 (kc 4 14))
  ·exact coreG_skip _ _ _ _ _ _ (by rfl) (by rfl) (wc 4 14 4 (kc 4 14))
  ·exact coreG_skip _ _ _ _ _ _ (by rfl) (by rfl) (wc 4 14 4 (kc 4 14))
  ·exact coreG_skip _ _ _ _ _ _ (by rfl) (by rfl) (wc 4 14 4 (kc 4 14))
  ·exact coreG_pick _ _ _ _ _ _ _ _ _ _ _ _ (by rfl) (by rfl) (wants_none) (kc 4 14) (known_const _) (kc 8 18) (by rfl)
  ·exact coreG_move _ _ _ _ _ _ _ (by rfl) (by rfl) (wants_none) (kc 9 19)
  ·exact coreG_skip _ _ _ _ _ _ (by rfl) (by rfl) (wc 10 20 10 (kc 10 20))
  ·exact coreG_skip _ _ _ _ _ _ (by rfl) (by rfl) (wc 10 20 10 (kc 10 20))
  ·exact coreG_skip _ _ _ _ _ _ (by rfl) (by rfl) (wc 10 20 10 (kc 10 20))
  ·exact coreG_skip _ _ _ _ _ _ (by rfl) (by rfl) (wc 10 20 10 (kc 10 20))
  ·exact coreG_pick _ _ _ _ _ _ _ _ _ _ _ _ (by rfl) (by rfl) (wants_none) (kc 10 20) (known_const _) (kc 14 24) (by rfl)
 ·(repeat (refine all_cons ?_ ?_;rotate_left));exact all_nil
  ·exact sA
  ·exact fun _=>coreG_call _ 30 _ _ [.const (.int .u64 1)] _ _ _ _ _ _ _ (by rfl) Tryd.func30 (by kernel_rfl) (by rfl) (by rfl) (wants_none) (.cons (known_const _) .nil) (HcO.out)
  ·exact fun _=>coreG_call _ 12 _ _ [.tmp 10,.tmp 11] _ _ _ _ _ _ _ (by rfl) Tryd.func12 (by kernel_rfl) (by rfl) (by rfl) (wants_none) (.cons (kc 0 10) (.cons (kc 1 11) .nil)) (Hck.out)
  ·exact sA
  ·exact sA
  ·exact sA
  ·exact sA
  ·exact sA
  ·exact sA
  ·exact sA
  ·exact sA
  ·exact sA
  ·exact sA
  ·exact sA
  ·exact sA
  ·exact sA
 intro vs y2 hc
 obtain ⟨vv0,vv1,vv2,vv3,vv4,vv5,vv6,vv7,vv8,vv9,vv10,vv11,vv12,vv13,vv14,vv15,rfl⟩:=len16 vs hc.lv
 have qq0:=okv hc 0
 have qq1:=okv hc 1
 have qq2:=okv hc 2
 have qq3:=okv hc 3
 have qq4:=okv hc 4
 have qq5:=okv hc 5
 have qq6:=okv hc 6
 have qq7:=okv hc 7
 have qq8:=okv hc 8
 have qq9:=okv hc 9
 have qq10:=okv hc 10
 have qq11:=okv hc 11
 have qq12:=okv hc 12
 have qq13:=okv hc 13
 have qq14:=okv hc 14
 have qq15:=okv hc 15
 have BZ:=hc.bel
 clear hc
 have Nt:=Ft.out.on BZ
 have Na:=Fa.out.on BZ
 have Nb:=Fb.out.on BZ
 have Nm:=Fm.out.on BZ
 have Nx:=Fx.out.on BZ
 have NB:=bel_tr BW.out BZ
 clear BW BZ Ft Fa Fb Fm Fx
 subst qq0 qq1 qq2 qq3 qq4 qq5 qq6 qq7 qq8 qq9 qq10 qq11 qq12 qq13 qq14 qq15
 simp only [List.map_cons,List.map_nil,over,Act.put,List.setIfInBounds_toArray,List.set_cons_zero,List.set_cons_succ]
 refine wpAnyH_done (by kernel_rfl) ?_ _
 refine NoPanic.normal ?_
 have Ft:=Lib.hid Nt
 have Fa:=Lib.hid Na
 have Fb:=Lib.hid Nb
 have Fm:=Lib.hid Nm
 have Fx:=Lib.hid Nx
 have BW:=Lib.hid NB
 clear NB Nt Na Nb Nm Nx
 have Lx:=Fx.out.lt
 have cx0:=Fx.out.c0
 have cx1:=Fx.out.c1
 have cx2:=Fx.out.c2
 have cx3:=Fx.out.c3
 have fx0:y2.frozen? ⟨gx,0,none⟩=false:=Fx.out.frozen 0
 have fx1:y2.frozen? ⟨gx,1,none⟩=false:=Fx.out.frozen 1
 have fx2:y2.frozen? ⟨gx,2,none⟩=false:=Fx.out.frozen 2
 have fx3:y2.frozen? ⟨gx,3,none⟩=false:=Fx.out.frozen 3
 go_wp2_with fail
 clear Lx cx0 cx1 cx2 cx3 fx0 fx1 fx2 fx3
 generalize hW3:((((y2.setCell ⟨gx,0,none⟩ (.int .u64 0)).setCell ⟨gx,1,none⟩ (.int .u64 0)).setCell ⟨gx,2,none⟩ (.int .u64 0)).setCell ⟨gx,3,none⟩ (.int .u64 0))=W3 at *
 have Nt:=at_of hW3 ((Ft.out).far4 Dtx _ _ _ _)
 have Na:=at_of hW3 ((Fa.out).far4 Dax _ _ _ _)
 have Nb:=at_of hW3 ((Fb.out).far4 Dbx _ _ _ _)
 have Nm:=at_of hW3 ((Fm.out).far4 Dmx _ _ _ _)
 have Nx:=at_of hW3 ((Fx.out).put4 _ _ _ _)
 have NB:=gr_of hW3 (((((BW.out).setCell Ex _).setCell Ex _).setCell Ex _).setCell Ex _)
 clear hW3 BW Ft Fa Fb Fm Fx
 have Ft:=Lib.hid Nt
 have Fa:=Lib.hid Na
 have Fb:=Lib.hid Nb
 have Fm:=Lib.hid Nm
 have Fx:=Lib.hid Nx
 have BW:=Lib.hid NB
 clear NB Nt Na Nb Nm Nx
 have Lx:=Fx.out.lt
 have cx0:=Fx.out.c0
 have cx1:=Fx.out.c1
 have cx2:=Fx.out.c2
 have cx3:=Fx.out.c3
 refine bodyPost_ret (v:=.tuple #[.agg #[.int .u64 0,.int .u64 0,.int .u64 0,.int .u64 0],.int .i64 1]) (by simp [results,Tryd.results37,go_sem, *]) rfl ⟨rfl,BW.out⟩

set_option maxRecDepth 100000 in
set_option maxHeartbeats 8000000 in
theorem with_bad1 (A B M Z:Nat) (fv:Value) (k j:Int)
  (hk:0<k)
  (hj:0≤j)
  (cO:∀ w,Calls Tryd.prog 30 #[.int .u64 1] w fun e w'=>e=.returned (num Z)∧Below w.heap.size w w')
  (ck:∀ w,Calls Tryd.prog 12 #[num M,num Z] w fun e w'=>e=.returned (.int .i64 k)∧Below w.heap.size w w')
  (cj:∀ w,Calls Tryd.prog 12 #[num A,num M] w fun e w'=>e=.returned (.int .i64 j)∧Below w.heap.size w w')
  (w:World):Calls Tryd.prog 37 #[.agg #[fv],num A,num B,num M] w fun e w'=>e=.returned (.tuple #[.agg #[.int .u64 0,.int .u64 0,.int .u64 0,.int .u64 0],.int .i64 1])∧Below w.heap.size w w':=by
 have HcO:=Lib.hid cO
 have Hck:=Lib.hid ck
 have Hcj:=Lib.hid cj
 clear cO ck cj
 go_enter Tryd.func37,Tryd.ntmps37
 go_wp2_with fail
 have BW:=Lib.hid (Below.refl w.heap.size w)
 have Ex:w.heap.size≤w.heap.size+1+1+1+1:=by have:=BW.out.size;omega
 have Dtx:w.heap.size≠w.heap.size+1+1+1+1:=by omega
 have Dax:w.heap.size+1≠w.heap.size+1+1+1+1:=by omega
 have Dbx:w.heap.size+1+1≠w.heap.size+1+1+1+1:=by omega
 have Dmx:w.heap.size+1+1+1≠w.heap.size+1+1+1+1:=by omega
 generalize hW1:(((((w.alloc (.cells #[fv] 62)).alloc (.cells #[.int .u64 (wd A 0:Nat),.int .u64 (wd A 1:Nat),.int .u64 (wd A 2:Nat),.int .u64 (wd A 3:Nat)] 24)).alloc (.cells #[.int .u64 (wd B 0:Nat),.int .u64 (wd B 1:Nat),.int .u64 (wd B 2:Nat),.int .u64 (wd B 3:Nat)] 24)).alloc (.cells #[.int .u64 (wd M 0:Nat),.int .u64 (wd M 1:Nat),.int .u64 (wd M 2:Nat),.int .u64 (wd M 3:Nat)] 24)).alloc (.cells #[.int .u64 0,.int .u64 0,.int .u64 0,.int .u64 0] 24))=W1 at *
 have Nt:At W1 (w.heap.size) _ _:=at_of hW1 (((((At.at_ _ _ _ _ (by simp)).alloc _).alloc _).alloc _).alloc _)
 have Na:At W1 (w.heap.size+1) _ _:=at_of hW1 ((((At.at_ _ _ _ _ (by simp)).alloc _).alloc _).alloc _)
 have Nb:At W1 (w.heap.size+1+1) _ _:=at_of hW1 (((At.at_ _ _ _ _ (by simp)).alloc _).alloc _)
 have Nm:At W1 (w.heap.size+1+1+1) _ _:=at_of hW1 ((At.at_ _ _ _ _ (by simp)).alloc _)
 have Nx:At W1 (w.heap.size+1+1+1+1) _ _:=at_of hW1 (At.at_ _ _ _ _ (by simp))
 have NB:=gr_of hW1 (gr_alloc (gr_alloc (gr_alloc (gr_alloc (gr_alloc BW.out _) _) _) _) _)
 clear hW1 BW 
 generalize w.heap.size+1+1+1+1=gx at *
 generalize w.heap.size+1+1+1=gm at *
 generalize w.heap.size+1+1=gb at *
 generalize w.heap.size+1=ga at *
 obtain ⟨gt,hg0⟩:∃ g,g=w.heap.size:=⟨_,rfl⟩
 rw [← hg0] at Nt ⊢
 rw [← hg0] at Dtx
 clear hg0
 have Ft:=Lib.hid Nt
 have Fa:=Lib.hid Na
 have Fb:=Lib.hid Nb
 have Fm:=Lib.hid Nm
 have Fx:=Lib.hid Nx
 have BW:=Lib.hid NB
 clear NB Nt Na Nb Nm Nx
 try simp only [List.append_eq,List.cons_append,List.nil_append]
 refine wp_region_noPanic ?_
 refine wp_region_held_drew (S:=fun w'=>At w' gm 24 #[.int .u64 (wd M 0:Nat),.int .u64 (wd M 1:Nat),.int .u64 (wd M 2:Nat),.int .u64 (wd M 3:Nat)]∧At w' ga 24 #[.int .u64 (wd A 0:Nat),.int .u64 (wd A 1:Nat),.int .u64 (wd A 2:Nat),.int .u64 (wd A 3:Nat)]∧At w' gb 24 #[.int .u64 (wd B 0:Nat),.int .u64 (wd B 1:Nat),.int .u64 (wd B 2:Nat),.int .u64 (wd B 3:Nat)]) (by kernel_rfl) (⟨Fm.out.drew,Fa.out.drew,Fb.out.drew⟩) (fun _=>?_)
 refine wpAnyH_cores (fuel:=0) (⟨0,10,[],Kind.val (.agg #[.int .u64 (wd M 0:Nat),.int .u64 (wd M 1:Nat),.int .u64 (wd M 2:Nat),.int .u64 (wd M 3:Nat)]),true⟩::⟨1,11,[0],Kind.val (.agg #[.int .u64 (wd Z 0:Nat),.int .u64 (wd Z 1:Nat),.int .u64 (wd Z 2:Nat),.int .u64 (wd Z 3:Nat)]),false⟩::⟨2,12,[0,1],Kind.val (.int .i64 k),false⟩::⟨3,13,[2],Kind.val (.bool false),true⟩::⟨4,14,[3],Kind.val (.bool false),true⟩::⟨5,15,[4],Kind.val (.agg #[.int .u64 (wd A 0:Nat),.int .u64 (wd A 1:Nat),.int .u64 (wd A 2:Nat),.int .u64 (wd A 3:Nat)]),true⟩::⟨6,16,[4,5],Kind.val (.agg #[.int .u64 (wd M 0:Nat),.int .u64 (wd M 1:Nat),.int .u64 (wd M 2:Nat),.int .u64 (wd M 3:Nat)]),true⟩::⟨7,17,[4,5,6],Kind.val (.int .i64 j),false⟩::⟨8,18,[4,7],Kind.val (.bool true),true⟩::⟨9,19,[4,8],Kind.val (.bool true),true⟩::⟨10,20,[9],Kind.val (.bool true),true⟩::⟨11,21,[10],Kind.val (undef),true⟩::⟨12,22,[10,11],Kind.val (undef),true⟩::⟨13,23,[10,11,12],Kind.val (undef),true⟩::⟨14,24,[10,13],Kind.val (undef),true⟩::⟨15,25,[10,14],Kind.val (.bool true),true⟩::[]) _ _ W1 _ ?_ ?_ ?_ ?_ ?_ ?_ ?_ ?_ ?_ ?_ ?_
 ·rfl
 ·kernel_rfl
 ·exact of_decide_eq_true (by kernel_rfl)
 ·(repeat refine all_cons ⟨_,by rfl,by rfl⟩ ?_);exact all_nil
 ·exact fun _ hb=>⟨Fm.out.on hb,Fa.out.on hb,Fb.out.on hb⟩
 ·exact (Below.refl _ _).drew
 ·kernel_rfl
 ·exact fun _ _ _ _ _ h=>h
 ·(repeat (refine all_cons ?_ ?_;rotate_left));exact all_nil
  ·exact coreG_loadP _ _ _ _ _ _ gm _ _ _ _ (by rfl) (by rfl) (wants_none) (ko 7) (fun _ hs=>hs.1)
  ·exact core_pureAs _ (by rfl)
  ·exact core_pureAs _ (by rfl)
  ·exact coreG_bin _ _ _ _ _ _ _ _ _ _ _ _ _ (by rfl) (by rfl) (wants_none) (kc 2 12) (known_const _) ((fun ρ w hx hy=>by simp only [execOp,hx,hy];simp [go_sem];exact hk))
  ·exact coreG_move _ _ _ _ _ _ _ (by rfl) (by rfl) (wants_none) (kc 3 13)
  ·exact coreG_loadP _ _ _ _ _ _ ga _ _ _ _ (by rfl) (by rfl) (wc 4 14 4 (kc 4 14)) (ko 5) (fun _ hs=>hs.2.1)
  ·exact coreG_loadP _ _ _ _ _ _ gm _ _ _ _ (by rfl) (by rfl) (wc 4 14 4 (kc 4 14)) (ko 7) (fun _ hs=>hs.1)
  ·exact core_pureAs _ (by rfl)
  ·exact coreG_bin _ _ _ _ _ _ _ _ _ _ _ _ _ (by rfl) (by rfl) (wc 4 14 4 (kc 4 14)) (kc 7 17) (known_const _) ((fun ρ w hx hy=>by simp only [execOp,hx,hy];simp [go_sem];exact hj))
  ·exact coreG_pick _ _ _ _ _ _ _ _ _ _ _ _ (by rfl) (by rfl) (wants_none) (kc 4 14) (known_const _) (kc 8 18) (by rfl)
  ·exact coreG_move _ _ _ _ _ _ _ (by rfl) (by rfl) (wants_none) (kc 9 19)
  ·exact coreG_skip _ _ _ _ _ _ (by rfl) (by rfl) (wc 10 20 10 (kc 10 20))
  ·exact coreG_skip _ _ _ _ _ _ (by rfl) (by rfl) (wc 10 20 10 (kc 10 20))
  ·exact coreG_skip _ _ _ _ _ _ (by rfl) (by rfl) (wc 10 20 10 (kc 10 20))
  ·exact coreG_skip _ _ _ _ _ _ (by rfl) (by rfl) (wc 10 20 10 (kc 10 20))
  ·exact coreG_pick _ _ _ _ _ _ _ _ _ _ _ _ (by rfl) (by rfl) (wants_none) (kc 10 20) (known_const _) (kc 14 24) (by rfl)
 ·(repeat (refine all_cons ?_ ?_;rotate_left));exact all_nil
  ·exact sA
  ·exact fun _=>coreG_call _ 30 _ _ [.const (.int .u64 1)] _ _ _ _ _ _ _ (by rfl) Tryd.func30 (by kernel_rfl) (by rfl) (by rfl) (wants_none) (.cons (known_const _) .nil) (HcO.out)
  ·exact fun _=>coreG_call _ 12 _ _ [.tmp 10,.tmp 11] _ _ _ _ _ _ _ (by rfl) Tryd.func12 (by kernel_rfl) (by rfl) (by rfl) (wants_none) (.cons (kc 0 10) (.cons (kc 1 11) .nil)) (Hck.out)
  ·exact sA
  ·exact sA
  ·exact sA
  ·exact sA
  ·exact fun _=>coreG_call _ 12 _ _ [.tmp 15,.tmp 16] _ _ _ _ _ _ _ (by rfl) Tryd.func12 (by kernel_rfl) (by rfl) (by rfl) (wc 4 14 4 (kc 4 14)) (.cons (kc 5 15) (.cons (kc 6 16) .nil)) (Hcj.out)
  ·exact sA
  ·exact sA
  ·exact sA
  ·exact sA
  ·exact sA
  ·exact sA
  ·exact sA
  ·exact sA
 intro vs y2 hc
 obtain ⟨vv0,vv1,vv2,vv3,vv4,vv5,vv6,vv7,vv8,vv9,vv10,vv11,vv12,vv13,vv14,vv15,rfl⟩:=len16 vs hc.lv
 have qq0:=okv hc 0
 have qq1:=okv hc 1
 have qq2:=okv hc 2
 have qq3:=okv hc 3
 have qq4:=okv hc 4
 have qq5:=okv hc 5
 have qq6:=okv hc 6
 have qq7:=okv hc 7
 have qq8:=okv hc 8
 have qq9:=okv hc 9
 have qq10:=okv hc 10
 have qq11:=okv hc 11
 have qq12:=okv hc 12
 have qq13:=okv hc 13
 have qq14:=okv hc 14
 have qq15:=okv hc 15
 have BZ:=hc.bel
 clear hc
 have Nt:=Ft.out.on BZ
 have Na:=Fa.out.on BZ
 have Nb:=Fb.out.on BZ
 have Nm:=Fm.out.on BZ
 have Nx:=Fx.out.on BZ
 have NB:=bel_tr BW.out BZ
 clear BW BZ Ft Fa Fb Fm Fx
 subst qq0 qq1 qq2 qq3 qq4 qq5 qq6 qq7 qq8 qq9 qq10 qq11 qq12 qq13 qq14 qq15
 simp only [List.map_cons,List.map_nil,over,Act.put,List.setIfInBounds_toArray,List.set_cons_zero,List.set_cons_succ]
 refine wpAnyH_done (by kernel_rfl) ?_ _
 refine NoPanic.normal ?_
 have Ft:=Lib.hid Nt
 have Fa:=Lib.hid Na
 have Fb:=Lib.hid Nb
 have Fm:=Lib.hid Nm
 have Fx:=Lib.hid Nx
 have BW:=Lib.hid NB
 clear NB Nt Na Nb Nm Nx
 have Lx:=Fx.out.lt
 have cx0:=Fx.out.c0
 have cx1:=Fx.out.c1
 have cx2:=Fx.out.c2
 have cx3:=Fx.out.c3
 have fx0:y2.frozen? ⟨gx,0,none⟩=false:=Fx.out.frozen 0
 have fx1:y2.frozen? ⟨gx,1,none⟩=false:=Fx.out.frozen 1
 have fx2:y2.frozen? ⟨gx,2,none⟩=false:=Fx.out.frozen 2
 have fx3:y2.frozen? ⟨gx,3,none⟩=false:=Fx.out.frozen 3
 go_wp2_with fail
 clear Lx cx0 cx1 cx2 cx3 fx0 fx1 fx2 fx3
 generalize hW3:((((y2.setCell ⟨gx,0,none⟩ (.int .u64 0)).setCell ⟨gx,1,none⟩ (.int .u64 0)).setCell ⟨gx,2,none⟩ (.int .u64 0)).setCell ⟨gx,3,none⟩ (.int .u64 0))=W3 at *
 have Nt:=at_of hW3 ((Ft.out).far4 Dtx _ _ _ _)
 have Na:=at_of hW3 ((Fa.out).far4 Dax _ _ _ _)
 have Nb:=at_of hW3 ((Fb.out).far4 Dbx _ _ _ _)
 have Nm:=at_of hW3 ((Fm.out).far4 Dmx _ _ _ _)
 have Nx:=at_of hW3 ((Fx.out).put4 _ _ _ _)
 have NB:=gr_of hW3 (((((BW.out).setCell Ex _).setCell Ex _).setCell Ex _).setCell Ex _)
 clear hW3 BW Ft Fa Fb Fm Fx
 have Ft:=Lib.hid Nt
 have Fa:=Lib.hid Na
 have Fb:=Lib.hid Nb
 have Fm:=Lib.hid Nm
 have Fx:=Lib.hid Nx
 have BW:=Lib.hid NB
 clear NB Nt Na Nb Nm Nx
 have Lx:=Fx.out.lt
 have cx0:=Fx.out.c0
 have cx1:=Fx.out.c1
 have cx2:=Fx.out.c2
 have cx3:=Fx.out.c3
 refine bodyPost_ret (v:=.tuple #[.agg #[.int .u64 0,.int .u64 0,.int .u64 0,.int .u64 0],.int .i64 1]) (by simp [results,Tryd.results37,go_sem, *]) rfl ⟨rfl,BW.out⟩

set_option maxRecDepth 100000 in
set_option maxHeartbeats 8000000 in
theorem with_bad2 (A B M Z:Nat) (fv:Value) (k j i:Int)
  (hk:0<k)
  (hj:j<0)
  (hi:0≤i)
  (cO:∀ w,Calls Tryd.prog 30 #[.int .u64 1] w fun e w'=>e=.returned (num Z)∧Below w.heap.size w w')
  (ck:∀ w,Calls Tryd.prog 12 #[num M,num Z] w fun e w'=>e=.returned (.int .i64 k)∧Below w.heap.size w w')
  (cj:∀ w,Calls Tryd.prog 12 #[num A,num M] w fun e w'=>e=.returned (.int .i64 j)∧Below w.heap.size w w')
  (ci:∀ w,Calls Tryd.prog 12 #[num B,num M] w fun e w'=>e=.returned (.int .i64 i)∧Below w.heap.size w w')
  (w:World):Calls Tryd.prog 37 #[.agg #[fv],num A,num B,num M] w fun e w'=>e=.returned (.tuple #[.agg #[.int .u64 0,.int .u64 0,.int .u64 0,.int .u64 0],.int .i64 1])∧Below w.heap.size w w':=by
 have HcO:=Lib.hid cO
 have Hck:=Lib.hid ck
 have Hcj:=Lib.hid cj
 have Hci:=Lib.hid ci
 clear cO ck cj ci
 go_enter Tryd.func37,Tryd.ntmps37
 go_wp2_with fail
 have BW:=Lib.hid (Below.refl w.heap.size w)
 have Ex:w.heap.size≤w.heap.size+1+1+1+1:=by have:=BW.out.size;omega
 have Dtx:w.heap.size≠w.heap.size+1+1+1+1:=by omega
 have Dax:w.heap.size+1≠w.heap.size+1+1+1+1:=by omega
 have Dbx:w.heap.size+1+1≠w.heap.size+1+1+1+1:=by omega
 have Dmx:w.heap.size+1+1+1≠w.heap.size+1+1+1+1:=by omega
 generalize hW1:(((((w.alloc (.cells #[fv] 62)).alloc (.cells #[.int .u64 (wd A 0:Nat),.int .u64 (wd A 1:Nat),.int .u64 (wd A 2:Nat),.int .u64 (wd A 3:Nat)] 24)).alloc (.cells #[.int .u64 (wd B 0:Nat),.int .u64 (wd B 1:Nat),.int .u64 (wd B 2:Nat),.int .u64 (wd B 3:Nat)] 24)).alloc (.cells #[.int .u64 (wd M 0:Nat),.int .u64 (wd M 1:Nat),.int .u64 (wd M 2:Nat),.int .u64 (wd M 3:Nat)] 24)).alloc (.cells #[.int .u64 0,.int .u64 0,.int .u64 0,.int .u64 0] 24))=W1 at *
 have Nt:At W1 (w.heap.size) _ _:=at_of hW1 (((((At.at_ _ _ _ _ (by simp)).alloc _).alloc _).alloc _).alloc _)
 have Na:At W1 (w.heap.size+1) _ _:=at_of hW1 ((((At.at_ _ _ _ _ (by simp)).alloc _).alloc _).alloc _)
 have Nb:At W1 (w.heap.size+1+1) _ _:=at_of hW1 (((At.at_ _ _ _ _ (by simp)).alloc _).alloc _)
 have Nm:At W1 (w.heap.size+1+1+1) _ _:=at_of hW1 ((At.at_ _ _ _ _ (by simp)).alloc _)
 have Nx:At W1 (w.heap.size+1+1+1+1) _ _:=at_of hW1 (At.at_ _ _ _ _ (by simp))
 have NB:=gr_of hW1 (gr_alloc (gr_alloc (gr_alloc (gr_alloc (gr_alloc BW.out _) _) _) _) _)
 clear hW1 BW 
 generalize w.heap.size+1+1+1+1=gx at *
 generalize w.heap.size+1+1+1=gm at *
 generalize w.heap.size+1+1=gb at *
 generalize w.heap.size+1=ga at *
 obtain ⟨gt,hg0⟩:∃ g,g=w.heap.size:=⟨_,rfl⟩
 rw [← hg0] at Nt ⊢
 rw [← hg0] at Dtx
 clear hg0
 have Ft:=Lib.hid Nt
 have Fa:=Lib.hid Na
 have Fb:=Lib.hid Nb
 have Fm:=Lib.hid Nm
 have Fx:=Lib.hid Nx
 have BW:=Lib.hid NB
 clear NB Nt Na Nb Nm Nx
 try simp only [List.append_eq,List.cons_append,List.nil_append]
 refine wp_region_noPanic ?_
 refine wp_region_held_drew (S:=fun w'=>At w' gm 24 #[.int .u64 (wd M 0:Nat),.int .u64 (wd M 1:Nat),.int .u64 (wd M 2:Nat),.int .u64 (wd M 3:Nat)]∧At w' ga 24 #[.int .u64 (wd A 0:Nat),.int .u64 (wd A 1:Nat),.int .u64 (wd A 2:Nat),.int .u64 (wd A 3:Nat)]∧At w' gb 24 #[.int .u64 (wd B 0:Nat),.int .u64 (wd B 1:Nat),.int .u64 (wd B 2:Nat),.int .u64 (wd B 3:Nat)]) (by kernel_rfl) (⟨Fm.out.drew,Fa.out.drew,Fb.out.drew⟩) (fun _=>?_)
 refine wpAnyH_cores (fuel:=0) (⟨0,10,[],Kind.val (.agg #[.int .u64 (wd M 0:Nat),.int .u64 (wd M 1:Nat),.int .u64 (wd M 2:Nat),.int .u64 (wd M 3:Nat)]),true⟩::⟨1,11,[0],Kind.val (.agg #[.int .u64 (wd Z 0:Nat),.int .u64 (wd Z 1:Nat),.int .u64 (wd Z 2:Nat),.int .u64 (wd Z 3:Nat)]),false⟩::⟨2,12,[0,1],Kind.val (.int .i64 k),false⟩::⟨3,13,[2],Kind.val (.bool false),true⟩::⟨4,14,[3],Kind.val (.bool false),true⟩::⟨5,15,[4],Kind.val (.agg #[.int .u64 (wd A 0:Nat),.int .u64 (wd A 1:Nat),.int .u64 (wd A 2:Nat),.int .u64 (wd A 3:Nat)]),true⟩::⟨6,16,[4,5],Kind.val (.agg #[.int .u64 (wd M 0:Nat),.int .u64 (wd M 1:Nat),.int .u64 (wd M 2:Nat),.int .u64 (wd M 3:Nat)]),true⟩::⟨7,17,[4,5,6],Kind.val (.int .i64 j),false⟩::⟨8,18,[4,7],Kind.val (.bool false),true⟩::⟨9,19,[4,8],Kind.val (.bool false),true⟩::⟨10,20,[9],Kind.val (.bool false),true⟩::⟨11,21,[10],Kind.val (.agg #[.int .u64 (wd B 0:Nat),.int .u64 (wd B 1:Nat),.int .u64 (wd B 2:Nat),.int .u64 (wd B 3:Nat)]),true⟩::⟨12,22,[10,11],Kind.val (.agg #[.int .u64 (wd M 0:Nat),.int .u64 (wd M 1:Nat),.int .u64 (wd M 2:Nat),.int .u64 (wd M 3:Nat)]),true⟩::⟨13,23,[10,11,12],Kind.val (.int .i64 i),false⟩::⟨14,24,[10,13],Kind.val (.bool true),true⟩::⟨15,25,[10,14],Kind.val (.bool true),true⟩::[]) _ _ W1 _ ?_ ?_ ?_ ?_ ?_ ?_ ?_ ?_ ?_ ?_ ?_
 ·rfl
 ·kernel_rfl
 ·exact of_decide_eq_true (by kernel_rfl)
 ·(repeat refine all_cons ⟨_,by rfl,by rfl⟩ ?_);exact all_nil
 ·exact fun _ hb=>⟨Fm.out.on hb,Fa.out.on hb,Fb.out.on hb⟩
 ·exact (Below.refl _ _).drew
 ·kernel_rfl
 ·exact fun _ _ _ _ _ h=>h
 ·(repeat (refine all_cons ?_ ?_;rotate_left));exact all_nil
  ·exact coreG_loadP _ _ _ _ _ _ gm _ _ _ _ (by rfl) (by rfl) (wants_none) (ko 7) (fun _ hs=>hs.1)
  ·exact core_pureAs _ (by rfl)
  ·exact core_pureAs _ (by rfl)
  ·exact coreG_bin _ _ _ _ _ _ _ _ _ _ _ _ _ (by rfl) (by rfl) (wants_none) (kc 2 12) (known_const _) ((fun ρ w hx hy=>by simp only [execOp,hx,hy];simp [go_sem];exact hk))
  ·exact coreG_move _ _ _ _ _ _ _ (by rfl) (by rfl) (wants_none) (kc 3 13)
  ·exact coreG_loadP _ _ _ _ _ _ ga _ _ _ _ (by rfl) (by rfl) (wc 4 14 4 (kc 4 14)) (ko 5) (fun _ hs=>hs.2.1)
  ·exact coreG_loadP _ _ _ _ _ _ gm _ _ _ _ (by rfl) (by rfl) (wc 4 14 4 (kc 4 14)) (ko 7) (fun _ hs=>hs.1)
  ·exact core_pureAs _ (by rfl)
  ·exact coreG_bin _ _ _ _ _ _ _ _ _ _ _ _ _ (by rfl) (by rfl) (wc 4 14 4 (kc 4 14)) (kc 7 17) (known_const _) ((fun ρ w hx hy=>by simp only [execOp,hx,hy];simp [go_sem];exact hj))
  ·exact coreG_pick _ _ _ _ _ _ _ _ _ _ _ _ (by rfl) (by rfl) (wants_none) (kc 4 14) (known_const _) (kc 8 18) (by rfl)
  ·exact coreG_move _ _ _ _ _ _ _ (by rfl) (by rfl) (wants_none) (kc 9 19)
  ·exact coreG_loadP _ _ _ _ _ _ gb _ _ _ _ (by rfl) (by rfl) (wc 10 20 10 (kc 10 20)) (ko 6) (fun _ hs=>hs.2.2)
  ·exact coreG_loadP _ _ _ _ _ _ gm _ _ _ _ (by rfl) (by rfl) (wc 10 20 10 (kc 10 20)) (ko 7) (fun _ hs=>hs.1)
  ·exact core_pureAs _ (by rfl)
  ·exact coreG_bin _ _ _ _ _ _ _ _ _ _ _ _ _ (by rfl) (by rfl) (wc 10 20 10 (kc 10 20)) (kc 13 23) (known_const _) ((fun ρ w hx hy=>by simp only [execOp,hx,hy];simp [go_sem];exact hi))
  ·exact coreG_pick _ _ _ _ _ _ _ _ _ _ _ _ (by rfl) (by rfl) (wants_none) (kc 10 20) (known_const _) (kc 14 24) (by rfl)
 ·(repeat (refine all_cons ?_ ?_;rotate_left));exact all_nil
  ·exact sA
  ·exact fun _=>coreG_call _ 30 _ _ [.const (.int .u64 1)] _ _ _ _ _ _ _ (by rfl) Tryd.func30 (by kernel_rfl) (by rfl) (by rfl) (wants_none) (.cons (known_const _) .nil) (HcO.out)
  ·exact fun _=>coreG_call _ 12 _ _ [.tmp 10,.tmp 11] _ _ _ _ _ _ _ (by rfl) Tryd.func12 (by kernel_rfl) (by rfl) (by rfl) (wants_none) (.cons (kc 0 10) (.cons (kc 1 11) .nil)) (Hck.out)
  ·exact sA
  ·exact sA
  ·exact sA
  ·exact sA
  ·exact fun _=>coreG_call _ 12 _ _ [.tmp 15,.tmp 16] _ _ _ _ _ _ _ (by rfl) Tryd.func12 (by kernel_rfl) (by rfl) (by rfl) (wc 4 14 4 (kc 4 14)) (.cons (kc 5 15) (.cons (kc 6 16) .nil)) (Hcj.out)
  ·exact sA
  ·exact sA
  ·exact sA
  ·exact sA
  ·exact sA
  ·exact fun _=>coreG_call _ 12 _ _ [.tmp 21,.tmp 22] _ _ _ _ _ _ _ (by rfl) Tryd.func12 (by kernel_rfl) (by rfl) (by rfl) (wc 10 20 10 (kc 10 20)) (.cons (kc 11 21) (.cons (kc 12 22) .nil)) (Hci.out)
  ·exact sA
  ·exact sA
 intro vs y2 hc
 obtain ⟨vv0,vv1,vv2,vv3,vv4,vv5,vv6,vv7,vv8,vv9,vv10,vv11,vv12,vv13,vv14,vv15,rfl⟩:=len16 vs hc.lv
 have qq0:=okv hc 0
 have qq1:=okv hc 1
 have qq2:=okv hc 2
 have qq3:=okv hc 3
 have qq4:=okv hc 4
 have qq5:=okv hc 5
 have qq6:=okv hc 6
 have qq7:=okv hc 7
 have qq8:=okv hc 8
 have qq9:=okv hc 9
 have qq10:=okv hc 10
 have qq11:=okv hc 11
 have qq12:=okv hc 12
 have qq13:=okv hc 13
 have qq14:=okv hc 14
 have qq15:=okv hc 15
 have BZ:=hc.bel
 clear hc
 have Nt:=Ft.out.on BZ
 have Na:=Fa.out.on BZ
 have Nb:=Fb.out.on BZ
 have Nm:=Fm.out.on BZ
 have Nx:=Fx.out.on BZ
 have NB:=bel_tr BW.out BZ
 clear BW BZ Ft Fa Fb Fm Fx
 subst qq0 qq1 qq2 qq3 qq4 qq5 qq6 qq7 qq8 qq9 qq10 qq11 qq12 qq13 qq14 qq15
 simp only [List.map_cons,List.map_nil,over,Act.put,List.setIfInBounds_toArray,List.set_cons_zero,List.set_cons_succ]
 refine wpAnyH_done (by kernel_rfl) ?_ _
 refine NoPanic.normal ?_
 have Ft:=Lib.hid Nt
 have Fa:=Lib.hid Na
 have Fb:=Lib.hid Nb
 have Fm:=Lib.hid Nm
 have Fx:=Lib.hid Nx
 have BW:=Lib.hid NB
 clear NB Nt Na Nb Nm Nx
 have Lx:=Fx.out.lt
 have cx0:=Fx.out.c0
 have cx1:=Fx.out.c1
 have cx2:=Fx.out.c2
 have cx3:=Fx.out.c3
 have fx0:y2.frozen? ⟨gx,0,none⟩=false:=Fx.out.frozen 0
 have fx1:y2.frozen? ⟨gx,1,none⟩=false:=Fx.out.frozen 1
 have fx2:y2.frozen? ⟨gx,2,none⟩=false:=Fx.out.frozen 2
 have fx3:y2.frozen? ⟨gx,3,none⟩=false:=Fx.out.frozen 3
 go_wp2_with fail
 clear Lx cx0 cx1 cx2 cx3 fx0 fx1 fx2 fx3
 generalize hW3:((((y2.setCell ⟨gx,0,none⟩ (.int .u64 0)).setCell ⟨gx,1,none⟩ (.int .u64 0)).setCell ⟨gx,2,none⟩ (.int .u64 0)).setCell ⟨gx,3,none⟩ (.int .u64 0))=W3 at *
 have Nt:=at_of hW3 ((Ft.out).far4 Dtx _ _ _ _)
 have Na:=at_of hW3 ((Fa.out).far4 Dax _ _ _ _)
 have Nb:=at_of hW3 ((Fb.out).far4 Dbx _ _ _ _)
 have Nm:=at_of hW3 ((Fm.out).far4 Dmx _ _ _ _)
 have Nx:=at_of hW3 ((Fx.out).put4 _ _ _ _)
 have NB:=gr_of hW3 (((((BW.out).setCell Ex _).setCell Ex _).setCell Ex _).setCell Ex _)
 clear hW3 BW Ft Fa Fb Fm Fx
 have Ft:=Lib.hid Nt
 have Fa:=Lib.hid Na
 have Fb:=Lib.hid Nb
 have Fm:=Lib.hid Nm
 have Fx:=Lib.hid Nx
 have BW:=Lib.hid NB
 clear NB Nt Na Nb Nm Nx
 have Lx:=Fx.out.lt
 have cx0:=Fx.out.c0
 have cx1:=Fx.out.c1
 have cx2:=Fx.out.c2
 have cx3:=Fx.out.c3
 refine bodyPost_ret (v:=.tuple #[.agg #[.int .u64 0,.int .u64 0,.int .u64 0,.int .u64 0],.int .i64 1]) (by simp [results,Tryd.results37,go_sem, *]) rfl ⟨rfl,BW.out⟩

set_option maxRecDepth 100000 in
set_option maxHeartbeats 8000000 in
theorem with_sum (A B M Z V:Nat) (k j i er:Int)
  (hk:0<k)
  (hj:j<0)
  (hi:i<0)
  (cO:∀ w,Calls Tryd.prog 30 #[.int .u64 1] w fun e w'=>e=.returned (num Z)∧Below w.heap.size w w')
  (ck:∀ w,Calls Tryd.prog 12 #[num M,num Z] w fun e w'=>e=.returned (.int .i64 k)∧Below w.heap.size w w')
  (cj:∀ w,Calls Tryd.prog 12 #[num A,num M] w fun e w'=>e=.returned (.int .i64 j)∧Below w.heap.size w w')
  (ci:∀ w,Calls Tryd.prog 12 #[num B,num M] w fun e w'=>e=.returned (.int .i64 i)∧Below w.heap.size w w')
  (cd:∀ w,Calls Tryd.prog 46 #[num A,num B,num M] w fun e w'=>e=.returned (.tuple #[num V,.int .i64 er])∧Below w.heap.size w w')
  (w:World):Calls Tryd.prog 37 #[.agg #[.func (.func 46) #[] #[]],num A,num B,num M] w fun e w'=>e=.returned (.tuple #[num V,.int .i64 er])∧Below w.heap.size w w':=by
 have HcO:=Lib.hid cO
 have Hck:=Lib.hid ck
 have Hcj:=Lib.hid cj
 have Hci:=Lib.hid ci
 have Hcd:=Lib.hid cd
 clear cO ck cj ci cd
 go_enter Tryd.func37,Tryd.ntmps37
 go_wp2_with fail
 have BW:=Lib.hid (Below.refl w.heap.size w)
 have Ex:w.heap.size≤w.heap.size+1+1+1+1:=by have:=BW.out.size;omega
 have Dtx:w.heap.size≠w.heap.size+1+1+1+1:=by omega
 have Dax:w.heap.size+1≠w.heap.size+1+1+1+1:=by omega
 have Dbx:w.heap.size+1+1≠w.heap.size+1+1+1+1:=by omega
 have Dmx:w.heap.size+1+1+1≠w.heap.size+1+1+1+1:=by omega
 generalize hW1:(((((w.alloc (.cells #[.func (.func 46) #[] #[]] 62)).alloc (.cells #[.int .u64 (wd A 0:Nat),.int .u64 (wd A 1:Nat),.int .u64 (wd A 2:Nat),.int .u64 (wd A 3:Nat)] 24)).alloc (.cells #[.int .u64 (wd B 0:Nat),.int .u64 (wd B 1:Nat),.int .u64 (wd B 2:Nat),.int .u64 (wd B 3:Nat)] 24)).alloc (.cells #[.int .u64 (wd M 0:Nat),.int .u64 (wd M 1:Nat),.int .u64 (wd M 2:Nat),.int .u64 (wd M 3:Nat)] 24)).alloc (.cells #[.int .u64 0,.int .u64 0,.int .u64 0,.int .u64 0] 24))=W1 at *
 have Nt:At W1 (w.heap.size) _ _:=at_of hW1 (((((At.at_ _ _ _ _ (by simp)).alloc _).alloc _).alloc _).alloc _)
 have Na:At W1 (w.heap.size+1) _ _:=at_of hW1 ((((At.at_ _ _ _ _ (by simp)).alloc _).alloc _).alloc _)
 have Nb:At W1 (w.heap.size+1+1) _ _:=at_of hW1 (((At.at_ _ _ _ _ (by simp)).alloc _).alloc _)
 have Nm:At W1 (w.heap.size+1+1+1) _ _:=at_of hW1 ((At.at_ _ _ _ _ (by simp)).alloc _)
 have Nx:At W1 (w.heap.size+1+1+1+1) _ _:=at_of hW1 (At.at_ _ _ _ _ (by simp))
 have NB:=gr_of hW1 (gr_alloc (gr_alloc (gr_alloc (gr_alloc (gr_alloc BW.out _) _) _) _) _)
 clear hW1 BW 
 generalize w.heap.size+1+1+1+1=gx at *
 generalize w.heap.size+1+1+1=gm at *
 generalize w.heap.size+1+1=gb at *
 generalize w.heap.size+1=ga at *
 obtain ⟨gt,hg0⟩:∃ g,g=w.heap.size:=⟨_,rfl⟩
 rw [← hg0] at Nt ⊢
 rw [← hg0] at Dtx
 clear hg0
 have Ft:=Lib.hid Nt
 have Fa:=Lib.hid Na
 have Fb:=Lib.hid Nb
 have Fm:=Lib.hid Nm
 have Fx:=Lib.hid Nx
 have BW:=Lib.hid NB
 clear NB Nt Na Nb Nm Nx
 try simp only [List.append_eq,List.cons_append,List.nil_append]
 refine wp_region_noPanic ?_
 refine wp_region_held_drew (S:=fun w'=>At w' gm 24 #[.int .u64 (wd M 0:Nat),.int .u64 (wd M 1:Nat),.int .u64 (wd M 2:Nat),.int .u64 (wd M 3:Nat)]∧At w' ga 24 #[.int .u64 (wd A 0:Nat),.int .u64 (wd A 1:Nat),.int .u64 (wd A 2:Nat),.int .u64 (wd A 3:Nat)]∧At w' gb 24 #[.int .u64 (wd B 0:Nat),.int .u64 (wd B 1:Nat),.int .u64 (wd B 2:Nat),.int .u64 (wd B 3:Nat)]) (by kernel_rfl) (⟨Fm.out.drew,Fa.out.drew,Fb.out.drew⟩) (fun _=>?_)
 refine wpAnyH_cores (fuel:=0) (⟨0,10,[],Kind.val (.agg #[.int .u64 (wd M 0:Nat),.int .u64 (wd M 1:Nat),.int .u64 (wd M 2:Nat),.int .u64 (wd M 3:Nat)]),true⟩::⟨1,11,[0],Kind.val (.agg #[.int .u64 (wd Z 0:Nat),.int .u64 (wd Z 1:Nat),.int .u64 (wd Z 2:Nat),.int .u64 (wd Z 3:Nat)]),false⟩::⟨2,12,[0,1],Kind.val (.int .i64 k),false⟩::⟨3,13,[2],Kind.val (.bool false),true⟩::⟨4,14,[3],Kind.val (.bool false),true⟩::⟨5,15,[4],Kind.val (.agg #[.int .u64 (wd A 0:Nat),.int .u64 (wd A 1:Nat),.int .u64 (wd A 2:Nat),.int .u64 (wd A 3:Nat)]),true⟩::⟨6,16,[4,5],Kind.val (.agg #[.int .u64 (wd M 0:Nat),.int .u64 (wd M 1:Nat),.int .u64 (wd M 2:Nat),.int .u64 (wd M 3:Nat)]),true⟩::⟨7,17,[4,5,6],Kind.val (.int .i64 j),false⟩::⟨8,18,[4,7],Kind.val (.bool false),true⟩::⟨9,19,[4,8],Kind.val (.bool false),true⟩::⟨10,20,[9],Kind.val (.bool false),true⟩::⟨11,21,[10],Kind.val (.agg #[.int .u64 (wd B 0:Nat),.int .u64 (wd B 1:Nat),.int .u64 (wd B 2:Nat),.int .u64 (wd B 3:Nat)]),true⟩::⟨12,22,[10,11],Kind.val (.agg #[.int .u64 (wd M 0:Nat),.int .u64 (wd M 1:Nat),.int .u64 (wd M 2:Nat),.int .u64 (wd M 3:Nat)]),true⟩::⟨13,23,[10,11,12],Kind.val (.int .i64 i),false⟩::⟨14,24,[10,13],Kind.val (.bool false),true⟩::⟨15,25,[10,14],Kind.val (.bool false),true⟩::[]) _ _ W1 _ ?_ ?_ ?_ ?_ ?_ ?_ ?_ ?_ ?_ ?_ ?_
 ·rfl
 ·kernel_rfl
 ·exact of_decide_eq_true (by kernel_rfl)
 ·(repeat refine all_cons ⟨_,by rfl,by rfl⟩ ?_);exact all_nil
 ·exact fun _ hb=>⟨Fm.out.on hb,Fa.out.on hb,Fb.out.on hb⟩
 ·exact (Below.refl _ _).drew
 ·kernel_rfl
 ·exact fun _ _ _ _ _ h=>h
 ·(repeat (refine all_cons ?_ ?_;rotate_left));exact all_nil
  ·exact coreG_loadP _ _ _ _ _ _ gm _ _ _ _ (by rfl) (by rfl) (wants_none) (ko 7) (fun _ hs=>hs.1)
  ·exact core_pureAs _ (by rfl)
  ·exact core_pureAs _ (by rfl)
  ·exact coreG_bin _ _ _ _ _ _ _ _ _ _ _ _ _ (by rfl) (by rfl) (wants_none) (kc 2 12) (known_const _) ((fun ρ w hx hy=>by simp only [execOp,hx,hy];simp [go_sem];exact hk))
  ·exact coreG_move _ _ _ _ _ _ _ (by rfl) (by rfl) (wants_none) (kc 3 13)
  ·exact coreG_loadP _ _ _ _ _ _ ga _ _ _ _ (by rfl) (by rfl) (wc 4 14 4 (kc 4 14)) (ko 5) (fun _ hs=>hs.2.1)
  ·exact coreG_loadP _ _ _ _ _ _ gm _ _ _ _ (by rfl) (by rfl) (wc 4 14 4 (kc 4 14)) (ko 7) (fun _ hs=>hs.1)
  ·exact core_pureAs _ (by rfl)
  ·exact coreG_bin _ _ _ _ _ _ _ _ _ _ _ _ _ (by rfl) (by rfl) (wc 4 14 4 (kc 4 14)) (kc 7 17) (known_const _) ((fun ρ w hx hy=>by simp only [execOp,hx,hy];simp [go_sem];exact hj))
  ·exact coreG_pick _ _ _ _ _ _ _ _ _ _ _ _ (by rfl) (by rfl) (wants_none) (kc 4 14) (known_const _) (kc 8 18) (by rfl)
  ·exact coreG_move _ _ _ _ _ _ _ (by rfl) (by rfl) (wants_none) (kc 9 19)
  ·exact coreG_loadP _ _ _ _ _ _ gb _ _ _ _ (by rfl) (by rfl) (wc 10 20 10 (kc 10 20)) (ko 6) (fun _ hs=>hs.2.2)
  ·exact coreG_loadP _ _ _ _ _ _ gm _ _ _ _ (by rfl) (by rfl) (wc 10 20 10 (kc 10 20)) (ko 7) (fun _ hs=>hs.1)
  ·exact core_pureAs _ (by rfl)
  ·exact coreG_bin _ _ _ _ _ _ _ _ _ _ _ _ _ (by rfl) (by rfl) (wc 10 20 10 (kc 10 20)) (kc 13 23) (known_const _) ((fun ρ w hx hy=>by simp only [execOp,hx,hy];simp [go_sem];exact hi))
  ·exact coreG_pick _ _ _ _ _ _ _ _ _ _ _ _ (by rfl) (by rfl) (wants_none) (kc 10 20) (known_const _) (kc 14 24) (by rfl)
 ·(repeat (refine all_cons ?_ ?_;rotate_left));exact all_nil
  ·exact sA
  ·exact fun _=>coreG_call _ 30 _ _ [.const (.int .u64 1)] _ _ _ _ _ _ _ (by rfl) Tryd.func30 (by kernel_rfl) (by rfl) (by rfl) (wants_none) (.cons (known_const _) .nil) (HcO.out)
  ·exact fun _=>coreG_call _ 12 _ _ [.tmp 10,.tmp 11] _ _ _ _ _ _ _ (by rfl) Tryd.func12 (by kernel_rfl) (by rfl) (by rfl) (wants_none) (.cons (kc 0 10) (.cons (kc 1 11) .nil)) (Hck.out)
  ·exact sA
  ·exact sA
  ·exact sA
  ·exact sA
  ·exact fun _=>coreG_call _ 12 _ _ [.tmp 15,.tmp 16] _ _ _ _ _ _ _ (by rfl) Tryd.func12 (by kernel_rfl) (by rfl) (by rfl) (wc 4 14 4 (kc 4 14)) (.cons (kc 5 15) (.cons (kc 6 16) .nil)) (Hcj.out)
  ·exact sA
  ·exact sA
  ·exact sA
  ·exact sA
  ·exact sA
  ·exact fun _=>coreG_call _ 12 _ _ [.tmp 21,.tmp 22] _ _ _ _ _ _ _ (by rfl) Tryd.func12 (by kernel_rfl) (by rfl) (by rfl) (wc 10 20 10 (kc 10 20)) (.cons (kc 11 21) (.cons (kc 12 22) .nil)) (Hci.out)
  ·exact sA
  ·exact sA
 intro vs y2 hc
 obtain ⟨vv0,vv1,vv2,vv3,vv4,vv5,vv6,vv7,vv8,vv9,vv10,vv11,vv12,vv13,vv14,vv15,rfl⟩:=len16 vs hc.lv
 have qq0:=okv hc 0
 have qq1:=okv hc 1
 have qq2:=okv hc 2
 have qq3:=okv hc 3
 have qq4:=okv hc 4
 have qq5:=okv hc 5
 have qq6:=okv hc 6
 have qq7:=okv hc 7
 have qq8:=okv hc 8
 have qq9:=okv hc 9
 have qq10:=okv hc 10
 have qq11:=okv hc 11
 have qq12:=okv hc 12
 have qq13:=okv hc 13
 have qq14:=okv hc 14
 have qq15:=okv hc 15
 have BZ:=hc.bel
 clear hc
 have Nt:=Ft.out.on BZ
 have Na:=Fa.out.on BZ
 have Nb:=Fb.out.on BZ
 have Nm:=Fm.out.on BZ
 have Nx:=Fx.out.on BZ
 have NB:=bel_tr BW.out BZ
 clear BW BZ Ft Fa Fb Fm Fx
 subst qq0 qq1 qq2 qq3 qq4 qq5 qq6 qq7 qq8 qq9 qq10 qq11 qq12 qq13 qq14 qq15
 simp only [List.map_cons,List.map_nil,over,Act.put,List.setIfInBounds_toArray,List.set_cons_zero,List.set_cons_succ]
 refine wpAnyH_done (by kernel_rfl) ?_ _
 refine NoPanic.normal ?_
 have Ft:=Lib.hid Nt
 have Fa:=Lib.hid Na
 have Fb:=Lib.hid Nb
 have Fm:=Lib.hid Nm
 have Fx:=Lib.hid Nx
 have BW:=Lib.hid NB
 clear NB Nt Na Nb Nm Nx
 have Lt:=Ft.out.lt
 have ct0:y2.cell? ⟨gt,0,none⟩=some (.func (.func 46) #[] #[]):=Ft.out.cell 0
 have La:=Fa.out.lt
 have ca0:=Fa.out.c0
 have ca1:=Fa.out.c1
 have ca2:=Fa.out.c2
 have ca3:=Fa.out.c3
 have Lb:=Fb.out.lt
 have cb0:=Fb.out.c0
 have cb1:=Fb.out.c1
 have cb2:=Fb.out.c2
 have cb3:=Fb.out.c3
 have Lm:=Fm.out.lt
 have cm0:=Fm.out.c0
 have cm1:=Fm.out.c1
 have cm2:=Fm.out.c2
 have cm3:=Fm.out.c3
 go_wp2_with fail
 clear Lt ct0 La ca0 ca1 ca2 ca3 Lb cb0 cb1 cb2 cb3 Lm cm0 cm1 cm2 cm3
 refine (Hcd.out _).mono ?_
 rintro e v3 ⟨rfl,z3⟩
 have Nt:=Lib.hid (Ft.out.on z3)
 have Na:=Lib.hid (Fa.out.on z3)
 have Nb:=Lib.hid (Fb.out.on z3)
 have Nm:=Lib.hid (Fm.out.on z3)
 have Nx:=Lib.hid (Fx.out.on z3)
 have NB:=Lib.hid (bel_tr BW.out z3)
 clear BW z3 Ft Fa Fb Fm Fx
 have Ft:=Nt
 have Fa:=Na
 have Fb:=Nb
 have Fm:=Nm
 have Fx:=Nx
 have BW:=NB
 clear NB Nt Na Nb Nm Nx
 have Lx:=Fx.out.lt
 have cx0:=Fx.out.c0
 have cx1:=Fx.out.c1
 have cx2:=Fx.out.c2
 have cx3:=Fx.out.c3
 have fx0:v3.frozen? ⟨gx,0,none⟩=false:=Fx.out.frozen 0
 have fx1:v3.frozen? ⟨gx,1,none⟩=false:=Fx.out.frozen 1
 have fx2:v3.frozen? ⟨gx,2,none⟩=false:=Fx.out.frozen 2
 have fx3:v3.frozen? ⟨gx,3,none⟩=false:=Fx.out.frozen 3
 go_wp2_with fail
 clear Lx cx0 cx1 cx2 cx3 fx0 fx1 fx2 fx3
 generalize hW4:((((v3.setCell ⟨gx,0,none⟩ (.int .u64 (wd V 0:Nat))).setCell ⟨gx,1,none⟩ (.int .u64 (wd V 1:Nat))).setCell ⟨gx,2,none⟩ (.int .u64 (wd V 2:Nat))).setCell ⟨gx,3,none⟩ (.int .u64 (wd V 3:Nat)))=W4 at *
 have Nt:=at_of hW4 ((Ft.out).far4 Dtx _ _ _ _)
 have Na:=at_of hW4 ((Fa.out).far4 Dax _ _ _ _)
 have Nb:=at_of hW4 ((Fb.out).far4 Dbx _ _ _ _)
 have Nm:=at_of hW4 ((Fm.out).far4 Dmx _ _ _ _)
 have Nx:=at_of hW4 ((Fx.out).put4 _ _ _ _)
 have NB:=gr_of hW4 (((((BW.out).setCell Ex _).setCell Ex _).setCell Ex _).setCell Ex _)
 clear hW4 BW Ft Fa Fb Fm Fx
 have Ft:=Lib.hid Nt
 have Fa:=Lib.hid Na
 have Fb:=Lib.hid Nb
 have Fm:=Lib.hid Nm
 have Fx:=Lib.hid Nx
 have BW:=Lib.hid NB
 clear NB Nt Na Nb Nm Nx
 have Lx:=Fx.out.lt
 have cx0:=Fx.out.c0
 have cx1:=Fx.out.c1
 have cx2:=Fx.out.c2
 have cx3:=Fx.out.c3
 refine bodyPost_ret (v:=.tuple #[num V,.int .i64 er]) (by simp [results,Tryd.results37,go_sem, *]) rfl ⟨rfl,BW.out⟩

set_option maxRecDepth 100000 in
set_option maxHeartbeats 8000000 in
theorem with_difference (A B M Z V:Nat) (k j i er:Int)
  (hk:0<k)
  (hj:j<0)
  (hi:i<0)
  (cO:∀ w,Calls Tryd.prog 30 #[.int .u64 1] w fun e w'=>e=.returned (num Z)∧Below w.heap.size w w')
  (ck:∀ w,Calls Tryd.prog 12 #[num M,num Z] w fun e w'=>e=.returned (.int .i64 k)∧Below w.heap.size w w')
  (cj:∀ w,Calls Tryd.prog 12 #[num A,num M] w fun e w'=>e=.returned (.int .i64 j)∧Below w.heap.size w w')
  (ci:∀ w,Calls Tryd.prog 12 #[num B,num M] w fun e w'=>e=.returned (.int .i64 i)∧Below w.heap.size w w')
  (cd:∀ w,Calls Tryd.prog 43 #[num A,num B,num M] w fun e w'=>e=.returned (.tuple #[num V,.int .i64 er])∧Below w.heap.size w w')
  (w:World):Calls Tryd.prog 37 #[.agg #[.func (.func 43) #[] #[]],num A,num B,num M] w fun e w'=>e=.returned (.tuple #[num V,.int .i64 er])∧Below w.heap.size w w':=by
 have HcO:=Lib.hid cO
 have Hck:=Lib.hid ck
 have Hcj:=Lib.hid cj
 have Hci:=Lib.hid ci
 have Hcd:=Lib.hid cd
 clear cO ck cj ci cd
 go_enter Tryd.func37,Tryd.ntmps37
 go_wp2_with fail
 have BW:=Lib.hid (Below.refl w.heap.size w)
 have Ex:w.heap.size≤w.heap.size+1+1+1+1:=by have:=BW.out.size;omega
 have Dtx:w.heap.size≠w.heap.size+1+1+1+1:=by omega
 have Dax:w.heap.size+1≠w.heap.size+1+1+1+1:=by omega
 have Dbx:w.heap.size+1+1≠w.heap.size+1+1+1+1:=by omega
 have Dmx:w.heap.size+1+1+1≠w.heap.size+1+1+1+1:=by omega
 generalize hW1:(((((w.alloc (.cells #[.func (.func 43) #[] #[]] 62)).alloc (.cells #[.int .u64 (wd A 0:Nat),.int .u64 (wd A 1:Nat),.int .u64 (wd A 2:Nat),.int .u64 (wd A 3:Nat)] 24)).alloc (.cells #[.int .u64 (wd B 0:Nat),.int .u64 (wd B 1:Nat),.int .u64 (wd B 2:Nat),.int .u64 (wd B 3:Nat)] 24)).alloc (.cells #[.int .u64 (wd M 0:Nat),.int .u64 (wd M 1:Nat),.int .u64 (wd M 2:Nat),.int .u64 (wd M 3:Nat)] 24)).alloc (.cells #[.int .u64 0,.int .u64 0,.int .u64 0,.int .u64 0] 24))=W1 at *
 have Nt:At W1 (w.heap.size) _ _:=at_of hW1 (((((At.at_ _ _ _ _ (by simp)).alloc _).alloc _).alloc _).alloc _)
 have Na:At W1 (w.heap.size+1) _ _:=at_of hW1 ((((At.at_ _ _ _ _ (by simp)).alloc _).alloc _).alloc _)
 have Nb:At W1 (w.heap.size+1+1) _ _:=at_of hW1 (((At.at_ _ _ _ _ (by simp)).alloc _).alloc _)
 have Nm:At W1 (w.heap.size+1+1+1) _ _:=at_of hW1 ((At.at_ _ _ _ _ (by simp)).alloc _)
 have Nx:At W1 (w.heap.size+1+1+1+1) _ _:=at_of hW1 (At.at_ _ _ _ _ (by simp))
 have NB:=gr_of hW1 (gr_alloc (gr_alloc (gr_alloc (gr_alloc (gr_alloc BW.out _) _) _) _) _)
 clear hW1 BW 
 generalize w.heap.size+1+1+1+1=gx at *
 generalize w.heap.size+1+1+1=gm at *
 generalize w.heap.size+1+1=gb at *
 generalize w.heap.size+1=ga at *
 obtain ⟨gt,hg0⟩:∃ g,g=w.heap.size:=⟨_,rfl⟩
 rw [← hg0] at Nt ⊢
 rw [← hg0] at Dtx
 clear hg0
 have Ft:=Lib.hid Nt
 have Fa:=Lib.hid Na
 have Fb:=Lib.hid Nb
 have Fm:=Lib.hid Nm
 have Fx:=Lib.hid Nx
 have BW:=Lib.hid NB
 clear NB Nt Na Nb Nm Nx
 try simp only [List.append_eq,List.cons_append,List.nil_append]
 refine wp_region_noPanic ?_
 refine wp_region_held_drew (S:=fun w'=>At w' gm 24 #[.int .u64 (wd M 0:Nat),.int .u64 (wd M 1:Nat),.int .u64 (wd M 2:Nat),.int .u64 (wd M 3:Nat)]∧At w' ga 24 #[.int .u64 (wd A 0:Nat),.int .u64 (wd A 1:Nat),.int .u64 (wd A 2:Nat),.int .u64 (wd A 3:Nat)]∧At w' gb 24 #[.int .u64 (wd B 0:Nat),.int .u64 (wd B 1:Nat),.int .u64 (wd B 2:Nat),.int .u64 (wd B 3:Nat)]) (by kernel_rfl) (⟨Fm.out.drew,Fa.out.drew,Fb.out.drew⟩) (fun _=>?_)
 refine wpAnyH_cores (fuel:=0) (⟨0,10,[],Kind.val (.agg #[.int .u64 (wd M 0:Nat),.int .u64 (wd M 1:Nat),.int .u64 (wd M 2:Nat),.int .u64 (wd M 3:Nat)]),true⟩::⟨1,11,[0],Kind.val (.agg #[.int .u64 (wd Z 0:Nat),.int .u64 (wd Z 1:Nat),.int .u64 (wd Z 2:Nat),.int .u64 (wd Z 3:Nat)]),false⟩::⟨2,12,[0,1],Kind.val (.int .i64 k),false⟩::⟨3,13,[2],Kind.val (.bool false),true⟩::⟨4,14,[3],Kind.val (.bool false),true⟩::⟨5,15,[4],Kind.val (.agg #[.int .u64 (wd A 0:Nat),.int .u64 (wd A 1:Nat),.int .u64 (wd A 2:Nat),.int .u64 (wd A 3:Nat)]),true⟩::⟨6,16,[4,5],Kind.val (.agg #[.int .u64 (wd M 0:Nat),.int .u64 (wd M 1:Nat),.int .u64 (wd M 2:Nat),.int .u64 (wd M 3:Nat)]),true⟩::⟨7,17,[4,5,6],Kind.val (.int .i64 j),false⟩::⟨8,18,[4,7],Kind.val (.bool false),true⟩::⟨9,19,[4,8],Kind.val (.bool false),true⟩::⟨10,20,[9],Kind.val (.bool false),true⟩::⟨11,21,[10],Kind.val (.agg #[.int .u64 (wd B 0:Nat),.int .u64 (wd B 1:Nat),.int .u64 (wd B 2:Nat),.int .u64 (wd B 3:Nat)]),true⟩::⟨12,22,[10,11],Kind.val (.agg #[.int .u64 (wd M 0:Nat),.int .u64 (wd M 1:Nat),.int .u64 (wd M 2:Nat),.int .u64 (wd M 3:Nat)]),true⟩::⟨13,23,[10,11,12],Kind.val (.int .i64 i),false⟩::⟨14,24,[10,13],Kind.val (.bool false),true⟩::⟨15,25,[10,14],Kind.val (.bool false),true⟩::[]) _ _ W1 _ ?_ ?_ ?_ ?_ ?_ ?_ ?_ ?_ ?_ ?_ ?_
 ·rfl
 ·kernel_rfl
 ·exact of_decide_eq_true (by kernel_rfl)
 ·(repeat refine all_cons ⟨_,by rfl,by rfl⟩ ?_);exact all_nil
 ·exact fun _ hb=>⟨Fm.out.on hb,Fa.out.on hb,Fb.out.on hb⟩
 ·exact (Below.refl _ _).drew
 ·kernel_rfl
 ·exact fun _ _ _ _ _ h=>h
 ·(repeat (refine all_cons ?_ ?_;rotate_left));exact all_nil
  ·exact coreG_loadP _ _ _ _ _ _ gm _ _ _ _ (by rfl) (by rfl) (wants_none) (ko 7) (fun _ hs=>hs.1)
  ·exact core_pureAs _ (by rfl)
  ·exact core_pureAs _ (by rfl)
  ·exact coreG_bin _ _ _ _ _ _ _ _ _ _ _ _ _ (by rfl) (by rfl) (wants_none) (kc 2 12) (known_const _) ((fun ρ w hx hy=>by simp only [execOp,hx,hy];simp [go_sem];exact hk))
  ·exact coreG_move _ _ _ _ _ _ _ (by rfl) (by rfl) (wants_none) (kc 3 13)
  ·exact coreG_loadP _ _ _ _ _ _ ga _ _ _ _ (by rfl) (by rfl) (wc 4 14 4 (kc 4 14)) (ko 5) (fun _ hs=>hs.2.1)
  ·exact coreG_loadP _ _ _ _ _ _ gm _ _ _ _ (by rfl) (by rfl) (wc 4 14 4 (kc 4 14)) (ko 7) (fun _ hs=>hs.1)
  ·exact core_pureAs _ (by rfl)
  ·exact coreG_bin _ _ _ _ _ _ _ _ _ _ _ _ _ (by rfl) (by rfl) (wc 4 14 4 (kc 4 14)) (kc 7 17) (known_const _) ((fun ρ w hx hy=>by simp only [execOp,hx,hy];simp [go_sem];exact hj))
  ·exact coreG_pick _ _ _ _ _ _ _ _ _ _ _ _ (by rfl) (by rfl) (wants_none) (kc 4 14) (known_const _) (kc 8 18) (by rfl)
  ·exact coreG_move _ _ _ _ _ _ _ (by rfl) (by rfl) (wants_none) (kc 9 19)
  ·exact coreG_loadP _ _ _ _ _ _ gb _ _ _ _ (by rfl) (by rfl) (wc 10 20 10 (kc 10 20)) (ko 6) (fun _ hs=>hs.2.2)
  ·exact coreG_loadP _ _ _ _ _ _ gm _ _ _ _ (by rfl) (by rfl) (wc 10 20 10 (kc 10 20)) (ko 7) (fun _ hs=>hs.1)
  ·exact core_pureAs _ (by rfl)
  ·exact coreG_bin _ _ _ _ _ _ _ _ _ _ _ _ _ (by rfl) (by rfl) (wc 10 20 10 (kc 10 20)) (kc 13 23) (known_const _) ((fun ρ w hx hy=>by simp only [execOp,hx,hy];simp [go_sem];exact hi))
  ·exact coreG_pick _ _ _ _ _ _ _ _ _ _ _ _ (by rfl) (by rfl) (wants_none) (kc 10 20) (known_const _) (kc 14 24) (by rfl)
 ·(repeat (refine all_cons ?_ ?_;rotate_left));exact all_nil
  ·exact sA
  ·exact fun _=>coreG_call _ 30 _ _ [.const (.int .u64 1)] _ _ _ _ _ _ _ (by rfl) Tryd.func30 (by kernel_rfl) (by rfl) (by rfl) (wants_none) (.cons (known_const _) .nil) (HcO.out)
  ·exact fun _=>coreG_call _ 12 _ _ [.tmp 10,.tmp 11] _ _ _ _ _ _ _ (by rfl) Tryd.func12 (by kernel_rfl) (by rfl) (by rfl) (wants_none) (.cons (kc 0 10) (.cons (kc 1 11) .nil)) (Hck.out)
  ·exact sA
  ·exact sA
  ·exact sA
  ·exact sA
  ·exact fun _=>coreG_call _ 12 _ _ [.tmp 15,.tmp 16] _ _ _ _ _ _ _ (by rfl) Tryd.func12 (by kernel_rfl) (by rfl) (by rfl) (wc 4 14 4 (kc 4 14)) (.cons (kc 5 15) (.cons (kc 6 16) .nil)) (Hcj.out)
  ·exact sA
  ·exact sA
  ·exact sA
  ·exact sA
  ·exact sA
  ·exact fun _=>coreG_call _ 12 _ _ [.tmp 21,.tmp 22] _ _ _ _ _ _ _ (by rfl) Tryd.func12 (by kernel_rfl) (by rfl) (by rfl) (wc 10 20 10 (kc 10 20)) (.cons (kc 11 21) (.cons (kc 12 22) .nil)) (Hci.out)
  ·exact sA
  ·exact sA
 intro vs y2 hc
 obtain ⟨vv0,vv1,vv2,vv3,vv4,vv5,vv6,vv7,vv8,vv9,vv10,vv11,vv12,vv13,vv14,vv15,rfl⟩:=len16 vs hc.lv
 have qq0:=okv hc 0
 have qq1:=okv hc 1
 have qq2:=okv hc 2
 have qq3:=okv hc 3
 have qq4:=okv hc 4
 have qq5:=okv hc 5
 have qq6:=okv hc 6
 have qq7:=okv hc 7
 have qq8:=okv hc 8
 have qq9:=okv hc 9
 have qq10:=okv hc 10
 have qq11:=okv hc 11
 have qq12:=okv hc 12
 have qq13:=okv hc 13
 have qq14:=okv hc 14
 have qq15:=okv hc 15
 have BZ:=hc.bel
 clear hc
 have Nt:=Ft.out.on BZ
 have Na:=Fa.out.on BZ
 have Nb:=Fb.out.on BZ
 have Nm:=Fm.out.on BZ
 have Nx:=Fx.out.on BZ
 have NB:=bel_tr BW.out BZ
 clear BW BZ Ft Fa Fb Fm Fx
 subst qq0 qq1 qq2 qq3 qq4 qq5 qq6 qq7 qq8 qq9 qq10 qq11 qq12 qq13 qq14 qq15
 simp only [List.map_cons,List.map_nil,over,Act.put,List.setIfInBounds_toArray,List.set_cons_zero,List.set_cons_succ]
 refine wpAnyH_done (by kernel_rfl) ?_ _
 refine NoPanic.normal ?_
 have Ft:=Lib.hid Nt
 have Fa:=Lib.hid Na
 have Fb:=Lib.hid Nb
 have Fm:=Lib.hid Nm
 have Fx:=Lib.hid Nx
 have BW:=Lib.hid NB
 clear NB Nt Na Nb Nm Nx
 have Lt:=Ft.out.lt
 have ct0:y2.cell? ⟨gt,0,none⟩=some (.func (.func 43) #[] #[]):=Ft.out.cell 0
 have La:=Fa.out.lt
 have ca0:=Fa.out.c0
 have ca1:=Fa.out.c1
 have ca2:=Fa.out.c2
 have ca3:=Fa.out.c3
 have Lb:=Fb.out.lt
 have cb0:=Fb.out.c0
 have cb1:=Fb.out.c1
 have cb2:=Fb.out.c2
 have cb3:=Fb.out.c3
 have Lm:=Fm.out.lt
 have cm0:=Fm.out.c0
 have cm1:=Fm.out.c1
 have cm2:=Fm.out.c2
 have cm3:=Fm.out.c3
 go_wp2_with fail
 clear Lt ct0 La ca0 ca1 ca2 ca3 Lb cb0 cb1 cb2 cb3 Lm cm0 cm1 cm2 cm3
 refine (Hcd.out _).mono ?_
 rintro e v3 ⟨rfl,z3⟩
 have Nt:=Lib.hid (Ft.out.on z3)
 have Na:=Lib.hid (Fa.out.on z3)
 have Nb:=Lib.hid (Fb.out.on z3)
 have Nm:=Lib.hid (Fm.out.on z3)
 have Nx:=Lib.hid (Fx.out.on z3)
 have NB:=Lib.hid (bel_tr BW.out z3)
 clear BW z3 Ft Fa Fb Fm Fx
 have Ft:=Nt
 have Fa:=Na
 have Fb:=Nb
 have Fm:=Nm
 have Fx:=Nx
 have BW:=NB
 clear NB Nt Na Nb Nm Nx
 have Lx:=Fx.out.lt
 have cx0:=Fx.out.c0
 have cx1:=Fx.out.c1
 have cx2:=Fx.out.c2
 have cx3:=Fx.out.c3
 have fx0:v3.frozen? ⟨gx,0,none⟩=false:=Fx.out.frozen 0
 have fx1:v3.frozen? ⟨gx,1,none⟩=false:=Fx.out.frozen 1
 have fx2:v3.frozen? ⟨gx,2,none⟩=false:=Fx.out.frozen 2
 have fx3:v3.frozen? ⟨gx,3,none⟩=false:=Fx.out.frozen 3
 go_wp2_with fail
 clear Lx cx0 cx1 cx2 cx3 fx0 fx1 fx2 fx3
 generalize hW4:((((v3.setCell ⟨gx,0,none⟩ (.int .u64 (wd V 0:Nat))).setCell ⟨gx,1,none⟩ (.int .u64 (wd V 1:Nat))).setCell ⟨gx,2,none⟩ (.int .u64 (wd V 2:Nat))).setCell ⟨gx,3,none⟩ (.int .u64 (wd V 3:Nat)))=W4 at *
 have Nt:=at_of hW4 ((Ft.out).far4 Dtx _ _ _ _)
 have Na:=at_of hW4 ((Fa.out).far4 Dax _ _ _ _)
 have Nb:=at_of hW4 ((Fb.out).far4 Dbx _ _ _ _)
 have Nm:=at_of hW4 ((Fm.out).far4 Dmx _ _ _ _)
 have Nx:=at_of hW4 ((Fx.out).put4 _ _ _ _)
 have NB:=gr_of hW4 (((((BW.out).setCell Ex _).setCell Ex _).setCell Ex _).setCell Ex _)
 clear hW4 BW Ft Fa Fb Fm Fx
 have Ft:=Lib.hid Nt
 have Fa:=Lib.hid Na
 have Fb:=Lib.hid Nb
 have Fm:=Lib.hid Nm
 have Fx:=Lib.hid Nx
 have BW:=Lib.hid NB
 clear NB Nt Na Nb Nm Nx
 have Lx:=Fx.out.lt
 have cx0:=Fx.out.c0
 have cx1:=Fx.out.c1
 have cx2:=Fx.out.c2
 have cx3:=Fx.out.c3
 refine bodyPost_ret (v:=.tuple #[num V,.int .i64 er]) (by simp [results,Tryd.results37,go_sem, *]) rfl ⟨rfl,BW.out⟩

set_option maxRecDepth 100000 in
set_option maxHeartbeats 8000000 in
theorem with_product (A B M Z V:Nat) (k j i er:Int)
  (hk:0<k)
  (hj:j<0)
  (hi:i<0)
  (cO:∀ w,Calls Tryd.prog 30 #[.int .u64 1] w fun e w'=>e=.returned (num Z)∧Below w.heap.size w w')
  (ck:∀ w,Calls Tryd.prog 12 #[num M,num Z] w fun e w'=>e=.returned (.int .i64 k)∧Below w.heap.size w w')
  (cj:∀ w,Calls Tryd.prog 12 #[num A,num M] w fun e w'=>e=.returned (.int .i64 j)∧Below w.heap.size w w')
  (ci:∀ w,Calls Tryd.prog 12 #[num B,num M] w fun e w'=>e=.returned (.int .i64 i)∧Below w.heap.size w w')
  (cd:∀ w,Calls Tryd.prog 45 #[num A,num B,num M] w fun e w'=>e=.returned (.tuple #[num V,.int .i64 er])∧Below w.heap.size w w')
  (w:World):Calls Tryd.prog 37 #[.agg #[.func (.func 45) #[] #[]],num A,num B,num M] w fun e w'=>e=.returned (.tuple #[num V,.int .i64 er])∧Below w.heap.size w w':=by
 have HcO:=Lib.hid cO
 have Hck:=Lib.hid ck
 have Hcj:=Lib.hid cj
 have Hci:=Lib.hid ci
 have Hcd:=Lib.hid cd
 clear cO ck cj ci cd
 go_enter Tryd.func37,Tryd.ntmps37
 go_wp2_with fail
 have BW:=Lib.hid (Below.refl w.heap.size w)
 have Ex:w.heap.size≤w.heap.size+1+1+1+1:=by have:=BW.out.size;omega
 have Dtx:w.heap.size≠w.heap.size+1+1+1+1:=by omega
 have Dax:w.heap.size+1≠w.heap.size+1+1+1+1:=by omega
 have Dbx:w.heap.size+1+1≠w.heap.size+1+1+1+1:=by omega
 have Dmx:w.heap.size+1+1+1≠w.heap.size+1+1+1+1:=by omega
 generalize hW1:(((((w.alloc (.cells #[.func (.func 45) #[] #[]] 62)).alloc (.cells #[.int .u64 (wd A 0:Nat),.int .u64 (wd A 1:Nat),.int .u64 (wd A 2:Nat),.int .u64 (wd A 3:Nat)] 24)).alloc (.cells #[.int .u64 (wd B 0:Nat),.int .u64 (wd B 1:Nat),.int .u64 (wd B 2:Nat),.int .u64 (wd B 3:Nat)] 24)).alloc (.cells #[.int .u64 (wd M 0:Nat),.int .u64 (wd M 1:Nat),.int .u64 (wd M 2:Nat),.int .u64 (wd M 3:Nat)] 24)).alloc (.cells #[.int .u64 0,.int .u64 0,.int .u64 0,.int .u64 0] 24))=W1 at *
 have Nt:At W1 (w.heap.size) _ _:=at_of hW1 (((((At.at_ _ _ _ _ (by simp)).alloc _).alloc _).alloc _).alloc _)
 have Na:At W1 (w.heap.size+1) _ _:=at_of hW1 ((((At.at_ _ _ _ _ (by simp)).alloc _).alloc _).alloc _)
 have Nb:At W1 (w.heap.size+1+1) _ _:=at_of hW1 (((At.at_ _ _ _ _ (by simp)).alloc _).alloc _)
 have Nm:At W1 (w.heap.size+1+1+1) _ _:=at_of hW1 ((At.at_ _ _ _ _ (by simp)).alloc _)
 have Nx:At W1 (w.heap.size+1+1+1+1) _ _:=at_of hW1 (At.at_ _ _ _ _ (by simp))
 have NB:=gr_of hW1 (gr_alloc (gr_alloc (gr_alloc (gr_alloc (gr_alloc BW.out _) _) _) _) _)
 clear hW1 BW 
 generalize w.heap.size+1+1+1+1=gx at *
 generalize w.heap.size+1+1+1=gm at *
 generalize w.heap.size+1+1=gb at *
 generalize w.heap.size+1=ga at *
 obtain ⟨gt,hg0⟩:∃ g,g=w.heap.size:=⟨_,rfl⟩
 rw [← hg0] at Nt ⊢
 rw [← hg0] at Dtx
 clear hg0
 have Ft:=Lib.hid Nt
 have Fa:=Lib.hid Na
 have Fb:=Lib.hid Nb
 have Fm:=Lib.hid Nm
 have Fx:=Lib.hid Nx
 have BW:=Lib.hid NB
 clear NB Nt Na Nb Nm Nx
 try simp only [List.append_eq,List.cons_append,List.nil_append]
 refine wp_region_noPanic ?_
 refine wp_region_held_drew (S:=fun w'=>At w' gm 24 #[.int .u64 (wd M 0:Nat),.int .u64 (wd M 1:Nat),.int .u64 (wd M 2:Nat),.int .u64 (wd M 3:Nat)]∧At w' ga 24 #[.int .u64 (wd A 0:Nat),.int .u64 (wd A 1:Nat),.int .u64 (wd A 2:Nat),.int .u64 (wd A 3:Nat)]∧At w' gb 24 #[.int .u64 (wd B 0:Nat),.int .u64 (wd B 1:Nat),.int .u64 (wd B 2:Nat),.int .u64 (wd B 3:Nat)]) (by kernel_rfl) (⟨Fm.out.drew,Fa.out.drew,Fb.out.drew⟩) (fun _=>?_)
 refine wpAnyH_cores (fuel:=0) (⟨0,10,[],Kind.val (.agg #[.int .u64 (wd M 0:Nat),.int .u64 (wd M 1:Nat),.int .u64 (wd M 2:Nat),.int .u64 (wd M 3:Nat)]),true⟩::⟨1,11,[0],Kind.val (.agg #[.int .u64 (wd Z 0:Nat),.int .u64 (wd Z 1:Nat),.int .u64 (wd Z 2:Nat),.int .u64 (wd Z 3:Nat)]),false⟩::⟨2,12,[0,1],Kind.val (.int .i64 k),false⟩::⟨3,13,[2],Kind.val (.bool false),true⟩::⟨4,14,[3],Kind.val (.bool false),true⟩::⟨5,15,[4],Kind.val (.agg #[.int .u64 (wd A 0:Nat),.int .u64 (wd A 1:Nat),.int .u64 (wd A 2:Nat),.int .u64 (wd A 3:Nat)]),true⟩::⟨6,16,[4,5],Kind.val (.agg #[.int .u64 (wd M 0:Nat),.int .u64 (wd M 1:Nat),.int .u64 (wd M 2:Nat),.int .u64 (wd M 3:Nat)]),true⟩::⟨7,17,[4,5,6],Kind.val (.int .i64 j),false⟩::⟨8,18,[4,7],Kind.val (.bool false),true⟩::⟨9,19,[4,8],Kind.val (.bool false),true⟩::⟨10,20,[9],Kind.val (.bool false),true⟩::⟨11,21,[10],Kind.val (.agg #[.int .u64 (wd B 0:Nat),.int .u64 (wd B 1:Nat),.int .u64 (wd B 2:Nat),.int .u64 (wd B 3:Nat)]),true⟩::⟨12,22,[10,11],Kind.val (.agg #[.int .u64 (wd M 0:Nat),.int .u64 (wd M 1:Nat),.int .u64 (wd M 2:Nat),.int .u64 (wd M 3:Nat)]),true⟩::⟨13,23,[10,11,12],Kind.val (.int .i64 i),false⟩::⟨14,24,[10,13],Kind.val (.bool false),true⟩::⟨15,25,[10,14],Kind.val (.bool false),true⟩::[]) _ _ W1 _ ?_ ?_ ?_ ?_ ?_ ?_ ?_ ?_ ?_ ?_ ?_
 ·rfl
 ·kernel_rfl
 ·exact of_decide_eq_true (by kernel_rfl)
 ·(repeat refine all_cons ⟨_,by rfl,by rfl⟩ ?_);exact all_nil
 ·exact fun _ hb=>⟨Fm.out.on hb,Fa.out.on hb,Fb.out.on hb⟩
 ·exact (Below.refl _ _).drew
 ·kernel_rfl
 ·exact fun _ _ _ _ _ h=>h
 ·(repeat (refine all_cons ?_ ?_;rotate_left));exact all_nil
  ·exact coreG_loadP _ _ _ _ _ _ gm _ _ _ _ (by rfl) (by rfl) (wants_none) (ko 7) (fun _ hs=>hs.1)
  ·exact core_pureAs _ (by rfl)
  ·exact core_pureAs _ (by rfl)
  ·exact coreG_bin _ _ _ _ _ _ _ _ _ _ _ _ _ (by rfl) (by rfl) (wants_none) (kc 2 12) (known_const _) ((fun ρ w hx hy=>by simp only [execOp,hx,hy];simp [go_sem];exact hk))
  ·exact coreG_move _ _ _ _ _ _ _ (by rfl) (by rfl) (wants_none) (kc 3 13)
  ·exact coreG_loadP _ _ _ _ _ _ ga _ _ _ _ (by rfl) (by rfl) (wc 4 14 4 (kc 4 14)) (ko 5) (fun _ hs=>hs.2.1)
  ·exact coreG_loadP _ _ _ _ _ _ gm _ _ _ _ (by rfl) (by rfl) (wc 4 14 4 (kc 4 14)) (ko 7) (fun _ hs=>hs.1)
  ·exact core_pureAs _ (by rfl)
  ·exact coreG_bin _ _ _ _ _ _ _ _ _ _ _ _ _ (by rfl) (by rfl) (wc 4 14 4 (kc 4 14)) (kc 7 17) (known_const _) ((fun ρ w hx hy=>by simp only [execOp,hx,hy];simp [go_sem];exact hj))
  ·exact coreG_pick _ _ _ _ _ _ _ _ _ _ _ _ (by rfl) (by rfl) (wants_none) (kc 4 14) (known_const _) (kc 8 18) (by rfl)
  ·exact coreG_move _ _ _ _ _ _ _ (by rfl) (by rfl) (wants_none) (kc 9 19)
  ·exact coreG_loadP _ _ _ _ _ _ gb _ _ _ _ (by rfl) (by rfl) (wc 10 20 10 (kc 10 20)) (ko 6) (fun _ hs=>hs.2.2)
  ·exact coreG_loadP _ _ _ _ _ _ gm _ _ _ _ (by rfl) (by rfl) (wc 10 20 10 (kc 10 20)) (ko 7) (fun _ hs=>hs.1)
  ·exact core_pureAs _ (by rfl)
  ·exact coreG_bin _ _ _ _ _ _ _ _ _ _ _ _ _ (by rfl) (by rfl) (wc 10 20 10 (kc 10 20)) (kc 13 23) (known_const _) ((fun ρ w hx hy=>by simp only [execOp,hx,hy];simp [go_sem];exact hi))
  ·exact coreG_pick _ _ _ _ _ _ _ _ _ _ _ _ (by rfl) (by rfl) (wants_none) (kc 10 20) (known_const _) (kc 14 24) (by rfl)
 ·(repeat (refine all_cons ?_ ?_;rotate_left));exact all_nil
  ·exact sA
  ·exact fun _=>coreG_call _ 30 _ _ [.const (.int .u64 1)] _ _ _ _ _ _ _ (by rfl) Tryd.func30 (by kernel_rfl) (by rfl) (by rfl) (wants_none) (.cons (known_const _) .nil) (HcO.out)
  ·exact fun _=>coreG_call _ 12 _ _ [.tmp 10,.tmp 11] _ _ _ _ _ _ _ (by rfl) Tryd.func12 (by kernel_rfl) (by rfl) (by rfl) (wants_none) (.cons (kc 0 10) (.cons (kc 1 11) .nil)) (Hck.out)
  ·exact sA
  ·exact sA
  ·exact sA
  ·exact sA
  ·exact fun _=>coreG_call _ 12 _ _ [.tmp 15,.tmp 16] _ _ _ _ _ _ _ (by rfl) Tryd.func12 (by kernel_rfl) (by rfl) (by rfl) (wc 4 14 4 (kc 4 14)) (.cons (kc 5 15) (.cons (kc 6 16) .nil)) (Hcj.out)
  ·exact sA
  ·exact sA
  ·exact sA
  ·exact sA
  ·exact sA
  ·exact fun _=>coreG_call _ 12 _ _ [.tmp 21,.tmp 22] _ _ _ _ _ _ _ (by rfl) Tryd.func12 (by kernel_rfl) (by rfl) (by rfl) (wc 10 20 10 (kc 10 20)) (.cons (kc 11 21) (.cons (kc 12 22) .nil)) (Hci.out)
  ·exact sA
  ·exact sA
 intro vs y2 hc
 obtain ⟨vv0,vv1,vv2,vv3,vv4,vv5,vv6,vv7,vv8,vv9,vv10,vv11,vv12,vv13,vv14,vv15,rfl⟩:=len16 vs hc.lv
 have qq0:=okv hc 0
 have qq1:=okv hc 1
 have qq2:=okv hc 2
 have qq3:=okv hc 3
 have qq4:=okv hc 4
 have qq5:=okv hc 5
 have qq6:=okv hc 6
 have qq7:=okv hc 7
 have qq8:=okv hc 8
 have qq9:=okv hc 9
 have qq10:=okv hc 10
 have qq11:=okv hc 11
 have qq12:=okv hc 12
 have qq13:=okv hc 13
 have qq14:=okv hc 14
 have qq15:=okv hc 15
 have BZ:=hc.bel
 clear hc
 have Nt:=Ft.out.on BZ
 have Na:=Fa.out.on BZ
 have Nb:=Fb.out.on BZ
 have Nm:=Fm.out.on BZ
 have Nx:=Fx.out.on BZ
 have NB:=bel_tr BW.out BZ
 clear BW BZ Ft Fa Fb Fm Fx
 subst qq0 qq1 qq2 qq3 qq4 qq5 qq6 qq7 qq8 qq9 qq10 qq11 qq12 qq13 qq14 qq15
 simp only [List.map_cons,List.map_nil,over,Act.put,List.setIfInBounds_toArray,List.set_cons_zero,List.set_cons_succ]
 refine wpAnyH_done (by kernel_rfl) ?_ _
 refine NoPanic.normal ?_
 have Ft:=Lib.hid Nt
 have Fa:=Lib.hid Na
 have Fb:=Lib.hid Nb
 have Fm:=Lib.hid Nm
 have Fx:=Lib.hid Nx
 have BW:=Lib.hid NB
 clear NB Nt Na Nb Nm Nx
 have Lt:=Ft.out.lt
 have ct0:y2.cell? ⟨gt,0,none⟩=some (.func (.func 45) #[] #[]):=Ft.out.cell 0
 have La:=Fa.out.lt
 have ca0:=Fa.out.c0
 have ca1:=Fa.out.c1
 have ca2:=Fa.out.c2
 have ca3:=Fa.out.c3
 have Lb:=Fb.out.lt
 have cb0:=Fb.out.c0
 have cb1:=Fb.out.c1
 have cb2:=Fb.out.c2
 have cb3:=Fb.out.c3
 have Lm:=Fm.out.lt
 have cm0:=Fm.out.c0
 have cm1:=Fm.out.c1
 have cm2:=Fm.out.c2
 have cm3:=Fm.out.c3
 go_wp2_with fail
 clear Lt ct0 La ca0 ca1 ca2 ca3 Lb cb0 cb1 cb2 cb3 Lm cm0 cm1 cm2 cm3
 refine (Hcd.out _).mono ?_
 rintro e v3 ⟨rfl,z3⟩
 have Nt:=Lib.hid (Ft.out.on z3)
 have Na:=Lib.hid (Fa.out.on z3)
 have Nb:=Lib.hid (Fb.out.on z3)
 have Nm:=Lib.hid (Fm.out.on z3)
 have Nx:=Lib.hid (Fx.out.on z3)
 have NB:=Lib.hid (bel_tr BW.out z3)
 clear BW z3 Ft Fa Fb Fm Fx
 have Ft:=Nt
 have Fa:=Na
 have Fb:=Nb
 have Fm:=Nm
 have Fx:=Nx
 have BW:=NB
 clear NB Nt Na Nb Nm Nx
 have Lx:=Fx.out.lt
 have cx0:=Fx.out.c0
 have cx1:=Fx.out.c1
 have cx2:=Fx.out.c2
 have cx3:=Fx.out.c3
 have fx0:v3.frozen? ⟨gx,0,none⟩=false:=Fx.out.frozen 0
 have fx1:v3.frozen? ⟨gx,1,none⟩=false:=Fx.out.frozen 1
 have fx2:v3.frozen? ⟨gx,2,none⟩=false:=Fx.out.frozen 2
 have fx3:v3.frozen? ⟨gx,3,none⟩=false:=Fx.out.frozen 3
 go_wp2_with fail
 clear Lx cx0 cx1 cx2 cx3 fx0 fx1 fx2 fx3
 generalize hW4:((((v3.setCell ⟨gx,0,none⟩ (.int .u64 (wd V 0:Nat))).setCell ⟨gx,1,none⟩ (.int .u64 (wd V 1:Nat))).setCell ⟨gx,2,none⟩ (.int .u64 (wd V 2:Nat))).setCell ⟨gx,3,none⟩ (.int .u64 (wd V 3:Nat)))=W4 at *
 have Nt:=at_of hW4 ((Ft.out).far4 Dtx _ _ _ _)
 have Na:=at_of hW4 ((Fa.out).far4 Dax _ _ _ _)
 have Nb:=at_of hW4 ((Fb.out).far4 Dbx _ _ _ _)
 have Nm:=at_of hW4 ((Fm.out).far4 Dmx _ _ _ _)
 have Nx:=at_of hW4 ((Fx.out).put4 _ _ _ _)
 have NB:=gr_of hW4 (((((BW.out).setCell Ex _).setCell Ex _).setCell Ex _).setCell Ex _)
 clear hW4 BW Ft Fa Fb Fm Fx
 have Ft:=Lib.hid Nt
 have Fa:=Lib.hid Na
 have Fb:=Lib.hid Nb
 have Fm:=Lib.hid Nm
 have Fx:=Lib.hid Nx
 have BW:=Lib.hid NB
 clear NB Nt Na Nb Nm Nx
 have Lx:=Fx.out.lt
 have cx0:=Fx.out.c0
 have cx1:=Fx.out.c1
 have cx2:=Fx.out.c2
 have cx3:=Fx.out.c3
 refine bodyPost_ret (v:=.tuple #[num V,.int .i64 er]) (by simp [results,Tryd.results37,go_sem, *]) rfl ⟨rfl,BW.out⟩

set_option maxRecDepth 100000 in
set_option maxHeartbeats 8000000 in
theorem with_inverse (A B M Z V:Nat) (k j i er:Int)
  (hk:0<k)
  (hj:j<0)
  (hi:i<0)
  (cO:∀ w,Calls Tryd.prog 30 #[.int .u64 1] w fun e w'=>e=.returned (num Z)∧Below w.heap.size w w')
  (ck:∀ w,Calls Tryd.prog 12 #[num M,num Z] w fun e w'=>e=.returned (.int .i64 k)∧Below w.heap.size w w')
  (cj:∀ w,Calls Tryd.prog 12 #[num A,num M] w fun e w'=>e=.returned (.int .i64 j)∧Below w.heap.size w w')
  (ci:∀ w,Calls Tryd.prog 12 #[num B,num M] w fun e w'=>e=.returned (.int .i64 i)∧Below w.heap.size w w')
  (cd:∀ w,Calls Tryd.prog 44 #[num A,num B,num M] w fun e w'=>e=.returned (.tuple #[num V,.int .i64 er])∧Below w.heap.size w w')
  (w:World):Calls Tryd.prog 37 #[.agg #[.func (.func 44) #[] #[]],num A,num B,num M] w fun e w'=>e=.returned (.tuple #[num V,.int .i64 er])∧Below w.heap.size w w':=by
 have HcO:=Lib.hid cO
 have Hck:=Lib.hid ck
 have Hcj:=Lib.hid cj
 have Hci:=Lib.hid ci
 have Hcd:=Lib.hid cd
 clear cO ck cj ci cd
 go_enter Tryd.func37,Tryd.ntmps37
 go_wp2_with fail
 have BW:=Lib.hid (Below.refl w.heap.size w)
 have Ex:w.heap.size≤w.heap.size+1+1+1+1:=by have:=BW.out.size;omega
 have Dtx:w.heap.size≠w.heap.size+1+1+1+1:=by omega
 have Dax:w.heap.size+1≠w.heap.size+1+1+1+1:=by omega
 have Dbx:w.heap.size+1+1≠w.heap.size+1+1+1+1:=by omega
 have Dmx:w.heap.size+1+1+1≠w.heap.size+1+1+1+1:=by omega
 generalize hW1:(((((w.alloc (.cells #[.func (.func 44) #[] #[]] 62)).alloc (.cells #[.int .u64 (wd A 0:Nat),.int .u64 (wd A 1:Nat),.int .u64 (wd A 2:Nat),.int .u64 (wd A 3:Nat)] 24)).alloc (.cells #[.int .u64 (wd B 0:Nat),.int .u64 (wd B 1:Nat),.int .u64 (wd B 2:Nat),.int .u64 (wd B 3:Nat)] 24)).alloc (.cells #[.int .u64 (wd M 0:Nat),.int .u64 (wd M 1:Nat),.int .u64 (wd M 2:Nat),.int .u64 (wd M 3:Nat)] 24)).alloc (.cells #[.int .u64 0,.int .u64 0,.int .u64 0,.int .u64 0] 24))=W1 at *
 have Nt:At W1 (w.heap.size) _ _:=at_of hW1 (((((At.at_ _ _ _ _ (by simp)).alloc _).alloc _).alloc _).alloc _)
 have Na:At W1 (w.heap.size+1) _ _:=at_of hW1 ((((At.at_ _ _ _ _ (by simp)).alloc _).alloc _).alloc _)
 have Nb:At W1 (w.heap.size+1+1) _ _:=at_of hW1 (((At.at_ _ _ _ _ (by simp)).alloc _).alloc _)
 have Nm:At W1 (w.heap.size+1+1+1) _ _:=at_of hW1 ((At.at_ _ _ _ _ (by simp)).alloc _)
 have Nx:At W1 (w.heap.size+1+1+1+1) _ _:=at_of hW1 (At.at_ _ _ _ _ (by simp))
 have NB:=gr_of hW1 (gr_alloc (gr_alloc (gr_alloc (gr_alloc (gr_alloc BW.out _) _) _) _) _)
 clear hW1 BW 
 generalize w.heap.size+1+1+1+1=gx at *
 generalize w.heap.size+1+1+1=gm at *
 generalize w.heap.size+1+1=gb at *
 generalize w.heap.size+1=ga at *
 obtain ⟨gt,hg0⟩:∃ g,g=w.heap.size:=⟨_,rfl⟩
 rw [← hg0] at Nt ⊢
 rw [← hg0] at Dtx
 clear hg0
 have Ft:=Lib.hid Nt
 have Fa:=Lib.hid Na
 have Fb:=Lib.hid Nb
 have Fm:=Lib.hid Nm
 have Fx:=Lib.hid Nx
 have BW:=Lib.hid NB
 clear NB Nt Na Nb Nm Nx
 try simp only [List.append_eq,List.cons_append,List.nil_append]
 refine wp_region_noPanic ?_
 refine wp_region_held_drew (S:=fun w'=>At w' gm 24 #[.int .u64 (wd M 0:Nat),.int .u64 (wd M 1:Nat),.int .u64 (wd M 2:Nat),.int .u64 (wd M 3:Nat)]∧At w' ga 24 #[.int .u64 (wd A 0:Nat),.int .u64 (wd A 1:Nat),.int .u64 (wd A 2:Nat),.int .u64 (wd A 3:Nat)]∧At w' gb 24 #[.int .u64 (wd B 0:Nat),.int .u64 (wd B 1:Nat),.int .u64 (wd B 2:Nat),.int .u64 (wd B 3:Nat)]) (by kernel_rfl) (⟨Fm.out.drew,Fa.out.drew,Fb.out.drew⟩) (fun _=>?_)
 refine wpAnyH_cores (fuel:=0) (⟨0,10,[],Kind.val (.agg #[.int .u64 (wd M 0:Nat),.int .u64 (wd M 1:Nat),.int .u64 (wd M 2:Nat),.int .u64 (wd M 3:Nat)]),true⟩::⟨1,11,[0],Kind.val (.agg #[.int .u64 (wd Z 0:Nat),.int .u64 (wd Z 1:Nat),.int .u64 (wd Z 2:Nat),.int .u64 (wd Z 3:Nat)]),false⟩::⟨2,12,[0,1],Kind.val (.int .i64 k),false⟩::⟨3,13,[2],Kind.val (.bool false),true⟩::⟨4,14,[3],Kind.val (.bool false),true⟩::⟨5,15,[4],Kind.val (.agg #[.int .u64 (wd A 0:Nat),.int .u64 (wd A 1:Nat),.int .u64 (wd A 2:Nat),.int .u64 (wd A 3:Nat)]),true⟩::⟨6,16,[4,5],Kind.val (.agg #[.int .u64 (wd M 0:Nat),.int .u64 (wd M 1:Nat),.int .u64 (wd M 2:Nat),.int .u64 (wd M 3:Nat)]),true⟩::⟨7,17,[4,5,6],Kind.val (.int .i64 j),false⟩::⟨8,18,[4,7],Kind.val (.bool false),true⟩::⟨9,19,[4,8],Kind.val (.bool false),true⟩::⟨10,20,[9],Kind.val (.bool false),true⟩::⟨11,21,[10],Kind.val (.agg #[.int .u64 (wd B 0:Nat),.int .u64 (wd B 1:Nat),.int .u64 (wd B 2:Nat),.int .u64 (wd B 3:Nat)]),true⟩::⟨12,22,[10,11],Kind.val (.agg #[.int .u64 (wd M 0:Nat),.int .u64 (wd M 1:Nat),.int .u64 (wd M 2:Nat),.int .u64 (wd M 3:Nat)]),true⟩::⟨13,23,[10,11,12],Kind.val (.int .i64 i),false⟩::⟨14,24,[10,13],Kind.val (.bool false),true⟩::⟨15,25,[10,14],Kind.val (.bool false),true⟩::[]) _ _ W1 _ ?_ ?_ ?_ ?_ ?_ ?_ ?_ ?_ ?_ ?_ ?_
 ·rfl
 ·kernel_rfl
 ·exact of_decide_eq_true (by kernel_rfl)
 ·(repeat refine all_cons ⟨_,by rfl,by rfl⟩ ?_);exact all_nil
 ·exact fun _ hb=>⟨Fm.out.on hb,Fa.out.on hb,Fb.out.on hb⟩
 ·exact (Below.refl _ _).drew
 ·kernel_rfl
 ·exact fun _ _ _ _ _ h=>h
 ·(repeat (refine all_cons ?_ ?_;rotate_left));exact all_nil
  ·exact coreG_loadP _ _ _ _ _ _ gm _ _ _ _ (by rfl) (by rfl) (wants_none) (ko 7) (fun _ hs=>hs.1)
  ·exact core_pureAs _ (by rfl)
  ·exact core_pureAs _ (by rfl)
  ·exact coreG_bin _ _ _ _ _ _ _ _ _ _ _ _ _ (by rfl) (by rfl) (wants_none) (kc 2 12) (known_const _) ((fun ρ w hx hy=>by simp only [execOp,hx,hy];simp [go_sem];exact hk))
  ·exact coreG_move _ _ _ _ _ _ _ (by rfl) (by rfl) (wants_none) (kc 3 13)
  ·exact coreG_loadP _ _ _ _ _ _ ga _ _ _ _ (by rfl) (by rfl) (wc 4 14 4 (kc 4 14)) (ko 5) (fun _ hs=>hs.2.1)
  ·exact coreG_loadP _ _ _ _ _ _ gm _ _ _ _ (by rfl) (by rfl) (wc 4 14 4 (kc 4 14)) (ko 7) (fun _ hs=>hs.1)
  ·exact core_pureAs _ (by rfl)
  ·exact coreG_bin _ _ _ _ _ _ _ _ _ _ _ _ _ (by rfl) (by rfl) (wc 4 14 4 (kc 4 14)) (kc 7 17) (known_const _) ((fun ρ w hx hy=>by simp only [execOp,hx,hy];simp [go_sem];exact hj))
  ·exact coreG_pick _ _ _ _ _ _ _ _ _ _ _ _ (by rfl) (by rfl) (wants_none) (kc 4 14) (known_const _) (kc 8 18) (by rfl)
  ·exact coreG_move _ _ _ _ _ _ _ (by rfl) (by rfl) (wants_none) (kc 9 19)
  ·exact coreG_loadP _ _ _ _ _ _ gb _ _ _ _ (by rfl) (by rfl) (wc 10 20 10 (kc 10 20)) (ko 6) (fun _ hs=>hs.2.2)
  ·exact coreG_loadP _ _ _ _ _ _ gm _ _ _ _ (by rfl) (by rfl) (wc 10 20 10 (kc 10 20)) (ko 7) (fun _ hs=>hs.1)
  ·exact core_pureAs _ (by rfl)
  ·exact coreG_bin _ _ _ _ _ _ _ _ _ _ _ _ _ (by rfl) (by rfl) (wc 10 20 10 (kc 10 20)) (kc 13 23) (known_const _) ((fun ρ w hx hy=>by simp only [execOp,hx,hy];simp [go_sem];exact hi))
  ·exact coreG_pick _ _ _ _ _ _ _ _ _ _ _ _ (by rfl) (by rfl) (wants_none) (kc 10 20) (known_const _) (kc 14 24) (by rfl)
 ·(repeat (refine all_cons ?_ ?_;rotate_left));exact all_nil
  ·exact sA
  ·exact fun _=>coreG_call _ 30 _ _ [.const (.int .u64 1)] _ _ _ _ _ _ _ (by rfl) Tryd.func30 (by kernel_rfl) (by rfl) (by rfl) (wants_none) (.cons (known_const _) .nil) (HcO.out)
  ·exact fun _=>coreG_call _ 12 _ _ [.tmp 10,.tmp 11] _ _ _ _ _ _ _ (by rfl) Tryd.func12 (by kernel_rfl) (by rfl) (by rfl) (wants_none) (.cons (kc 0 10) (.cons (kc 1 11) .nil)) (Hck.out)
  ·exact sA
  ·exact sA
  ·exact sA
  ·exact sA
  ·exact fun _=>coreG_call _ 12 _ _ [.tmp 15,.tmp 16] _ _ _ _ _ _ _ (by rfl) Tryd.func12 (by kernel_rfl) (by rfl) (by rfl) (wc 4 14 4 (kc 4 14)) (.cons (kc 5 15) (.cons (kc 6 16) .nil)) (Hcj.out)
  ·exact sA
  ·exact sA
  ·exact sA
  ·exact sA
  ·exact sA
  ·exact fun _=>coreG_call _ 12 _ _ [.tmp 21,.tmp 22] _ _ _ _ _ _ _ (by rfl) Tryd.func12 (by kernel_rfl) (by rfl) (by rfl) (wc 10 20 10 (kc 10 20)) (.cons (kc 11 21) (.cons (kc 12 22) .nil)) (Hci.out)
  ·exact sA
  ·exact sA
 intro vs y2 hc
 obtain ⟨vv0,vv1,vv2,vv3,vv4,vv5,vv6,vv7,vv8,vv9,vv10,vv11,vv12,vv13,vv14,vv15,rfl⟩:=len16 vs hc.lv
 have qq0:=okv hc 0
 have qq1:=okv hc 1
 have qq2:=okv hc 2
 have qq3:=okv hc 3
 have qq4:=okv hc 4
 have qq5:=okv hc 5
 have qq6:=okv hc 6
 have qq7:=okv hc 7
 have qq8:=okv hc 8
 have qq9:=okv hc 9
 have qq10:=okv hc 10
 have qq11:=okv hc 11
 have qq12:=okv hc 12
 have qq13:=okv hc 13
 have qq14:=okv hc 14
 have qq15:=okv hc 15
 have BZ:=hc.bel
 clear hc
 have Nt:=Ft.out.on BZ
 have Na:=Fa.out.on BZ
 have Nb:=Fb.out.on BZ
 have Nm:=Fm.out.on BZ
 have Nx:=Fx.out.on BZ
 have NB:=bel_tr BW.out BZ
 clear BW BZ Ft Fa Fb Fm Fx
 subst qq0 qq1 qq2 qq3 qq4 qq5 qq6 qq7 qq8 qq9 qq10 qq11 qq12 qq13 qq14 qq15
 simp only [List.map_cons,List.map_nil,over,Act.put,List.setIfInBounds_toArray,List.set_cons_zero,List.set_cons_succ]
 refine wpAnyH_done (by kernel_rfl) ?_ _
 refine NoPanic.normal ?_
 have Ft:=Lib.hid Nt
 have Fa:=Lib.hid Na
 have Fb:=Lib.hid Nb
 have Fm:=Lib.hid Nm
 have Fx:=Lib.hid Nx
 have BW:=Lib.hid NB
 clear NB Nt Na Nb Nm Nx
 have Lt:=Ft.out.lt
 have ct0:y2.cell? ⟨gt,0,none⟩=some (.func (.func 44) #[] #[]):=Ft.out.cell 0
 have La:=Fa.out.lt
 have ca0:=Fa.out.c0
 have ca1:=Fa.out.c1
 have ca2:=Fa.out.c2
 have ca3:=Fa.out.c3
 have Lb:=Fb.out.lt
 have cb0:=Fb.out.c0
 have cb1:=Fb.out.c1
 have cb2:=Fb.out.c2
 have cb3:=Fb.out.c3
 have Lm:=Fm.out.lt
 have cm0:=Fm.out.c0
 have cm1:=Fm.out.c1
 have cm2:=Fm.out.c2
 have cm3:=Fm.out.c3
 go_wp2_with fail
 clear Lt ct0 La ca0 ca1 ca2 ca3 Lb cb0 cb1 cb2 cb3 Lm cm0 cm1 cm2 cm3
 refine (Hcd.out _).mono ?_
 rintro e v3 ⟨rfl,z3⟩
 have Nt:=Lib.hid (Ft.out.on z3)
 have Na:=Lib.hid (Fa.out.on z3)
 have Nb:=Lib.hid (Fb.out.on z3)
 have Nm:=Lib.hid (Fm.out.on z3)
 have Nx:=Lib.hid (Fx.out.on z3)
 have NB:=Lib.hid (bel_tr BW.out z3)
 clear BW z3 Ft Fa Fb Fm Fx
 have Ft:=Nt
 have Fa:=Na
 have Fb:=Nb
 have Fm:=Nm
 have Fx:=Nx
 have BW:=NB
 clear NB Nt Na Nb Nm Nx
 have Lx:=Fx.out.lt
 have cx0:=Fx.out.c0
 have cx1:=Fx.out.c1
 have cx2:=Fx.out.c2
 have cx3:=Fx.out.c3
 have fx0:v3.frozen? ⟨gx,0,none⟩=false:=Fx.out.frozen 0
 have fx1:v3.frozen? ⟨gx,1,none⟩=false:=Fx.out.frozen 1
 have fx2:v3.frozen? ⟨gx,2,none⟩=false:=Fx.out.frozen 2
 have fx3:v3.frozen? ⟨gx,3,none⟩=false:=Fx.out.frozen 3
 go_wp2_with fail
 clear Lx cx0 cx1 cx2 cx3 fx0 fx1 fx2 fx3
 generalize hW4:((((v3.setCell ⟨gx,0,none⟩ (.int .u64 (wd V 0:Nat))).setCell ⟨gx,1,none⟩ (.int .u64 (wd V 1:Nat))).setCell ⟨gx,2,none⟩ (.int .u64 (wd V 2:Nat))).setCell ⟨gx,3,none⟩ (.int .u64 (wd V 3:Nat)))=W4 at *
 have Nt:=at_of hW4 ((Ft.out).far4 Dtx _ _ _ _)
 have Na:=at_of hW4 ((Fa.out).far4 Dax _ _ _ _)
 have Nb:=at_of hW4 ((Fb.out).far4 Dbx _ _ _ _)
 have Nm:=at_of hW4 ((Fm.out).far4 Dmx _ _ _ _)
 have Nx:=at_of hW4 ((Fx.out).put4 _ _ _ _)
 have NB:=gr_of hW4 (((((BW.out).setCell Ex _).setCell Ex _).setCell Ex _).setCell Ex _)
 clear hW4 BW Ft Fa Fb Fm Fx
 have Ft:=Lib.hid Nt
 have Fa:=Lib.hid Na
 have Fb:=Lib.hid Nb
 have Fm:=Lib.hid Nm
 have Fx:=Lib.hid Nx
 have BW:=Lib.hid NB
 clear NB Nt Na Nb Nm Nx
 have Lx:=Fx.out.lt
 have cx0:=Fx.out.c0
 have cx1:=Fx.out.c1
 have cx2:=Fx.out.c2
 have cx3:=Fx.out.c3
 refine bodyPost_ret (v:=.tuple #[num V,.int .i64 er]) (by simp [results,Tryd.results37,go_sem, *]) rfl ⟨rfl,BW.out⟩

set_option maxRecDepth 100000 in
set_option maxHeartbeats 8000000 in
theorem with_power (A B M Z V N gn:Nat) (k j i er:Int)
  (hk:0<k)
  (hj:j<0)
  (hi:i<0)
  (cO:∀ w,Calls Tryd.prog 30 #[.int .u64 1] w fun e w'=>e=.returned (num Z)∧Below w.heap.size w w')
  (ck:∀ w,Calls Tryd.prog 12 #[num M,num Z] w fun e w'=>e=.returned (.int .i64 k)∧Below w.heap.size w w')
  (cj:∀ w,Calls Tryd.prog 12 #[num A,num M] w fun e w'=>e=.returned (.int .i64 j)∧Below w.heap.size w w')
  (ci:∀ w,Calls Tryd.prog 12 #[num B,num M] w fun e w'=>e=.returned (.int .i64 i)∧Below w.heap.size w w')
  (cd:∀ w,At w gn 24 #[.int .u64 (wd N 0:Nat),.int .u64 (wd N 1:Nat),.int .u64 (wd N 2:Nat),.int .u64 (wd N 3:Nat)]→Calls Tryd.prog 35 #[num A,num B,num M,.pointer (some ⟨gn,0,none⟩)] w fun e w'=>e=.returned (.tuple #[num V,.int .i64 er])∧Below w.heap.size w w')
  (w:World) (Pn:At w gn 24 #[.int .u64 (wd N 0:Nat),.int .u64 (wd N 1:Nat),.int .u64 (wd N 2:Nat),.int .u64 (wd N 3:Nat)]):Calls Tryd.prog 37 #[.agg #[.func (.func 35) #[] #[.pointer (some ⟨gn,0,none⟩)]],num A,num B,num M] w fun e w'=>e=.returned (.tuple #[num V,.int .i64 er])∧Below w.heap.size w w':=by
 have HcO:=Lib.hid cO
 have Hck:=Lib.hid ck
 have Hcj:=Lib.hid cj
 have Hci:=Lib.hid ci
 have Hcd:=Lib.hid cd
 clear cO ck cj ci cd
 have Fn:=Lib.hid Pn
 clear Pn
 go_enter Tryd.func37,Tryd.ntmps37
 go_wp2_with fail
 have BW:=Lib.hid (Below.refl w.heap.size w)
 have Ex:w.heap.size≤w.heap.size+1+1+1+1:=by have:=BW.out.size;omega
 have Dnx:gn≠w.heap.size+1+1+1+1:=by have:=Fn.out.lt;omega
 have Dtx:w.heap.size≠w.heap.size+1+1+1+1:=by omega
 have Dax:w.heap.size+1≠w.heap.size+1+1+1+1:=by omega
 have Dbx:w.heap.size+1+1≠w.heap.size+1+1+1+1:=by omega
 have Dmx:w.heap.size+1+1+1≠w.heap.size+1+1+1+1:=by omega
 generalize hW1:(((((w.alloc (.cells #[.func (.func 35) #[] #[.pointer (some ⟨gn,0,none⟩)]] 62)).alloc (.cells #[.int .u64 (wd A 0:Nat),.int .u64 (wd A 1:Nat),.int .u64 (wd A 2:Nat),.int .u64 (wd A 3:Nat)] 24)).alloc (.cells #[.int .u64 (wd B 0:Nat),.int .u64 (wd B 1:Nat),.int .u64 (wd B 2:Nat),.int .u64 (wd B 3:Nat)] 24)).alloc (.cells #[.int .u64 (wd M 0:Nat),.int .u64 (wd M 1:Nat),.int .u64 (wd M 2:Nat),.int .u64 (wd M 3:Nat)] 24)).alloc (.cells #[.int .u64 0,.int .u64 0,.int .u64 0,.int .u64 0] 24))=W1 at *
 have Nt:At W1 (w.heap.size) _ _:=at_of hW1 (((((At.at_ _ _ _ _ (by simp)).alloc _).alloc _).alloc _).alloc _)
 have Na:At W1 (w.heap.size+1) _ _:=at_of hW1 ((((At.at_ _ _ _ _ (by simp)).alloc _).alloc _).alloc _)
 have Nb:At W1 (w.heap.size+1+1) _ _:=at_of hW1 (((At.at_ _ _ _ _ (by simp)).alloc _).alloc _)
 have Nm:At W1 (w.heap.size+1+1+1) _ _:=at_of hW1 ((At.at_ _ _ _ _ (by simp)).alloc _)
 have Nx:At W1 (w.heap.size+1+1+1+1) _ _:=at_of hW1 (At.at_ _ _ _ _ (by simp))
 have Nn:=at_of hW1 (((((Fn.out.alloc _).alloc _).alloc _).alloc _).alloc _)
 have NB:=gr_of hW1 (gr_alloc (gr_alloc (gr_alloc (gr_alloc (gr_alloc BW.out _) _) _) _) _)
 clear hW1 BW Fn
 generalize w.heap.size+1+1+1+1=gx at *
 generalize w.heap.size+1+1+1=gm at *
 generalize w.heap.size+1+1=gb at *
 generalize w.heap.size+1=ga at *
 obtain ⟨gt,hg0⟩:∃ g,g=w.heap.size:=⟨_,rfl⟩
 rw [← hg0] at Nt ⊢
 rw [← hg0] at Dtx
 clear hg0
 have Fn:=Lib.hid Nn
 have Ft:=Lib.hid Nt
 have Fa:=Lib.hid Na
 have Fb:=Lib.hid Nb
 have Fm:=Lib.hid Nm
 have Fx:=Lib.hid Nx
 have BW:=Lib.hid NB
 clear NB Nn Nt Na Nb Nm Nx
 try simp only [List.append_eq,List.cons_append,List.nil_append]
 refine wp_region_noPanic ?_
 refine wp_region_held_drew (S:=fun w'=>At w' gm 24 #[.int .u64 (wd M 0:Nat),.int .u64 (wd M 1:Nat),.int .u64 (wd M 2:Nat),.int .u64 (wd M 3:Nat)]∧At w' ga 24 #[.int .u64 (wd A 0:Nat),.int .u64 (wd A 1:Nat),.int .u64 (wd A 2:Nat),.int .u64 (wd A 3:Nat)]∧At w' gb 24 #[.int .u64 (wd B 0:Nat),.int .u64 (wd B 1:Nat),.int .u64 (wd B 2:Nat),.int .u64 (wd B 3:Nat)]) (by kernel_rfl) (⟨Fm.out.drew,Fa.out.drew,Fb.out.drew⟩) (fun _=>?_)
 refine wpAnyH_cores (fuel:=0) (⟨0,10,[],Kind.val (.agg #[.int .u64 (wd M 0:Nat),.int .u64 (wd M 1:Nat),.int .u64 (wd M 2:Nat),.int .u64 (wd M 3:Nat)]),true⟩::⟨1,11,[0],Kind.val (.agg #[.int .u64 (wd Z 0:Nat),.int .u64 (wd Z 1:Nat),.int .u64 (wd Z 2:Nat),.int .u64 (wd Z 3:Nat)]),false⟩::⟨2,12,[0,1],Kind.val (.int .i64 k),false⟩::⟨3,13,[2],Kind.val (.bool false),true⟩::⟨4,14,[3],Kind.val (.bool false),true⟩::⟨5,15,[4],Kind.val (.agg #[.int .u64 (wd A 0:Nat),.int .u64 (wd A 1:Nat),.int .u64 (wd A 2:Nat),.int .u64 (wd A 3:Nat)]),true⟩::⟨6,16,[4,5],Kind.val (.agg #[.int .u64 (wd M 0:Nat),.int .u64 (wd M 1:Nat),.int .u64 (wd M 2:Nat),.int .u64 (wd M 3:Nat)]),true⟩::⟨7,17,[4,5,6],Kind.val (.int .i64 j),false⟩::⟨8,18,[4,7],Kind.val (.bool false),true⟩::⟨9,19,[4,8],Kind.val (.bool false),true⟩::⟨10,20,[9],Kind.val (.bool false),true⟩::⟨11,21,[10],Kind.val (.agg #[.int .u64 (wd B 0:Nat),.int .u64 (wd B 1:Nat),.int .u64 (wd B 2:Nat),.int .u64 (wd B 3:Nat)]),true⟩::⟨12,22,[10,11],Kind.val (.agg #[.int .u64 (wd M 0:Nat),.int .u64 (wd M 1:Nat),.int .u64 (wd M 2:Nat),.int .u64 (wd M 3:Nat)]),true⟩::⟨13,23,[10,11,12],Kind.val (.int .i64 i),false⟩::⟨14,24,[10,13],Kind.val (.bool false),true⟩::⟨15,25,[10,14],Kind.val (.bool false),true⟩::[]) _ _ W1 _ ?_ ?_ ?_ ?_ ?_ ?_ ?_ ?_ ?_ ?_ ?_
 ·rfl
 ·kernel_rfl
 ·exact of_decide_eq_true (by kernel_rfl)
 ·(repeat refine all_cons ⟨_,by rfl,by rfl⟩ ?_);exact all_nil
 ·exact fun _ hb=>⟨Fm.out.on hb,Fa.out.on hb,Fb.out.on hb⟩
 ·exact (Below.refl _ _).drew
 ·kernel_rfl
 ·exact fun _ _ _ _ _ h=>h
 ·(repeat (refine all_cons ?_ ?_;rotate_left));exact all_nil
  ·exact coreG_loadP _ _ _ _ _ _ gm _ _ _ _ (by rfl) (by rfl) (wants_none) (ko 7) (fun _ hs=>hs.1)
  ·exact core_pureAs _ (by rfl)
  ·exact core_pureAs _ (by rfl)
  ·exact coreG_bin _ _ _ _ _ _ _ _ _ _ _ _ _ (by rfl) (by rfl) (wants_none) (kc 2 12) (known_const _) ((fun ρ w hx hy=>by simp only [execOp,hx,hy];simp [go_sem];exact hk))
  ·exact coreG_move _ _ _ _ _ _ _ (by rfl) (by rfl) (wants_none) (kc 3 13)
  ·exact coreG_loadP _ _ _ _ _ _ ga _ _ _ _ (by rfl) (by rfl) (wc 4 14 4 (kc 4 14)) (ko 5) (fun _ hs=>hs.2.1)
  ·exact coreG_loadP _ _ _ _ _ _ gm _ _ _ _ (by rfl) (by rfl) (wc 4 14 4 (kc 4 14)) (ko 7) (fun _ hs=>hs.1)
  ·exact core_pureAs _ (by rfl)
  ·exact coreG_bin _ _ _ _ _ _ _ _ _ _ _ _ _ (by rfl) (by rfl) (wc 4 14 4 (kc 4 14)) (kc 7 17) (known_const _) ((fun ρ w hx hy=>by simp only [execOp,hx,hy];simp [go_sem];exact hj))
  ·exact coreG_pick _ _ _ _ _ _ _ _ _ _ _ _ (by rfl) (by rfl) (wants_none) (kc 4 14) (known_const _) (kc 8 18) (by rfl)
  ·exact coreG_move _ _ _ _ _ _ _ (by rfl) (by rfl) (wants_none) (kc 9 19)
  ·exact coreG_loadP _ _ _ _ _ _ gb _ _ _ _ (by rfl) (by rfl) (wc 10 20 10 (kc 10 20)) (ko 6) (fun _ hs=>hs.2.2)
  ·exact coreG_loadP _ _ _ _ _ _ gm _ _ _ _ (by rfl) (by rfl) (wc 10 20 10 (kc 10 20)) (ko 7) (fun _ hs=>hs.1)
  ·exact core_pureAs _ (by rfl)
  ·exact coreG_bin _ _ _ _ _ _ _ _ _ _ _ _ _ (by rfl) (by rfl) (wc 10 20 10 (kc 10 20)) (kc 13 23) (known_const _) ((fun ρ w hx hy=>by simp only [execOp,hx,hy];simp [go_sem];exact hi))
  ·exact coreG_pick _ _ _ _ _ _ _ _ _ _ _ _ (by rfl) (by rfl) (wants_none) (kc 10 20) (known_const _) (kc 14 24) (by rfl)
 ·(repeat (refine all_cons ?_ ?_;rotate_left));exact all_nil
  ·exact sA
  ·exact fun _=>coreG_call _ 30 _ _ [.const (.int .u64 1)] _ _ _ _ _ _ _ (by rfl) Tryd.func30 (by kernel_rfl) (by rfl) (by rfl) (wants_none) (.cons (known_const _) .nil) (HcO.out)
  ·exact fun _=>coreG_call _ 12 _ _ [.tmp 10,.tmp 11] _ _ _ _ _ _ _ (by rfl) Tryd.func12 (by kernel_rfl) (by rfl) (by rfl) (wants_none) (.cons (kc 0 10) (.cons (kc 1 11) .nil)) (Hck.out)
  ·exact sA
  ·exact sA
  ·exact sA
  ·exact sA
  ·exact fun _=>coreG_call _ 12 _ _ [.tmp 15,.tmp 16] _ _ _ _ _ _ _ (by rfl) Tryd.func12 (by kernel_rfl) (by rfl) (by rfl) (wc 4 14 4 (kc 4 14)) (.cons (kc 5 15) (.cons (kc 6 16) .nil)) (Hcj.out)
  ·exact sA
  ·exact sA
  ·exact sA
  ·exact sA
  ·exact sA
  ·exact fun _=>coreG_call _ 12 _ _ [.tmp 21,.tmp 22] _ _ _ _ _ _ _ (by rfl) Tryd.func12 (by kernel_rfl) (by rfl) (by rfl) (wc 10 20 10 (kc 10 20)) (.cons (kc 11 21) (.cons (kc 12 22) .nil)) (Hci.out)
  ·exact sA
  ·exact sA
 intro vs y2 hc
 obtain ⟨vv0,vv1,vv2,vv3,vv4,vv5,vv6,vv7,vv8,vv9,vv10,vv11,vv12,vv13,vv14,vv15,rfl⟩:=len16 vs hc.lv
 have qq0:=okv hc 0
 have qq1:=okv hc 1
 have qq2:=okv hc 2
 have qq3:=okv hc 3
 have qq4:=okv hc 4
 have qq5:=okv hc 5
 have qq6:=okv hc 6
 have qq7:=okv hc 7
 have qq8:=okv hc 8
 have qq9:=okv hc 9
 have qq10:=okv hc 10
 have qq11:=okv hc 11
 have qq12:=okv hc 12
 have qq13:=okv hc 13
 have qq14:=okv hc 14
 have qq15:=okv hc 15
 have BZ:=hc.bel
 clear hc
 have Nn:=Fn.out.on BZ
 have Nt:=Ft.out.on BZ
 have Na:=Fa.out.on BZ
 have Nb:=Fb.out.on BZ
 have Nm:=Fm.out.on BZ
 have Nx:=Fx.out.on BZ
 have NB:=bel_tr BW.out BZ
 clear BW BZ Fn Ft Fa Fb Fm Fx
 subst qq0 qq1 qq2 qq3 qq4 qq5 qq6 qq7 qq8 qq9 qq10 qq11 qq12 qq13 qq14 qq15
 simp only [List.map_cons,List.map_nil,over,Act.put,List.setIfInBounds_toArray,List.set_cons_zero,List.set_cons_succ]
 refine wpAnyH_done (by kernel_rfl) ?_ _
 refine NoPanic.normal ?_
 have Fn:=Lib.hid Nn
 have Ft:=Lib.hid Nt
 have Fa:=Lib.hid Na
 have Fb:=Lib.hid Nb
 have Fm:=Lib.hid Nm
 have Fx:=Lib.hid Nx
 have BW:=Lib.hid NB
 clear NB Nn Nt Na Nb Nm Nx
 have Lt:=Ft.out.lt
 have ct0:y2.cell? ⟨gt,0,none⟩=some (.func (.func 35) #[] #[.pointer (some ⟨gn,0,none⟩)]):=Ft.out.cell 0
 have La:=Fa.out.lt
 have ca0:=Fa.out.c0
 have ca1:=Fa.out.c1
 have ca2:=Fa.out.c2
 have ca3:=Fa.out.c3
 have Lb:=Fb.out.lt
 have cb0:=Fb.out.c0
 have cb1:=Fb.out.c1
 have cb2:=Fb.out.c2
 have cb3:=Fb.out.c3
 have Lm:=Fm.out.lt
 have cm0:=Fm.out.c0
 have cm1:=Fm.out.c1
 have cm2:=Fm.out.c2
 have cm3:=Fm.out.c3
 go_wp2_with fail
 clear Lt ct0 La ca0 ca1 ca2 ca3 Lb cb0 cb1 cb2 cb3 Lm cm0 cm1 cm2 cm3
 refine (Hcd.out _ Fn.out).mono ?_
 rintro e v3 ⟨rfl,z3⟩
 have Nn:=Lib.hid (Fn.out.on z3)
 have Nt:=Lib.hid (Ft.out.on z3)
 have Na:=Lib.hid (Fa.out.on z3)
 have Nb:=Lib.hid (Fb.out.on z3)
 have Nm:=Lib.hid (Fm.out.on z3)
 have Nx:=Lib.hid (Fx.out.on z3)
 have NB:=Lib.hid (bel_tr BW.out z3)
 clear BW z3 Fn Ft Fa Fb Fm Fx
 have Fn:=Nn
 have Ft:=Nt
 have Fa:=Na
 have Fb:=Nb
 have Fm:=Nm
 have Fx:=Nx
 have BW:=NB
 clear NB Nn Nt Na Nb Nm Nx
 have Lx:=Fx.out.lt
 have cx0:=Fx.out.c0
 have cx1:=Fx.out.c1
 have cx2:=Fx.out.c2
 have cx3:=Fx.out.c3
 have fx0:v3.frozen? ⟨gx,0,none⟩=false:=Fx.out.frozen 0
 have fx1:v3.frozen? ⟨gx,1,none⟩=false:=Fx.out.frozen 1
 have fx2:v3.frozen? ⟨gx,2,none⟩=false:=Fx.out.frozen 2
 have fx3:v3.frozen? ⟨gx,3,none⟩=false:=Fx.out.frozen 3
 go_wp2_with fail
 clear Lx cx0 cx1 cx2 cx3 fx0 fx1 fx2 fx3
 generalize hW4:((((v3.setCell ⟨gx,0,none⟩ (.int .u64 (wd V 0:Nat))).setCell ⟨gx,1,none⟩ (.int .u64 (wd V 1:Nat))).setCell ⟨gx,2,none⟩ (.int .u64 (wd V 2:Nat))).setCell ⟨gx,3,none⟩ (.int .u64 (wd V 3:Nat)))=W4 at *
 have Nn:=at_of hW4 ((Fn.out).far4 Dnx _ _ _ _)
 have Nt:=at_of hW4 ((Ft.out).far4 Dtx _ _ _ _)
 have Na:=at_of hW4 ((Fa.out).far4 Dax _ _ _ _)
 have Nb:=at_of hW4 ((Fb.out).far4 Dbx _ _ _ _)
 have Nm:=at_of hW4 ((Fm.out).far4 Dmx _ _ _ _)
 have Nx:=at_of hW4 ((Fx.out).put4 _ _ _ _)
 have NB:=gr_of hW4 (((((BW.out).setCell Ex _).setCell Ex _).setCell Ex _).setCell Ex _)
 clear hW4 BW Fn Ft Fa Fb Fm Fx
 have Fn:=Lib.hid Nn
 have Ft:=Lib.hid Nt
 have Fa:=Lib.hid Na
 have Fb:=Lib.hid Nb
 have Fm:=Lib.hid Nm
 have Fx:=Lib.hid Nx
 have BW:=Lib.hid NB
 clear NB Nn Nt Na Nb Nm Nx
 have Lx:=Fx.out.lt
 have cx0:=Fx.out.c0
 have cx1:=Fx.out.c1
 have cx2:=Fx.out.c2
 have cx3:=Fx.out.c3
 refine bodyPost_ret (v:=.tuple #[num V,.int .i64 er]) (by simp [results,Tryd.results37,go_sem, *]) rfl ⟨rfl,BW.out⟩

end Go.Proofs.YtlphnfajhpkleaaDoor
