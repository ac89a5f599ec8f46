import Derived.Test.YtcbnmdkmfdjpiaaPMod8
import Derived.Test.YtcbnmdkmfdjpiaaPShort
namespace Go.Proofs.Ytcbnmdkmfdjpiaa
set_option maxRecDepth 100000
set_option maxHeartbeats 8000000
open Go.RowKit
set_option linter.unusedSimpArgs false
set_option linter.unusedVariables false
attribute [local go_sem ↓] Go.wp_at_zero Go.wp_at_succ

theorem with_bad0 (A B M Z:Nat) (fv:Value) (k:Int)
  (hk:k≤0)
  (cO:∀ w,Calls Try.prog 23 #[.int .u64 1] w fun e w'=>e=.returned (num Z)∧Below w.heap.size w w')
  (ck:∀ w,Calls Try.prog 64 #[num M,num Z] w fun e w'=>e=.returned (.int .i64 k)∧Below w.heap.size w w')
  (w:World):Calls Try.prog 46 #[.agg #[fv],num A,num B,num M] w fun e w'=>e=.returned (.tuple #[.agg #[.int .u64 0,.int .u64 0,.int .u64 0,.int .u64 0],.int .i64 1])∧Below w.heap.size w w':=by
 have HcO:=Jgm cO
 have Hck:=Jgm ck
 clear cO ck
 go_enter Try.func46,Try.ntmps46
 go_wp2_with fail
 have BW:=Jgm (Below.refl w.heap.size w)
 have Ex:w.heap.size≤w.heap.size+1+1+1+1:=by have:=BW.out.size;omega
 have Dtx:w.heap.size≠w.heap.size+1+1+1+1:=by omega
 have Dax:w.heap.size+1≠w.heap.size+1+1+1+1:=by omega
 have Dbx:w.heap.size+1+1≠w.heap.size+1+1+1+1:=by omega
 have Dmx:w.heap.size+1+1+1≠w.heap.size+1+1+1+1:=by omega
 generalize hW1:(((((w.alloc (.cells #[fv] 73)).alloc (.cells (ncs A) 24)).alloc (.cells (ncs B) 24)).alloc (.cells (ncs M) 24)).alloc (.cells #[.int .u64 0,.int .u64 0,.int .u64 0,.int .u64 0] 24))=W1 at *
 have Nt:At W1 (w.heap.size) _ _:=Jd hW1 (((((At.at_ _ _ _ _ (by simp)).alloc _).alloc _).alloc _).alloc _)
 have Na:At W1 (w.heap.size+1) _ _:=Jd hW1 ((((At.at_ _ _ _ _ (by simp)).alloc _).alloc _).alloc _)
 have Nb:At W1 (w.heap.size+1+1) _ _:=Jd hW1 (((At.at_ _ _ _ _ (by simp)).alloc _).alloc _)
 have Nm:At W1 (w.heap.size+1+1+1) _ _:=Jd hW1 ((At.at_ _ _ _ _ (by simp)).alloc _)
 have Nx:At W1 (w.heap.size+1+1+1+1) _ _:=Jd hW1 (At.at_ _ _ _ _ (by simp))
 have NB:=Ke hW1 (Jb (Jb (Jb (Jb (Jb BW.out _) _) _) _) _)
 clear hW1 BW 
 generalize w.heap.size+1+1+1+1=gx at *
 generalize w.heap.size+1+1+1=gm at *
 generalize w.heap.size+1+1=gb at *
 generalize w.heap.size+1=ga at *
 obtain ⟨gt,hg0⟩:∃ g,g=w.heap.size:=⟨_,rfl⟩
 rw [← hg0] at Nt ⊢
 rw [← hg0] at Dtx
 clear hg0
 have Ft:=Jgm Nt
 have Fa:=Jgm Na
 have Fb:=Jgm Nb
 have Fm:=Jgm Nm
 have Fx:=Jgm Nx
 have BW:=Jgm NB
 clear NB Nt Na Nb Nm Nx
 try simp only [List.append_eq,List.cons_append,List.nil_append]
 refine wp_region_noPanic ?_
 refine wp_region_held_drew (S:=fun w'=>At w' gm 24 (ncs M)∧At w' ga 24 (ncs A)∧At w' gb 24 (ncs B)) (by kernel_rfl) (⟨Fm.out.drew,Fa.out.drew,Fb.out.drew⟩) (fun _=>?_)
 refine Kf (fuel:=0) (⟨0,10,[],Kind.val (num M),true⟩::⟨1,11,[0],Kind.val (num Z),false⟩::⟨2,12,[0,1],Kind.val (.int .i64 k),false⟩::⟨3,13,[2],Kind.val (.bool true),true⟩::⟨4,14,[3],Kind.val (.bool true),true⟩::⟨5,15,[4],Kind.val (undef),true⟩::⟨6,16,[4,5],Kind.val (undef),true⟩::⟨7,17,[4,5,6],Kind.val (undef),true⟩::⟨8,18,[4,7],Kind.val (undef),true⟩::⟨9,19,[4,8],Kind.val (.bool true),true⟩::⟨10,20,[9],Kind.val (.bool true),true⟩::⟨11,21,[10],Kind.val (undef),true⟩::⟨12,22,[10,11],Kind.val (undef),true⟩::⟨13,23,[10,11,12],Kind.val (undef),true⟩::⟨14,24,[10,13],Kind.val (undef),true⟩::⟨15,25,[10,14],Kind.val (.bool true),true⟩::[]) _ _ W1 _ ?_ ?_ ?_ ?_ ?_ ?_ ?_ ?_ ?_ ?_ ?_
 ·rfl
 ·kernel_rfl
 ·exact of_decide_eq_true (by kernel_rfl)
 ·(repeat refine all_cons ⟨_,by rfl,by rfl⟩ ?_);exact Jj
 ·exact fun _ hb=>⟨Fm.out.on hb,Fa.out.on hb,Fb.out.on hb⟩
 ·exact (Below.refl _ _).drew
 ·kernel_rfl
 ·exact fun _ _ _ _ _ h=>h
 ·(repeat (refine all_cons ?_ ?_;rotate_left));exact Jj
  ·exact Jz _ _ _ _ _ _ gm _ _ _ _ (by rfl) (by rfl) (Jh) (ko 7) (fun _ hs=>hs.1)
  ·exact Jq _ (by rfl)
  ·exact Jq _ (by rfl)
  ·exact Kl _ _ _ _ _ _ _ _ _ _ _ _ _ (by rfl) (by rfl) (Jh) (kc 2 12) (Je _) ((fun ρ w hx hy=>by simp only [execOp,hx,hy];simp [go_sem];exact hk))
  ·exact Km _ _ _ _ _ _ _ (by rfl) (by rfl) (Jh) (kc 3 13)
  ·exact Jl _ _ _ _ _ _ (by rfl) (by rfl) (wc 4 14 4 (kc 4 14))
  ·exact Jl _ _ _ _ _ _ (by rfl) (by rfl) (wc 4 14 4 (kc 4 14))
  ·exact Jl _ _ _ _ _ _ (by rfl) (by rfl) (wc 4 14 4 (kc 4 14))
  ·exact Jl _ _ _ _ _ _ (by rfl) (by rfl) (wc 4 14 4 (kc 4 14))
  ·exact Kz _ _ _ _ _ _ _ _ _ _ _ _ (by rfl) (by rfl) (Jh) (kc 4 14) (Je _) (kc 8 18) (by rfl)
  ·exact Km _ _ _ _ _ _ _ (by rfl) (by rfl) (Jh) (kc 9 19)
  ·exact Jl _ _ _ _ _ _ (by rfl) (by rfl) (wc 10 20 10 (kc 10 20))
  ·exact Jl _ _ _ _ _ _ (by rfl) (by rfl) (wc 10 20 10 (kc 10 20))
  ·exact Jl _ _ _ _ _ _ (by rfl) (by rfl) (wc 10 20 10 (kc 10 20))
  ·exact Jl _ _ _ _ _ _ (by rfl) (by rfl) (wc 10 20 10 (kc 10 20))
  ·exact Kz _ _ _ _ _ _ _ _ _ _ _ _ (by rfl) (by rfl) (Jh) (kc 10 20) (Je _) (kc 14 24) (by rfl)
 ·(repeat (refine all_cons ?_ ?_;rotate_left));exact Jj
  all_goals try exact sA
  ·exact fun _=>Jm _ 23 _ _ [.const (.int .u64 1)] _ _ _ _ _ _ _ (by rfl) Try.func23 (by kernel_rfl) (by rfl) (by rfl) (Jh) (.cons (Je _) .nil) (HcO.out)
  ·exact fun _=>Jm _ 64 _ _ [.tmp 10,.tmp 11] _ _ _ _ _ _ _ (by rfl) Try.func64 (by kernel_rfl) (by rfl) (by rfl) (Jh) (.cons (kc 0 10) (.cons (kc 1 11) .nil)) (Hck.out)
 intro vs y2 hc
 obtain ⟨vv0,vv1,vv2,vv3,vv4,vv5,vv6,vv7,vv8,vv9,vv10,vv11,vv12,vv13,vv14,vv15,rfl⟩:=Jed vs hc.lv
 have qq0:=okv hc 0
 have qq1:=okv hc 1
 have qq2:=okv hc 2
 have qq3:=okv hc 3
 have qq4:=okv hc 4
 have qq5:=okv hc 5
 have qq6:=okv hc 6
 have qq7:=okv hc 7
 have qq8:=okv hc 8
 have qq9:=okv hc 9
 have qq10:=okv hc 10
 have qq11:=okv hc 11
 have qq12:=okv hc 12
 have qq13:=okv hc 13
 have qq14:=okv hc 14
 have qq15:=okv hc 15
 have BZ:=hc.bel
 clear hc
 have Nt:=Ft.out.on BZ
 have Na:=Fa.out.on BZ
 have Nb:=Fb.out.on BZ
 have Nm:=Fm.out.on BZ
 have Nx:=Fx.out.on BZ
 have NB:=Jw BW.out BZ
 clear BW BZ Ft Fa Fb Fm Fx
 subst qq0 qq1 qq2 qq3 qq4 qq5 qq6 qq7 qq8 qq9 qq10 qq11 qq12 qq13 qq14 qq15
 simp only [List.map_cons,List.map_nil,over,Act.put,List.setIfInBounds_toArray,List.set_cons_zero,List.set_cons_succ]
 refine wpAnyH_done (by kernel_rfl) ?_ _
 refine NoPanic.normal ?_
 have Ft:=Jgm Nt
 have Fa:=Jgm Na
 have Fb:=Jgm Nb
 have Fm:=Jgm Nm
 have Fx:=Jgm Nx
 have BW:=Jgm NB
 clear NB Nt Na Nb Nm Nx
 have Lx:=Fx.out.lt
 have cx0:=Fx.out.c0;have cx1:=Fx.out.c1;have cx2:=Fx.out.c2;have cx3:=Fx.out.c3
 obtain ⟨fx0,fx1,fx2,fx3⟩:=Wc Fx.out
 go_wp2_with fail
 clear Lx cx0 cx1 cx2 cx3 fx0 fx1 fx2 fx3
 generalize hW3:((((y2.setCell ⟨gx,0,none⟩ (.int .u64 0)).setCell ⟨gx,1,none⟩ (.int .u64 0)).setCell ⟨gx,2,none⟩ (.int .u64 0)).setCell ⟨gx,3,none⟩ (.int .u64 0))=W3 at *
 have Nt:=Jd hW3 ((Ft.out).far4 Dtx _ _ _ _)
 have Na:=Jd hW3 ((Fa.out).far4 Dax _ _ _ _)
 have Nb:=Jd hW3 ((Fb.out).far4 Dbx _ _ _ _)
 have Nm:=Jd hW3 ((Fm.out).far4 Dmx _ _ _ _)
 have Nx:=Jd hW3 ((Fx.out).put4 _ _ _ _)
 have NB:=Ke hW3 (((((BW.out).setCell Ex _).setCell Ex _).setCell Ex _).setCell Ex _)
 clear hW3 BW Ft Fa Fb Fm Fx
 have Ft:=Jgm Nt
 have Fa:=Jgm Na
 have Fb:=Jgm Nb
 have Fm:=Jgm Nm
 have Fx:=Jgm Nx
 have BW:=Jgm NB
 clear NB Nt Na Nb Nm Nx
 have Lx:=Fx.out.lt
 have cx0:=Fx.out.c0;have cx1:=Fx.out.c1;have cx2:=Fx.out.c2;have cx3:=Fx.out.c3
 refine bodyPost_ret (v:=.tuple #[.agg #[.int .u64 0,.int .u64 0,.int .u64 0,.int .u64 0],.int .i64 1]) (by simp [results,Try.results46,go_sem, *]) rfl ⟨rfl,BW.out⟩

theorem with_bad1 (A B M Z:Nat) (fv:Value) (k j:Int)
  (hk:0<k)
  (hj:0≤j)
  (cO:∀ w,Calls Try.prog 23 #[.int .u64 1] w fun e w'=>e=.returned (num Z)∧Below w.heap.size w w')
  (ck:∀ w,Calls Try.prog 64 #[num M,num Z] w fun e w'=>e=.returned (.int .i64 k)∧Below w.heap.size w w')
  (cj:∀ w,Calls Try.prog 64 #[num A,num M] w fun e w'=>e=.returned (.int .i64 j)∧Below w.heap.size w w')
  (w:World):Calls Try.prog 46 #[.agg #[fv],num A,num B,num M] w fun e w'=>e=.returned (.tuple #[.agg #[.int .u64 0,.int .u64 0,.int .u64 0,.int .u64 0],.int .i64 1])∧Below w.heap.size w w':=by
 have HcO:=Jgm cO
 have Hck:=Jgm ck
 have Hcj:=Jgm cj
 clear cO ck cj
 go_enter Try.func46,Try.ntmps46
 go_wp2_with fail
 have BW:=Jgm (Below.refl w.heap.size w)
 have Ex:w.heap.size≤w.heap.size+1+1+1+1:=by have:=BW.out.size;omega
 have Dtx:w.heap.size≠w.heap.size+1+1+1+1:=by omega
 have Dax:w.heap.size+1≠w.heap.size+1+1+1+1:=by omega
 have Dbx:w.heap.size+1+1≠w.heap.size+1+1+1+1:=by omega
 have Dmx:w.heap.size+1+1+1≠w.heap.size+1+1+1+1:=by omega
 generalize hW1:(((((w.alloc (.cells #[fv] 73)).alloc (.cells (ncs A) 24)).alloc (.cells (ncs B) 24)).alloc (.cells (ncs M) 24)).alloc (.cells #[.int .u64 0,.int .u64 0,.int .u64 0,.int .u64 0] 24))=W1 at *
 have Nt:At W1 (w.heap.size) _ _:=Jd hW1 (((((At.at_ _ _ _ _ (by simp)).alloc _).alloc _).alloc _).alloc _)
 have Na:At W1 (w.heap.size+1) _ _:=Jd hW1 ((((At.at_ _ _ _ _ (by simp)).alloc _).alloc _).alloc _)
 have Nb:At W1 (w.heap.size+1+1) _ _:=Jd hW1 (((At.at_ _ _ _ _ (by simp)).alloc _).alloc _)
 have Nm:At W1 (w.heap.size+1+1+1) _ _:=Jd hW1 ((At.at_ _ _ _ _ (by simp)).alloc _)
 have Nx:At W1 (w.heap.size+1+1+1+1) _ _:=Jd hW1 (At.at_ _ _ _ _ (by simp))
 have NB:=Ke hW1 (Jb (Jb (Jb (Jb (Jb BW.out _) _) _) _) _)
 clear hW1 BW 
 generalize w.heap.size+1+1+1+1=gx at *
 generalize w.heap.size+1+1+1=gm at *
 generalize w.heap.size+1+1=gb at *
 generalize w.heap.size+1=ga at *
 obtain ⟨gt,hg0⟩:∃ g,g=w.heap.size:=⟨_,rfl⟩
 rw [← hg0] at Nt ⊢
 rw [← hg0] at Dtx
 clear hg0
 have Ft:=Jgm Nt
 have Fa:=Jgm Na
 have Fb:=Jgm Nb
 have Fm:=Jgm Nm
 have Fx:=Jgm Nx
 have BW:=Jgm NB
 clear NB Nt Na Nb Nm Nx
 try simp only [List.append_eq,List.cons_append,List.nil_append]
 refine wp_region_noPanic ?_
 refine wp_region_held_drew (S:=fun w'=>At w' gm 24 (ncs M)∧At w' ga 24 (ncs A)∧At w' gb 24 (ncs B)) (by kernel_rfl) (⟨Fm.out.drew,Fa.out.drew,Fb.out.drew⟩) (fun _=>?_)
 refine Kf (fuel:=0) (⟨0,10,[],Kind.val (num M),true⟩::⟨1,11,[0],Kind.val (num Z),false⟩::⟨2,12,[0,1],Kind.val (.int .i64 k),false⟩::⟨3,13,[2],Kind.val (.bool false),true⟩::⟨4,14,[3],Kind.val (.bool false),true⟩::⟨5,15,[4],Kind.val (num A),true⟩::⟨6,16,[4,5],Kind.val (num M),true⟩::⟨7,17,[4,5,6],Kind.val (.int .i64 j),false⟩::⟨8,18,[4,7],Kind.val (.bool true),true⟩::⟨9,19,[4,8],Kind.val (.bool true),true⟩::⟨10,20,[9],Kind.val (.bool true),true⟩::⟨11,21,[10],Kind.val (undef),true⟩::⟨12,22,[10,11],Kind.val (undef),true⟩::⟨13,23,[10,11,12],Kind.val (undef),true⟩::⟨14,24,[10,13],Kind.val (undef),true⟩::⟨15,25,[10,14],Kind.val (.bool true),true⟩::[]) _ _ W1 _ ?_ ?_ ?_ ?_ ?_ ?_ ?_ ?_ ?_ ?_ ?_
 ·rfl
 ·kernel_rfl
 ·exact of_decide_eq_true (by kernel_rfl)
 ·(repeat refine all_cons ⟨_,by rfl,by rfl⟩ ?_);exact Jj
 ·exact fun _ hb=>⟨Fm.out.on hb,Fa.out.on hb,Fb.out.on hb⟩
 ·exact (Below.refl _ _).drew
 ·kernel_rfl
 ·exact fun _ _ _ _ _ h=>h
 ·(repeat (refine all_cons ?_ ?_;rotate_left));exact Jj
  all_goals try exact Jq _ (by rfl)
  ·exact Jz _ _ _ _ _ _ gm _ _ _ _ (by rfl) (by rfl) (Jh) (ko 7) (fun _ hs=>hs.1)
  ·exact Kl _ _ _ _ _ _ _ _ _ _ _ _ _ (by rfl) (by rfl) (Jh) (kc 2 12) (Je _) ((fun ρ w hx hy=>by simp only [execOp,hx,hy];simp [go_sem];exact hk))
  ·exact Km _ _ _ _ _ _ _ (by rfl) (by rfl) (Jh) (kc 3 13)
  ·exact Jz _ _ _ _ _ _ ga _ _ _ _ (by rfl) (by rfl) (wc 4 14 4 (kc 4 14)) (ko 5) (fun _ hs=>hs.2.1)
  ·exact Jz _ _ _ _ _ _ gm _ _ _ _ (by rfl) (by rfl) (wc 4 14 4 (kc 4 14)) (ko 7) (fun _ hs=>hs.1)
  ·exact Kl _ _ _ _ _ _ _ _ _ _ _ _ _ (by rfl) (by rfl) (wc 4 14 4 (kc 4 14)) (kc 7 17) (Je _) ((fun ρ w hx hy=>by simp only [execOp,hx,hy];simp [go_sem];exact hj))
  ·exact Kz _ _ _ _ _ _ _ _ _ _ _ _ (by rfl) (by rfl) (Jh) (kc 4 14) (Je _) (kc 8 18) (by rfl)
  ·exact Km _ _ _ _ _ _ _ (by rfl) (by rfl) (Jh) (kc 9 19)
  ·exact Jl _ _ _ _ _ _ (by rfl) (by rfl) (wc 10 20 10 (kc 10 20))
  ·exact Jl _ _ _ _ _ _ (by rfl) (by rfl) (wc 10 20 10 (kc 10 20))
  ·exact Jl _ _ _ _ _ _ (by rfl) (by rfl) (wc 10 20 10 (kc 10 20))
  ·exact Jl _ _ _ _ _ _ (by rfl) (by rfl) (wc 10 20 10 (kc 10 20))
  ·exact Kz _ _ _ _ _ _ _ _ _ _ _ _ (by rfl) (by rfl) (Jh) (kc 10 20) (Je _) (kc 14 24) (by rfl)
 ·(repeat (refine all_cons ?_ ?_;rotate_left));exact Jj
  all_goals try exact sA
  ·exact fun _=>Jm _ 23 _ _ [.const (.int .u64 1)] _ _ _ _ _ _ _ (by rfl) Try.func23 (by kernel_rfl) (by rfl) (by rfl) (Jh) (.cons (Je _) .nil) (HcO.out)
  ·exact fun _=>Jm _ 64 _ _ [.tmp 10,.tmp 11] _ _ _ _ _ _ _ (by rfl) Try.func64 (by kernel_rfl) (by rfl) (by rfl) (Jh) (.cons (kc 0 10) (.cons (kc 1 11) .nil)) (Hck.out)
  ·exact fun _=>Jm _ 64 _ _ [.tmp 15,.tmp 16] _ _ _ _ _ _ _ (by rfl) Try.func64 (by kernel_rfl) (by rfl) (by rfl) (wc 4 14 4 (kc 4 14)) (.cons (kc 5 15) (.cons (kc 6 16) .nil)) (Hcj.out)
 intro vs y2 hc
 obtain ⟨vv0,vv1,vv2,vv3,vv4,vv5,vv6,vv7,vv8,vv9,vv10,vv11,vv12,vv13,vv14,vv15,rfl⟩:=Jed vs hc.lv
 have qq0:=okv hc 0
 have qq1:=okv hc 1
 have qq2:=okv hc 2
 have qq3:=okv hc 3
 have qq4:=okv hc 4
 have qq5:=okv hc 5
 have qq6:=okv hc 6
 have qq7:=okv hc 7
 have qq8:=okv hc 8
 have qq9:=okv hc 9
 have qq10:=okv hc 10
 have qq11:=okv hc 11
 have qq12:=okv hc 12
 have qq13:=okv hc 13
 have qq14:=okv hc 14
 have qq15:=okv hc 15
 have BZ:=hc.bel
 clear hc
 have Nt:=Ft.out.on BZ
 have Na:=Fa.out.on BZ
 have Nb:=Fb.out.on BZ
 have Nm:=Fm.out.on BZ
 have Nx:=Fx.out.on BZ
 have NB:=Jw BW.out BZ
 clear BW BZ Ft Fa Fb Fm Fx
 subst qq0 qq1 qq2 qq3 qq4 qq5 qq6 qq7 qq8 qq9 qq10 qq11 qq12 qq13 qq14 qq15
 simp only [List.map_cons,List.map_nil,over,Act.put,List.setIfInBounds_toArray,List.set_cons_zero,List.set_cons_succ]
 refine wpAnyH_done (by kernel_rfl) ?_ _
 refine NoPanic.normal ?_
 have Ft:=Jgm Nt
 have Fa:=Jgm Na
 have Fb:=Jgm Nb
 have Fm:=Jgm Nm
 have Fx:=Jgm Nx
 have BW:=Jgm NB
 clear NB Nt Na Nb Nm Nx
 have Lx:=Fx.out.lt
 have cx0:=Fx.out.c0;have cx1:=Fx.out.c1;have cx2:=Fx.out.c2;have cx3:=Fx.out.c3
 obtain ⟨fx0,fx1,fx2,fx3⟩:=Wc Fx.out
 go_wp2_with fail
 clear Lx cx0 cx1 cx2 cx3 fx0 fx1 fx2 fx3
 generalize hW3:((((y2.setCell ⟨gx,0,none⟩ (.int .u64 0)).setCell ⟨gx,1,none⟩ (.int .u64 0)).setCell ⟨gx,2,none⟩ (.int .u64 0)).setCell ⟨gx,3,none⟩ (.int .u64 0))=W3 at *
 have Nt:=Jd hW3 ((Ft.out).far4 Dtx _ _ _ _)
 have Na:=Jd hW3 ((Fa.out).far4 Dax _ _ _ _)
 have Nb:=Jd hW3 ((Fb.out).far4 Dbx _ _ _ _)
 have Nm:=Jd hW3 ((Fm.out).far4 Dmx _ _ _ _)
 have Nx:=Jd hW3 ((Fx.out).put4 _ _ _ _)
 have NB:=Ke hW3 (((((BW.out).setCell Ex _).setCell Ex _).setCell Ex _).setCell Ex _)
 clear hW3 BW Ft Fa Fb Fm Fx
 have Ft:=Jgm Nt
 have Fa:=Jgm Na
 have Fb:=Jgm Nb
 have Fm:=Jgm Nm
 have Fx:=Jgm Nx
 have BW:=Jgm NB
 clear NB Nt Na Nb Nm Nx
 have Lx:=Fx.out.lt
 have cx0:=Fx.out.c0;have cx1:=Fx.out.c1;have cx2:=Fx.out.c2;have cx3:=Fx.out.c3
 refine bodyPost_ret (v:=.tuple #[.agg #[.int .u64 0,.int .u64 0,.int .u64 0,.int .u64 0],.int .i64 1]) (by simp [results,Try.results46,go_sem, *]) rfl ⟨rfl,BW.out⟩

theorem with_bad2 (A B M Z:Nat) (fv:Value) (k j i:Int)
  (hk:0<k)
  (hj:j<0)
  (hi:0≤i)
  (cO:∀ w,Calls Try.prog 23 #[.int .u64 1] w fun e w'=>e=.returned (num Z)∧Below w.heap.size w w')
  (ck:∀ w,Calls Try.prog 64 #[num M,num Z] w fun e w'=>e=.returned (.int .i64 k)∧Below w.heap.size w w')
  (cj:∀ w,Calls Try.prog 64 #[num A,num M] w fun e w'=>e=.returned (.int .i64 j)∧Below w.heap.size w w')
  (ci:∀ w,Calls Try.prog 64 #[num B,num M] w fun e w'=>e=.returned (.int .i64 i)∧Below w.heap.size w w')
  (w:World):Calls Try.prog 46 #[.agg #[fv],num A,num B,num M] w fun e w'=>e=.returned (.tuple #[.agg #[.int .u64 0,.int .u64 0,.int .u64 0,.int .u64 0],.int .i64 1])∧Below w.heap.size w w':=by
 have HcO:=Jgm cO
 have Hck:=Jgm ck
 have Hcj:=Jgm cj
 have Hci:=Jgm ci
 clear cO ck cj ci
 go_enter Try.func46,Try.ntmps46
 go_wp2_with fail
 have BW:=Jgm (Below.refl w.heap.size w)
 have Ex:w.heap.size≤w.heap.size+1+1+1+1:=by have:=BW.out.size;omega
 have Dtx:w.heap.size≠w.heap.size+1+1+1+1:=by omega
 have Dax:w.heap.size+1≠w.heap.size+1+1+1+1:=by omega
 have Dbx:w.heap.size+1+1≠w.heap.size+1+1+1+1:=by omega
 have Dmx:w.heap.size+1+1+1≠w.heap.size+1+1+1+1:=by omega
 generalize hW1:(((((w.alloc (.cells #[fv] 73)).alloc (.cells (ncs A) 24)).alloc (.cells (ncs B) 24)).alloc (.cells (ncs M) 24)).alloc (.cells #[.int .u64 0,.int .u64 0,.int .u64 0,.int .u64 0] 24))=W1 at *
 have Nt:At W1 (w.heap.size) _ _:=Jd hW1 (((((At.at_ _ _ _ _ (by simp)).alloc _).alloc _).alloc _).alloc _)
 have Na:At W1 (w.heap.size+1) _ _:=Jd hW1 ((((At.at_ _ _ _ _ (by simp)).alloc _).alloc _).alloc _)
 have Nb:At W1 (w.heap.size+1+1) _ _:=Jd hW1 (((At.at_ _ _ _ _ (by simp)).alloc _).alloc _)
 have Nm:At W1 (w.heap.size+1+1+1) _ _:=Jd hW1 ((At.at_ _ _ _ _ (by simp)).alloc _)
 have Nx:At W1 (w.heap.size+1+1+1+1) _ _:=Jd hW1 (At.at_ _ _ _ _ (by simp))
 have NB:=Ke hW1 (Jb (Jb (Jb (Jb (Jb BW.out _) _) _) _) _)
 clear hW1 BW 
 generalize w.heap.size+1+1+1+1=gx at *
 generalize w.heap.size+1+1+1=gm at *
 generalize w.heap.size+1+1=gb at *
 generalize w.heap.size+1=ga at *
 obtain ⟨gt,hg0⟩:∃ g,g=w.heap.size:=⟨_,rfl⟩
 rw [← hg0] at Nt ⊢
 rw [← hg0] at Dtx
 clear hg0
 have Ft:=Jgm Nt
 have Fa:=Jgm Na
 have Fb:=Jgm Nb
 have Fm:=Jgm Nm
 have Fx:=Jgm Nx
 have BW:=Jgm NB
 clear NB Nt Na Nb Nm Nx
 try simp only [List.append_eq,List.cons_append,List.nil_append]
 refine wp_region_noPanic ?_
 refine wp_region_held_drew (S:=fun w'=>At w' gm 24 (ncs M)∧At w' ga 24 (ncs A)∧At w' gb 24 (ncs B)) (by kernel_rfl) (⟨Fm.out.drew,Fa.out.drew,Fb.out.drew⟩) (fun _=>?_)
 refine Kf (fuel:=0) (⟨0,10,[],Kind.val (num M),true⟩::⟨1,11,[0],Kind.val (num Z),false⟩::⟨2,12,[0,1],Kind.val (.int .i64 k),false⟩::⟨3,13,[2],Kind.val (.bool false),true⟩::⟨4,14,[3],Kind.val (.bool false),true⟩::⟨5,15,[4],Kind.val (num A),true⟩::⟨6,16,[4,5],Kind.val (num M),true⟩::⟨7,17,[4,5,6],Kind.val (.int .i64 j),false⟩::⟨8,18,[4,7],Kind.val (.bool false),true⟩::⟨9,19,[4,8],Kind.val (.bool false),true⟩::⟨10,20,[9],Kind.val (.bool false),true⟩::⟨11,21,[10],Kind.val (num B),true⟩::⟨12,22,[10,11],Kind.val (num M),true⟩::⟨13,23,[10,11,12],Kind.val (.int .i64 i),false⟩::⟨14,24,[10,13],Kind.val (.bool true),true⟩::⟨15,25,[10,14],Kind.val (.bool true),true⟩::[]) _ _ W1 _ ?_ ?_ ?_ ?_ ?_ ?_ ?_ ?_ ?_ ?_ ?_
 ·rfl
 ·kernel_rfl
 ·exact of_decide_eq_true (by kernel_rfl)
 ·(repeat refine all_cons ⟨_,by rfl,by rfl⟩ ?_);exact Jj
 ·exact fun _ hb=>⟨Fm.out.on hb,Fa.out.on hb,Fb.out.on hb⟩
 ·exact (Below.refl _ _).drew
 ·kernel_rfl
 ·exact fun _ _ _ _ _ h=>h
 ·(repeat (refine all_cons ?_ ?_;rotate_left));exact Jj
  all_goals try exact Jq _ (by rfl)
  ·exact Jz _ _ _ _ _ _ gm _ _ _ _ (by rfl) (by rfl) (Jh) (ko 7) (fun _ hs=>hs.1)
  ·exact Kl _ _ _ _ _ _ _ _ _ _ _ _ _ (by rfl) (by rfl) (Jh) (kc 2 12) (Je _) ((fun ρ w hx hy=>by simp only [execOp,hx,hy];simp [go_sem];exact hk))
  ·exact Km _ _ _ _ _ _ _ (by rfl) (by rfl) (Jh) (kc 3 13)
  ·exact Jz _ _ _ _ _ _ ga _ _ _ _ (by rfl) (by rfl) (wc 4 14 4 (kc 4 14)) (ko 5) (fun _ hs=>hs.2.1)
  ·exact Jz _ _ _ _ _ _ gm _ _ _ _ (by rfl) (by rfl) (wc 4 14 4 (kc 4 14)) (ko 7) (fun _ hs=>hs.1)
  ·exact Kl _ _ _ _ _ _ _ _ _ _ _ _ _ (by rfl) (by rfl) (wc 4 14 4 (kc 4 14)) (kc 7 17) (Je _) ((fun ρ w hx hy=>by simp only [execOp,hx,hy];simp [go_sem];exact hj))
  ·exact Kz _ _ _ _ _ _ _ _ _ _ _ _ (by rfl) (by rfl) (Jh) (kc 4 14) (Je _) (kc 8 18) (by rfl)
  ·exact Km _ _ _ _ _ _ _ (by rfl) (by rfl) (Jh) (kc 9 19)
  ·exact Jz _ _ _ _ _ _ gb _ _ _ _ (by rfl) (by rfl) (wc 10 20 10 (kc 10 20)) (ko 6) (fun _ hs=>hs.2.2)
  ·exact Jz _ _ _ _ _ _ gm _ _ _ _ (by rfl) (by rfl) (wc 10 20 10 (kc 10 20)) (ko 7) (fun _ hs=>hs.1)
  ·exact Kl _ _ _ _ _ _ _ _ _ _ _ _ _ (by rfl) (by rfl) (wc 10 20 10 (kc 10 20)) (kc 13 23) (Je _) ((fun ρ w hx hy=>by simp only [execOp,hx,hy];simp [go_sem];exact hi))
  ·exact Kz _ _ _ _ _ _ _ _ _ _ _ _ (by rfl) (by rfl) (Jh) (kc 10 20) (Je _) (kc 14 24) (by rfl)
 ·(repeat (refine all_cons ?_ ?_;rotate_left));exact Jj
  all_goals try exact sA
  ·exact fun _=>Jm _ 23 _ _ [.const (.int .u64 1)] _ _ _ _ _ _ _ (by rfl) Try.func23 (by kernel_rfl) (by rfl) (by rfl) (Jh) (.cons (Je _) .nil) (HcO.out)
  ·exact fun _=>Jm _ 64 _ _ [.tmp 10,.tmp 11] _ _ _ _ _ _ _ (by rfl) Try.func64 (by kernel_rfl) (by rfl) (by rfl) (Jh) (.cons (kc 0 10) (.cons (kc 1 11) .nil)) (Hck.out)
  ·exact fun _=>Jm _ 64 _ _ [.tmp 15,.tmp 16] _ _ _ _ _ _ _ (by rfl) Try.func64 (by kernel_rfl) (by rfl) (by rfl) (wc 4 14 4 (kc 4 14)) (.cons (kc 5 15) (.cons (kc 6 16) .nil)) (Hcj.out)
  ·exact fun _=>Jm _ 64 _ _ [.tmp 21,.tmp 22] _ _ _ _ _ _ _ (by rfl) Try.func64 (by kernel_rfl) (by rfl) (by rfl) (wc 10 20 10 (kc 10 20)) (.cons (kc 11 21) (.cons (kc 12 22) .nil)) (Hci.out)
 intro vs y2 hc
 obtain ⟨vv0,vv1,vv2,vv3,vv4,vv5,vv6,vv7,vv8,vv9,vv10,vv11,vv12,vv13,vv14,vv15,rfl⟩:=Jed vs hc.lv
 have qq0:=okv hc 0
 have qq1:=okv hc 1
 have qq2:=okv hc 2
 have qq3:=okv hc 3
 have qq4:=okv hc 4
 have qq5:=okv hc 5
 have qq6:=okv hc 6
 have qq7:=okv hc 7
 have qq8:=okv hc 8
 have qq9:=okv hc 9
 have qq10:=okv hc 10
 have qq11:=okv hc 11
 have qq12:=okv hc 12
 have qq13:=okv hc 13
 have qq14:=okv hc 14
 have qq15:=okv hc 15
 have BZ:=hc.bel
 clear hc
 have Nt:=Ft.out.on BZ
 have Na:=Fa.out.on BZ
 have Nb:=Fb.out.on BZ
 have Nm:=Fm.out.on BZ
 have Nx:=Fx.out.on BZ
 have NB:=Jw BW.out BZ
 clear BW BZ Ft Fa Fb Fm Fx
 subst qq0 qq1 qq2 qq3 qq4 qq5 qq6 qq7 qq8 qq9 qq10 qq11 qq12 qq13 qq14 qq15
 simp only [List.map_cons,List.map_nil,over,Act.put,List.setIfInBounds_toArray,List.set_cons_zero,List.set_cons_succ]
 refine wpAnyH_done (by kernel_rfl) ?_ _
 refine NoPanic.normal ?_
 have Ft:=Jgm Nt
 have Fa:=Jgm Na
 have Fb:=Jgm Nb
 have Fm:=Jgm Nm
 have Fx:=Jgm Nx
 have BW:=Jgm NB
 clear NB Nt Na Nb Nm Nx
 have Lx:=Fx.out.lt
 have cx0:=Fx.out.c0;have cx1:=Fx.out.c1;have cx2:=Fx.out.c2;have cx3:=Fx.out.c3
 obtain ⟨fx0,fx1,fx2,fx3⟩:=Wc Fx.out
 go_wp2_with fail
 clear Lx cx0 cx1 cx2 cx3 fx0 fx1 fx2 fx3
 generalize hW3:((((y2.setCell ⟨gx,0,none⟩ (.int .u64 0)).setCell ⟨gx,1,none⟩ (.int .u64 0)).setCell ⟨gx,2,none⟩ (.int .u64 0)).setCell ⟨gx,3,none⟩ (.int .u64 0))=W3 at *
 have Nt:=Jd hW3 ((Ft.out).far4 Dtx _ _ _ _)
 have Na:=Jd hW3 ((Fa.out).far4 Dax _ _ _ _)
 have Nb:=Jd hW3 ((Fb.out).far4 Dbx _ _ _ _)
 have Nm:=Jd hW3 ((Fm.out).far4 Dmx _ _ _ _)
 have Nx:=Jd hW3 ((Fx.out).put4 _ _ _ _)
 have NB:=Ke hW3 (((((BW.out).setCell Ex _).setCell Ex _).setCell Ex _).setCell Ex _)
 clear hW3 BW Ft Fa Fb Fm Fx
 have Ft:=Jgm Nt
 have Fa:=Jgm Na
 have Fb:=Jgm Nb
 have Fm:=Jgm Nm
 have Fx:=Jgm Nx
 have BW:=Jgm NB
 clear NB Nt Na Nb Nm Nx
 have Lx:=Fx.out.lt
 have cx0:=Fx.out.c0;have cx1:=Fx.out.c1;have cx2:=Fx.out.c2;have cx3:=Fx.out.c3
 refine bodyPost_ret (v:=.tuple #[.agg #[.int .u64 0,.int .u64 0,.int .u64 0,.int .u64 0],.int .i64 1]) (by simp [results,Try.results46,go_sem, *]) rfl ⟨rfl,BW.out⟩

theorem with_sum (A B M Z V:Nat) (k j i er:Int)
  (hk:0<k)
  (hj:j<0)
  (hi:i<0)
  (cO:∀ w,Calls Try.prog 23 #[.int .u64 1] w fun e w'=>e=.returned (num Z)∧Below w.heap.size w w')
  (ck:∀ w,Calls Try.prog 64 #[num M,num Z] w fun e w'=>e=.returned (.int .i64 k)∧Below w.heap.size w w')
  (cj:∀ w,Calls Try.prog 64 #[num A,num M] w fun e w'=>e=.returned (.int .i64 j)∧Below w.heap.size w w')
  (ci:∀ w,Calls Try.prog 64 #[num B,num M] w fun e w'=>e=.returned (.int .i64 i)∧Below w.heap.size w w')
  (cd:∀ w,Calls Try.prog 45 #[num A,num B,num M] w fun e w'=>e=.returned (.tuple #[num V,.int .i64 er])∧Below w.heap.size w w')
  (w:World):Calls Try.prog 46 #[.agg #[.func (.func 45) #[] #[]],num A,num B,num M] w fun e w'=>e=.returned (.tuple #[num V,.int .i64 er])∧Below w.heap.size w w':=by
 have HcO:=Jgm cO
 have Hck:=Jgm ck
 have Hcj:=Jgm cj
 have Hci:=Jgm ci
 have Hcd:=Jgm cd
 clear cO ck cj ci cd
 go_enter Try.func46,Try.ntmps46
 go_wp2_with fail
 have BW:=Jgm (Below.refl w.heap.size w)
 have Ex:w.heap.size≤w.heap.size+1+1+1+1:=by have:=BW.out.size;omega
 have Dtx:w.heap.size≠w.heap.size+1+1+1+1:=by omega
 have Dax:w.heap.size+1≠w.heap.size+1+1+1+1:=by omega
 have Dbx:w.heap.size+1+1≠w.heap.size+1+1+1+1:=by omega
 have Dmx:w.heap.size+1+1+1≠w.heap.size+1+1+1+1:=by omega
 generalize hW1:(((((w.alloc (.cells #[.func (.func 45) #[] #[]] 73)).alloc (.cells (ncs A) 24)).alloc (.cells (ncs B) 24)).alloc (.cells (ncs M) 24)).alloc (.cells #[.int .u64 0,.int .u64 0,.int .u64 0,.int .u64 0] 24))=W1 at *
 have Nt:At W1 (w.heap.size) _ _:=Jd hW1 (((((At.at_ _ _ _ _ (by simp)).alloc _).alloc _).alloc _).alloc _)
 have Na:At W1 (w.heap.size+1) _ _:=Jd hW1 ((((At.at_ _ _ _ _ (by simp)).alloc _).alloc _).alloc _)
 have Nb:At W1 (w.heap.size+1+1) _ _:=Jd hW1 (((At.at_ _ _ _ _ (by simp)).alloc _).alloc _)
 have Nm:At W1 (w.heap.size+1+1+1) _ _:=Jd hW1 ((At.at_ _ _ _ _ (by simp)).alloc _)
 have Nx:At W1 (w.heap.size+1+1+1+1) _ _:=Jd hW1 (At.at_ _ _ _ _ (by simp))
 have NB:=Ke hW1 (Jb (Jb (Jb (Jb (Jb BW.out _) _) _) _) _)
 clear hW1 BW 
 generalize w.heap.size+1+1+1+1=gx at *
 generalize w.heap.size+1+1+1=gm at *
 generalize w.heap.size+1+1=gb at *
 generalize w.heap.size+1=ga at *
 obtain ⟨gt,hg0⟩:∃ g,g=w.heap.size:=⟨_,rfl⟩
 rw [← hg0] at Nt ⊢
 rw [← hg0] at Dtx
 clear hg0
 have Ft:=Jgm Nt
 have Fa:=Jgm Na
 have Fb:=Jgm Nb
 have Fm:=Jgm Nm
 have Fx:=Jgm Nx
 have BW:=Jgm NB
 clear NB Nt Na Nb Nm Nx
 try simp only [List.append_eq,List.cons_append,List.nil_append]
 refine wp_region_noPanic ?_
 refine wp_region_held_drew (S:=fun w'=>At w' gm 24 (ncs M)∧At w' ga 24 (ncs A)∧At w' gb 24 (ncs B)) (by kernel_rfl) (⟨Fm.out.drew,Fa.out.drew,Fb.out.drew⟩) (fun _=>?_)
 refine Kf (fuel:=0) (⟨0,10,[],Kind.val (num M),true⟩::⟨1,11,[0],Kind.val (num Z),false⟩::⟨2,12,[0,1],Kind.val (.int .i64 k),false⟩::⟨3,13,[2],Kind.val (.bool false),true⟩::⟨4,14,[3],Kind.val (.bool false),true⟩::⟨5,15,[4],Kind.val (num A),true⟩::⟨6,16,[4,5],Kind.val (num M),true⟩::⟨7,17,[4,5,6],Kind.val (.int .i64 j),false⟩::⟨8,18,[4,7],Kind.val (.bool false),true⟩::⟨9,19,[4,8],Kind.val (.bool false),true⟩::⟨10,20,[9],Kind.val (.bool false),true⟩::⟨11,21,[10],Kind.val (num B),true⟩::⟨12,22,[10,11],Kind.val (num M),true⟩::⟨13,23,[10,11,12],Kind.val (.int .i64 i),false⟩::⟨14,24,[10,13],Kind.val (.bool false),true⟩::⟨15,25,[10,14],Kind.val (.bool false),true⟩::[]) _ _ W1 _ ?_ ?_ ?_ ?_ ?_ ?_ ?_ ?_ ?_ ?_ ?_
 ·rfl
 ·kernel_rfl
 ·exact of_decide_eq_true (by kernel_rfl)
 ·(repeat refine all_cons ⟨_,by rfl,by rfl⟩ ?_);exact Jj
 ·exact fun _ hb=>⟨Fm.out.on hb,Fa.out.on hb,Fb.out.on hb⟩
 ·exact (Below.refl _ _).drew
 ·kernel_rfl
 ·exact fun _ _ _ _ _ h=>h
 ·(repeat (refine all_cons ?_ ?_;rotate_left));exact Jj
  all_goals try exact Jq _ (by rfl)
  ·exact Jz _ _ _ _ _ _ gm _ _ _ _ (by rfl) (by rfl) (Jh) (ko 7) (fun _ hs=>hs.1)
  ·exact Kl _ _ _ _ _ _ _ _ _ _ _ _ _ (by rfl) (by rfl) (Jh) (kc 2 12) (Je _) ((fun ρ w hx hy=>by simp only [execOp,hx,hy];simp [go_sem];exact hk))
  ·exact Km _ _ _ _ _ _ _ (by rfl) (by rfl) (Jh) (kc 3 13)
  ·exact Jz _ _ _ _ _ _ ga _ _ _ _ (by rfl) (by rfl) (wc 4 14 4 (kc 4 14)) (ko 5) (fun _ hs=>hs.2.1)
  ·exact Jz _ _ _ _ _ _ gm _ _ _ _ (by rfl) (by rfl) (wc 4 14 4 (kc 4 14)) (ko 7) (fun _ hs=>hs.1)
  ·exact Kl _ _ _ _ _ _ _ _ _ _ _ _ _ (by rfl) (by rfl) (wc 4 14 4 (kc 4 14)) (kc 7 17) (Je _) ((fun ρ w hx hy=>by simp only [execOp,hx,hy];simp [go_sem];exact hj))
  ·exact Kz _ _ _ _ _ _ _ _ _ _ _ _ (by rfl) (by rfl) (Jh) (kc 4 14) (Je _) (kc 8 18) (by rfl)
  ·exact Km _ _ _ _ _ _ _ (by rfl) (by rfl) (Jh) (kc 9 19)
  ·exact Jz _ _ _ _ _ _ gb _ _ _ _ (by rfl) (by rfl) (wc 10 20 10 (kc 10 20)) (ko 6) (fun _ hs=>hs.2.2)
  ·exact Jz _ _ _ _ _ _ gm _ _ _ _ (by rfl) (by rfl) (wc 10 20 10 (kc 10 20)) (ko 7) (fun _ hs=>hs.1)
  ·exact Kl _ _ _ _ _ _ _ _ _ _ _ _ _ (by rfl) (by rfl) (wc 10 20 10 (kc 10 20)) (kc 13 23) (Je _) ((fun ρ w hx hy=>by simp only [execOp,hx,hy];simp [go_sem];exact hi))
  ·exact Kz _ _ _ _ _ _ _ _ _ _ _ _ (by rfl) (by rfl) (Jh) (kc 10 20) (Je _) (kc 14 24) (by rfl)
 ·(repeat (refine all_cons ?_ ?_;rotate_left));exact Jj
  all_goals try exact sA
  ·exact fun _=>Jm _ 23 _ _ [.const (.int .u64 1)] _ _ _ _ _ _ _ (by rfl) Try.func23 (by kernel_rfl) (by rfl) (by rfl) (Jh) (.cons (Je _) .nil) (HcO.out)
  ·exact fun _=>Jm _ 64 _ _ [.tmp 10,.tmp 11] _ _ _ _ _ _ _ (by rfl) Try.func64 (by kernel_rfl) (by rfl) (by rfl) (Jh) (.cons (kc 0 10) (.cons (kc 1 11) .nil)) (Hck.out)
  ·exact fun _=>Jm _ 64 _ _ [.tmp 15,.tmp 16] _ _ _ _ _ _ _ (by rfl) Try.func64 (by kernel_rfl) (by rfl) (by rfl) (wc 4 14 4 (kc 4 14)) (.cons (kc 5 15) (.cons (kc 6 16) .nil)) (Hcj.out)
  ·exact fun _=>Jm _ 64 _ _ [.tmp 21,.tmp 22] _ _ _ _ _ _ _ (by rfl) Try.func64 (by kernel_rfl) (by rfl) (by rfl) (wc 10 20 10 (kc 10 20)) (.cons (kc 11 21) (.cons (kc 12 22) .nil)) (Hci.out)
 intro vs y2 hc
 obtain ⟨vv0,vv1,vv2,vv3,vv4,vv5,vv6,vv7,vv8,vv9,vv10,vv11,vv12,vv13,vv14,vv15,rfl⟩:=Jed vs hc.lv
 have qq0:=okv hc 0
 have qq1:=okv hc 1
 have qq2:=okv hc 2
 have qq3:=okv hc 3
 have qq4:=okv hc 4
 have qq5:=okv hc 5
 have qq6:=okv hc 6
 have qq7:=okv hc 7
 have qq8:=okv hc 8
 have qq9:=okv hc 9
 have qq10:=okv hc 10
 have qq11:=okv hc 11
 have qq12:=okv hc 12
 have qq13:=okv hc 13
 have qq14:=okv hc 14
 have qq15:=okv hc 15
 have BZ:=hc.bel
 clear hc
 have Nt:=Ft.out.on BZ
 have Na:=Fa.out.on BZ
 have Nb:=Fb.out.on BZ
 have Nm:=Fm.out.on BZ
 have Nx:=Fx.out.on BZ
 have NB:=Jw BW.out BZ
 clear BW BZ Ft Fa Fb Fm Fx
 subst qq0 qq1 qq2 qq3 qq4 qq5 qq6 qq7 qq8 qq9 qq10 qq11 qq12 qq13 qq14 qq15
 simp only [List.map_cons,List.map_nil,over,Act.put,List.setIfInBounds_toArray,List.set_cons_zero,List.set_cons_succ]
 refine wpAnyH_done (by kernel_rfl) ?_ _
 refine NoPanic.normal ?_
 have Ft:=Jgm Nt
 have Fa:=Jgm Na
 have Fb:=Jgm Nb
 have Fm:=Jgm Nm
 have Fx:=Jgm Nx
 have BW:=Jgm NB
 clear NB Nt Na Nb Nm Nx
 have Lt:=Ft.out.lt
 have ct0:y2.cell? ⟨gt,0,none⟩=some (.func (.func 45) #[] #[]):=Ft.out.cell 0
 have La:=Fa.out.lt
 have ca0:=Fa.out.c0;have ca1:=Fa.out.c1;have ca2:=Fa.out.c2;have ca3:=Fa.out.c3
 have Lb:=Fb.out.lt
 have cb0:=Fb.out.c0;have cb1:=Fb.out.c1;have cb2:=Fb.out.c2;have cb3:=Fb.out.c3
 have Lm:=Fm.out.lt
 have cm0:=Fm.out.c0;have cm1:=Fm.out.c1;have cm2:=Fm.out.c2;have cm3:=Fm.out.c3
 go_wp2_with fail
 clear Lt ct0 La ca0 ca1 ca2 ca3 Lb cb0 cb1 cb2 cb3 Lm cm0 cm1 cm2 cm3
 refine (Hcd.out _).mono ?_
 rintro e v3 ⟨rfl,z3⟩
 have Nt:=Jgm (Ft.out.on z3)
 have Na:=Jgm (Fa.out.on z3)
 have Nb:=Jgm (Fb.out.on z3)
 have Nm:=Jgm (Fm.out.on z3)
 have Nx:=Jgm (Fx.out.on z3)
 have NB:=Jgm (Jw BW.out z3)
 clear BW z3 Ft Fa Fb Fm Fx
 have Ft:=Nt
 have Fa:=Na
 have Fb:=Nb
 have Fm:=Nm
 have Fx:=Nx
 have BW:=NB
 clear NB Nt Na Nb Nm Nx
 have Lx:=Fx.out.lt
 have cx0:=Fx.out.c0;have cx1:=Fx.out.c1;have cx2:=Fx.out.c2;have cx3:=Fx.out.c3
 obtain ⟨fx0,fx1,fx2,fx3⟩:=Wc Fx.out
 go_wp2_with fail
 clear Lx cx0 cx1 cx2 cx3 fx0 fx1 fx2 fx3
 generalize hW4:((((v3.setCell ⟨gx,0,none⟩ (.int .u64 (wd V 0))).setCell ⟨gx,1,none⟩ (.int .u64 (wd V 1))).setCell ⟨gx,2,none⟩ (.int .u64 (wd V 2))).setCell ⟨gx,3,none⟩ (.int .u64 (wd V 3)))=W4 at *
 have Nt:=Jd hW4 ((Ft.out).far4 Dtx _ _ _ _)
 have Na:=Jd hW4 ((Fa.out).far4 Dax _ _ _ _)
 have Nb:=Jd hW4 ((Fb.out).far4 Dbx _ _ _ _)
 have Nm:=Jd hW4 ((Fm.out).far4 Dmx _ _ _ _)
 have Nx:=Jd hW4 ((Fx.out).put4 _ _ _ _)
 have NB:=Ke hW4 (((((BW.out).setCell Ex _).setCell Ex _).setCell Ex _).setCell Ex _)
 clear hW4 BW Ft Fa Fb Fm Fx
 have Ft:=Jgm Nt
 have Fa:=Jgm Na
 have Fb:=Jgm Nb
 have Fm:=Jgm Nm
 have Fx:=Jgm Nx
 have BW:=Jgm NB
 clear NB Nt Na Nb Nm Nx
 have Lx:=Fx.out.lt
 have cx0:=Fx.out.c0;have cx1:=Fx.out.c1;have cx2:=Fx.out.c2;have cx3:=Fx.out.c3
 refine bodyPost_ret (v:=.tuple #[num V,.int .i64 er]) (by simp [results,Try.results46,go_sem, *]) rfl ⟨rfl,BW.out⟩

theorem with_difference (A B M Z V:Nat) (k j i er:Int)
  (hk:0<k)
  (hj:j<0)
  (hi:i<0)
  (cO:∀ w,Calls Try.prog 23 #[.int .u64 1] w fun e w'=>e=.returned (num Z)∧Below w.heap.size w w')
  (ck:∀ w,Calls Try.prog 64 #[num M,num Z] w fun e w'=>e=.returned (.int .i64 k)∧Below w.heap.size w w')
  (cj:∀ w,Calls Try.prog 64 #[num A,num M] w fun e w'=>e=.returned (.int .i64 j)∧Below w.heap.size w w')
  (ci:∀ w,Calls Try.prog 64 #[num B,num M] w fun e w'=>e=.returned (.int .i64 i)∧Below w.heap.size w w')
  (cd:∀ w,Calls Try.prog 66 #[num A,num B,num M] w fun e w'=>e=.returned (.tuple #[num V,.int .i64 er])∧Below w.heap.size w w')
  (w:World):Calls Try.prog 46 #[.agg #[.func (.func 66) #[] #[]],num A,num B,num M] w fun e w'=>e=.returned (.tuple #[num V,.int .i64 er])∧Below w.heap.size w w':=by
 have HcO:=Jgm cO
 have Hck:=Jgm ck
 have Hcj:=Jgm cj
 have Hci:=Jgm ci
 have Hcd:=Jgm cd
 clear cO ck cj ci cd
 go_enter Try.func46,Try.ntmps46
 go_wp2_with fail
 have BW:=Jgm (Below.refl w.heap.size w)
 have Ex:w.heap.size≤w.heap.size+1+1+1+1:=by have:=BW.out.size;omega
 have Dtx:w.heap.size≠w.heap.size+1+1+1+1:=by omega
 have Dax:w.heap.size+1≠w.heap.size+1+1+1+1:=by omega
 have Dbx:w.heap.size+1+1≠w.heap.size+1+1+1+1:=by omega
 have Dmx:w.heap.size+1+1+1≠w.heap.size+1+1+1+1:=by omega
 generalize hW1:(((((w.alloc (.cells #[.func (.func 66) #[] #[]] 73)).alloc (.cells (ncs A) 24)).alloc (.cells (ncs B) 24)).alloc (.cells (ncs M) 24)).alloc (.cells #[.int .u64 0,.int .u64 0,.int .u64 0,.int .u64 0] 24))=W1 at *
 have Nt:At W1 (w.heap.size) _ _:=Jd hW1 (((((At.at_ _ _ _ _ (by simp)).alloc _).alloc _).alloc _).alloc _)
 have Na:At W1 (w.heap.size+1) _ _:=Jd hW1 ((((At.at_ _ _ _ _ (by simp)).alloc _).alloc _).alloc _)
 have Nb:At W1 (w.heap.size+1+1) _ _:=Jd hW1 (((At.at_ _ _ _ _ (by simp)).alloc _).alloc _)
 have Nm:At W1 (w.heap.size+1+1+1) _ _:=Jd hW1 ((At.at_ _ _ _ _ (by simp)).alloc _)
 have Nx:At W1 (w.heap.size+1+1+1+1) _ _:=Jd hW1 (At.at_ _ _ _ _ (by simp))
 have NB:=Ke hW1 (Jb (Jb (Jb (Jb (Jb BW.out _) _) _) _) _)
 clear hW1 BW 
 generalize w.heap.size+1+1+1+1=gx at *
 generalize w.heap.size+1+1+1=gm at *
 generalize w.heap.size+1+1=gb at *
 generalize w.heap.size+1=ga at *
 obtain ⟨gt,hg0⟩:∃ g,g=w.heap.size:=⟨_,rfl⟩
 rw [← hg0] at Nt ⊢
 rw [← hg0] at Dtx
 clear hg0
 have Ft:=Jgm Nt
 have Fa:=Jgm Na
 have Fb:=Jgm Nb
 have Fm:=Jgm Nm
 have Fx:=Jgm Nx
 have BW:=Jgm NB
 clear NB Nt Na Nb Nm Nx
 try simp only [List.append_eq,List.cons_append,List.nil_append]
 refine wp_region_noPanic ?_
 refine wp_region_held_drew (S:=fun w'=>At w' gm 24 (ncs M)∧At w' ga 24 (ncs A)∧At w' gb 24 (ncs B)) (by kernel_rfl) (⟨Fm.out.drew,Fa.out.drew,Fb.out.drew⟩) (fun _=>?_)
 refine Kf (fuel:=0) (⟨0,10,[],Kind.val (num M),true⟩::⟨1,11,[0],Kind.val (num Z),false⟩::⟨2,12,[0,1],Kind.val (.int .i64 k),false⟩::⟨3,13,[2],Kind.val (.bool false),true⟩::⟨4,14,[3],Kind.val (.bool false),true⟩::⟨5,15,[4],Kind.val (num A),true⟩::⟨6,16,[4,5],Kind.val (num M),true⟩::⟨7,17,[4,5,6],Kind.val (.int .i64 j),false⟩::⟨8,18,[4,7],Kind.val (.bool false),true⟩::⟨9,19,[4,8],Kind.val (.bool false),true⟩::⟨10,20,[9],Kind.val (.bool false),true⟩::⟨11,21,[10],Kind.val (num B),true⟩::⟨12,22,[10,11],Kind.val (num M),true⟩::⟨13,23,[10,11,12],Kind.val (.int .i64 i),false⟩::⟨14,24,[10,13],Kind.val (.bool false),true⟩::⟨15,25,[10,14],Kind.val (.bool false),true⟩::[]) _ _ W1 _ ?_ ?_ ?_ ?_ ?_ ?_ ?_ ?_ ?_ ?_ ?_
 ·rfl
 ·kernel_rfl
 ·exact of_decide_eq_true (by kernel_rfl)
 ·(repeat refine all_cons ⟨_,by rfl,by rfl⟩ ?_);exact Jj
 ·exact fun _ hb=>⟨Fm.out.on hb,Fa.out.on hb,Fb.out.on hb⟩
 ·exact (Below.refl _ _).drew
 ·kernel_rfl
 ·exact fun _ _ _ _ _ h=>h
 ·(repeat (refine all_cons ?_ ?_;rotate_left));exact Jj
  all_goals try exact Jq _ (by rfl)
  ·exact Jz _ _ _ _ _ _ gm _ _ _ _ (by rfl) (by rfl) (Jh) (ko 7) (fun _ hs=>hs.1)
  ·exact Kl _ _ _ _ _ _ _ _ _ _ _ _ _ (by rfl) (by rfl) (Jh) (kc 2 12) (Je _) ((fun ρ w hx hy=>by simp only [execOp,hx,hy];simp [go_sem];exact hk))
  ·exact Km _ _ _ _ _ _ _ (by rfl) (by rfl) (Jh) (kc 3 13)
  ·exact Jz _ _ _ _ _ _ ga _ _ _ _ (by rfl) (by rfl) (wc 4 14 4 (kc 4 14)) (ko 5) (fun _ hs=>hs.2.1)
  ·exact Jz _ _ _ _ _ _ gm _ _ _ _ (by rfl) (by rfl) (wc 4 14 4 (kc 4 14)) (ko 7) (fun _ hs=>hs.1)
  ·exact Kl _ _ _ _ _ _ _ _ _ _ _ _ _ (by rfl) (by rfl) (wc 4 14 4 (kc 4 14)) (kc 7 17) (Je _) ((fun ρ w hx hy=>by simp only [execOp,hx,hy];simp [go_sem];exact hj))
  ·exact Kz _ _ _ _ _ _ _ _ _ _ _ _ (by rfl) (by rfl) (Jh) (kc 4 14) (Je _) (kc 8 18) (by rfl)
  ·exact Km _ _ _ _ _ _ _ (by rfl) (by rfl) (Jh) (kc 9 19)
  ·exact Jz _ _ _ _ _ _ gb _ _ _ _ (by rfl) (by rfl) (wc 10 20 10 (kc 10 20)) (ko 6) (fun _ hs=>hs.2.2)
  ·exact Jz _ _ _ _ _ _ gm _ _ _ _ (by rfl) (by rfl) (wc 10 20 10 (kc 10 20)) (ko 7) (fun _ hs=>hs.1)
  ·exact Kl _ _ _ _ _ _ _ _ _ _ _ _ _ (by rfl) (by rfl) (wc 10 20 10 (kc 10 20)) (kc 13 23) (Je _) ((fun ρ w hx hy=>by simp only [execOp,hx,hy];simp [go_sem];exact hi))
  ·exact Kz _ _ _ _ _ _ _ _ _ _ _ _ (by rfl) (by rfl) (Jh) (kc 10 20) (Je _) (kc 14 24) (by rfl)
 ·(repeat (refine all_cons ?_ ?_;rotate_left));exact Jj
  all_goals try exact sA
  ·exact fun _=>Jm _ 23 _ _ [.const (.int .u64 1)] _ _ _ _ _ _ _ (by rfl) Try.func23 (by kernel_rfl) (by rfl) (by rfl) (Jh) (.cons (Je _) .nil) (HcO.out)
  ·exact fun _=>Jm _ 64 _ _ [.tmp 10,.tmp 11] _ _ _ _ _ _ _ (by rfl) Try.func64 (by kernel_rfl) (by rfl) (by rfl) (Jh) (.cons (kc 0 10) (.cons (kc 1 11) .nil)) (Hck.out)
  ·exact fun _=>Jm _ 64 _ _ [.tmp 15,.tmp 16] _ _ _ _ _ _ _ (by rfl) Try.func64 (by kernel_rfl) (by rfl) (by rfl) (wc 4 14 4 (kc 4 14)) (.cons (kc 5 15) (.cons (kc 6 16) .nil)) (Hcj.out)
  ·exact fun _=>Jm _ 64 _ _ [.tmp 21,.tmp 22] _ _ _ _ _ _ _ (by rfl) Try.func64 (by kernel_rfl) (by rfl) (by rfl) (wc 10 20 10 (kc 10 20)) (.cons (kc 11 21) (.cons (kc 12 22) .nil)) (Hci.out)
 intro vs y2 hc
 obtain ⟨vv0,vv1,vv2,vv3,vv4,vv5,vv6,vv7,vv8,vv9,vv10,vv11,vv12,vv13,vv14,vv15,rfl⟩:=Jed vs hc.lv
 have qq0:=okv hc 0
 have qq1:=okv hc 1
 have qq2:=okv hc 2
 have qq3:=okv hc 3
 have qq4:=okv hc 4
 have qq5:=okv hc 5
 have qq6:=okv hc 6
 have qq7:=okv hc 7
 have qq8:=okv hc 8
 have qq9:=okv hc 9
 have qq10:=okv hc 10
 have qq11:=okv hc 11
 have qq12:=okv hc 12
 have qq13:=okv hc 13
 have qq14:=okv hc 14
 have qq15:=okv hc 15
 have BZ:=hc.bel
 clear hc
 have Nt:=Ft.out.on BZ
 have Na:=Fa.out.on BZ
 have Nb:=Fb.out.on BZ
 have Nm:=Fm.out.on BZ
 have Nx:=Fx.out.on BZ
 have NB:=Jw BW.out BZ
 clear BW BZ Ft Fa Fb Fm Fx
 subst qq0 qq1 qq2 qq3 qq4 qq5 qq6 qq7 qq8 qq9 qq10 qq11 qq12 qq13 qq14 qq15
 simp only [List.map_cons,List.map_nil,over,Act.put,List.setIfInBounds_toArray,List.set_cons_zero,List.set_cons_succ]
 refine wpAnyH_done (by kernel_rfl) ?_ _
 refine NoPanic.normal ?_
 have Ft:=Jgm Nt
 have Fa:=Jgm Na
 have Fb:=Jgm Nb
 have Fm:=Jgm Nm
 have Fx:=Jgm Nx
 have BW:=Jgm NB
 clear NB Nt Na Nb Nm Nx
 have Lt:=Ft.out.lt
 have ct0:y2.cell? ⟨gt,0,none⟩=some (.func (.func 66) #[] #[]):=Ft.out.cell 0
 have La:=Fa.out.lt
 have ca0:=Fa.out.c0;have ca1:=Fa.out.c1;have ca2:=Fa.out.c2;have ca3:=Fa.out.c3
 have Lb:=Fb.out.lt
 have cb0:=Fb.out.c0;have cb1:=Fb.out.c1;have cb2:=Fb.out.c2;have cb3:=Fb.out.c3
 have Lm:=Fm.out.lt
 have cm0:=Fm.out.c0;have cm1:=Fm.out.c1;have cm2:=Fm.out.c2;have cm3:=Fm.out.c3
 go_wp2_with fail
 clear Lt ct0 La ca0 ca1 ca2 ca3 Lb cb0 cb1 cb2 cb3 Lm cm0 cm1 cm2 cm3
 refine (Hcd.out _).mono ?_
 rintro e v3 ⟨rfl,z3⟩
 have Nt:=Jgm (Ft.out.on z3)
 have Na:=Jgm (Fa.out.on z3)
 have Nb:=Jgm (Fb.out.on z3)
 have Nm:=Jgm (Fm.out.on z3)
 have Nx:=Jgm (Fx.out.on z3)
 have NB:=Jgm (Jw BW.out z3)
 clear BW z3 Ft Fa Fb Fm Fx
 have Ft:=Nt
 have Fa:=Na
 have Fb:=Nb
 have Fm:=Nm
 have Fx:=Nx
 have BW:=NB
 clear NB Nt Na Nb Nm Nx
 have Lx:=Fx.out.lt
 have cx0:=Fx.out.c0;have cx1:=Fx.out.c1;have cx2:=Fx.out.c2;have cx3:=Fx.out.c3
 obtain ⟨fx0,fx1,fx2,fx3⟩:=Wc Fx.out
 go_wp2_with fail
 clear Lx cx0 cx1 cx2 cx3 fx0 fx1 fx2 fx3
 generalize hW4:((((v3.setCell ⟨gx,0,none⟩ (.int .u64 (wd V 0))).setCell ⟨gx,1,none⟩ (.int .u64 (wd V 1))).setCell ⟨gx,2,none⟩ (.int .u64 (wd V 2))).setCell ⟨gx,3,none⟩ (.int .u64 (wd V 3)))=W4 at *
 have Nt:=Jd hW4 ((Ft.out).far4 Dtx _ _ _ _)
 have Na:=Jd hW4 ((Fa.out).far4 Dax _ _ _ _)
 have Nb:=Jd hW4 ((Fb.out).far4 Dbx _ _ _ _)
 have Nm:=Jd hW4 ((Fm.out).far4 Dmx _ _ _ _)
 have Nx:=Jd hW4 ((Fx.out).put4 _ _ _ _)
 have NB:=Ke hW4 (((((BW.out).setCell Ex _).setCell Ex _).setCell Ex _).setCell Ex _)
 clear hW4 BW Ft Fa Fb Fm Fx
 have Ft:=Jgm Nt
 have Fa:=Jgm Na
 have Fb:=Jgm Nb
 have Fm:=Jgm Nm
 have Fx:=Jgm Nx
 have BW:=Jgm NB
 clear NB Nt Na Nb Nm Nx
 have Lx:=Fx.out.lt
 have cx0:=Fx.out.c0;have cx1:=Fx.out.c1;have cx2:=Fx.out.c2;have cx3:=Fx.out.c3
 refine bodyPost_ret (v:=.tuple #[num V,.int .i64 er]) (by simp [results,Try.results46,go_sem, *]) rfl ⟨rfl,BW.out⟩

theorem with_product (A B M Z V:Nat) (k j i er:Int)
  (hk:0<k)
  (hj:j<0)
  (hi:i<0)
  (cO:∀ w,Calls Try.prog 23 #[.int .u64 1] w fun e w'=>e=.returned (num Z)∧Below w.heap.size w w')
  (ck:∀ w,Calls Try.prog 64 #[num M,num Z] w fun e w'=>e=.returned (.int .i64 k)∧Below w.heap.size w w')
  (cj:∀ w,Calls Try.prog 64 #[num A,num M] w fun e w'=>e=.returned (.int .i64 j)∧Below w.heap.size w w')
  (ci:∀ w,Calls Try.prog 64 #[num B,num M] w fun e w'=>e=.returned (.int .i64 i)∧Below w.heap.size w w')
  (cd:∀ w,Calls Try.prog 68 #[num A,num B,num M] w fun e w'=>e=.returned (.tuple #[num V,.int .i64 er])∧Below w.heap.size w w')
  (w:World):Calls Try.prog 46 #[.agg #[.func (.func 68) #[] #[]],num A,num B,num M] w fun e w'=>e=.returned (.tuple #[num V,.int .i64 er])∧Below w.heap.size w w':=by
 have HcO:=Jgm cO
 have Hck:=Jgm ck
 have Hcj:=Jgm cj
 have Hci:=Jgm ci
 have Hcd:=Jgm cd
 clear cO ck cj ci cd
 go_enter Try.func46,Try.ntmps46
 go_wp2_with fail
 have BW:=Jgm (Below.refl w.heap.size w)
 have Ex:w.heap.size≤w.heap.size+1+1+1+1:=by have:=BW.out.size;omega
 have Dtx:w.heap.size≠w.heap.size+1+1+1+1:=by omega
 have Dax:w.heap.size+1≠w.heap.size+1+1+1+1:=by omega
 have Dbx:w.heap.size+1+1≠w.heap.size+1+1+1+1:=by omega
 have Dmx:w.heap.size+1+1+1≠w.heap.size+1+1+1+1:=by omega
 generalize hW1:(((((w.alloc (.cells #[.func (.func 68) #[] #[]] 73)).alloc (.cells (ncs A) 24)).alloc (.cells (ncs B) 24)).alloc (.cells (ncs M) 24)).alloc (.cells #[.int .u64 0,.int .u64 0,.int .u64 0,.int .u64 0] 24))=W1 at *
 have Nt:At W1 (w.heap.size) _ _:=Jd hW1 (((((At.at_ _ _ _ _ (by simp)).alloc _).alloc _).alloc _).alloc _)
 have Na:At W1 (w.heap.size+1) _ _:=Jd hW1 ((((At.at_ _ _ _ _ (by simp)).alloc _).alloc _).alloc _)
 have Nb:At W1 (w.heap.size+1+1) _ _:=Jd hW1 (((At.at_ _ _ _ _ (by simp)).alloc _).alloc _)
 have Nm:At W1 (w.heap.size+1+1+1) _ _:=Jd hW1 ((At.at_ _ _ _ _ (by simp)).alloc _)
 have Nx:At W1 (w.heap.size+1+1+1+1) _ _:=Jd hW1 (At.at_ _ _ _ _ (by simp))
 have NB:=Ke hW1 (Jb (Jb (Jb (Jb (Jb BW.out _) _) _) _) _)
 clear hW1 BW 
 generalize w.heap.size+1+1+1+1=gx at *
 generalize w.heap.size+1+1+1=gm at *
 generalize w.heap.size+1+1=gb at *
 generalize w.heap.size+1=ga at *
 obtain ⟨gt,hg0⟩:∃ g,g=w.heap.size:=⟨_,rfl⟩
 rw [← hg0] at Nt ⊢
 rw [← hg0] at Dtx
 clear hg0
 have Ft:=Jgm Nt
 have Fa:=Jgm Na
 have Fb:=Jgm Nb
 have Fm:=Jgm Nm
 have Fx:=Jgm Nx
 have BW:=Jgm NB
 clear NB Nt Na Nb Nm Nx
 try simp only [List.append_eq,List.cons_append,List.nil_append]
 refine wp_region_noPanic ?_
 refine wp_region_held_drew (S:=fun w'=>At w' gm 24 (ncs M)∧At w' ga 24 (ncs A)∧At w' gb 24 (ncs B)) (by kernel_rfl) (⟨Fm.out.drew,Fa.out.drew,Fb.out.drew⟩) (fun _=>?_)
 refine Kf (fuel:=0) (⟨0,10,[],Kind.val (num M),true⟩::⟨1,11,[0],Kind.val (num Z),false⟩::⟨2,12,[0,1],Kind.val (.int .i64 k),false⟩::⟨3,13,[2],Kind.val (.bool false),true⟩::⟨4,14,[3],Kind.val (.bool false),true⟩::⟨5,15,[4],Kind.val (num A),true⟩::⟨6,16,[4,5],Kind.val (num M),true⟩::⟨7,17,[4,5,6],Kind.val (.int .i64 j),false⟩::⟨8,18,[4,7],Kind.val (.bool false),true⟩::⟨9,19,[4,8],Kind.val (.bool false),true⟩::⟨10,20,[9],Kind.val (.bool false),true⟩::⟨11,21,[10],Kind.val (num B),true⟩::⟨12,22,[10,11],Kind.val (num M),true⟩::⟨13,23,[10,11,12],Kind.val (.int .i64 i),false⟩::⟨14,24,[10,13],Kind.val (.bool false),true⟩::⟨15,25,[10,14],Kind.val (.bool false),true⟩::[]) _ _ W1 _ ?_ ?_ ?_ ?_ ?_ ?_ ?_ ?_ ?_ ?_ ?_
 ·rfl
 ·kernel_rfl
 ·exact of_decide_eq_true (by kernel_rfl)
 ·(repeat refine all_cons ⟨_,by rfl,by rfl⟩ ?_);exact Jj
 ·exact fun _ hb=>⟨Fm.out.on hb,Fa.out.on hb,Fb.out.on hb⟩
 ·exact (Below.refl _ _).drew
 ·kernel_rfl
 ·exact fun _ _ _ _ _ h=>h
 ·(repeat (refine all_cons ?_ ?_;rotate_left));exact Jj
  all_goals try exact Jq _ (by rfl)
  ·exact Jz _ _ _ _ _ _ gm _ _ _ _ (by rfl) (by rfl) (Jh) (ko 7) (fun _ hs=>hs.1)
  ·exact Kl _ _ _ _ _ _ _ _ _ _ _ _ _ (by rfl) (by rfl) (Jh) (kc 2 12) (Je _) ((fun ρ w hx hy=>by simp only [execOp,hx,hy];simp [go_sem];exact hk))
  ·exact Km _ _ _ _ _ _ _ (by rfl) (by rfl) (Jh) (kc 3 13)
  ·exact Jz _ _ _ _ _ _ ga _ _ _ _ (by rfl) (by rfl) (wc 4 14 4 (kc 4 14)) (ko 5) (fun _ hs=>hs.2.1)
  ·exact Jz _ _ _ _ _ _ gm _ _ _ _ (by rfl) (by rfl) (wc 4 14 4 (kc 4 14)) (ko 7) (fun _ hs=>hs.1)
  ·exact Kl _ _ _ _ _ _ _ _ _ _ _ _ _ (by rfl) (by rfl) (wc 4 14 4 (kc 4 14)) (kc 7 17) (Je _) ((fun ρ w hx hy=>by simp only [execOp,hx,hy];simp [go_sem];exact hj))
  ·exact Kz _ _ _ _ _ _ _ _ _ _ _ _ (by rfl) (by rfl) (Jh) (kc 4 14) (Je _) (kc 8 18) (by rfl)
  ·exact Km _ _ _ _ _ _ _ (by rfl) (by rfl) (Jh) (kc 9 19)
  ·exact Jz _ _ _ _ _ _ gb _ _ _ _ (by rfl) (by rfl) (wc 10 20 10 (kc 10 20)) (ko 6) (fun _ hs=>hs.2.2)
  ·exact Jz _ _ _ _ _ _ gm _ _ _ _ (by rfl) (by rfl) (wc 10 20 10 (kc 10 20)) (ko 7) (fun _ hs=>hs.1)
  ·exact Kl _ _ _ _ _ _ _ _ _ _ _ _ _ (by rfl) (by rfl) (wc 10 20 10 (kc 10 20)) (kc 13 23) (Je _) ((fun ρ w hx hy=>by simp only [execOp,hx,hy];simp [go_sem];exact hi))
  ·exact Kz _ _ _ _ _ _ _ _ _ _ _ _ (by rfl) (by rfl) (Jh) (kc 10 20) (Je _) (kc 14 24) (by rfl)
 ·(repeat (refine all_cons ?_ ?_;rotate_left));exact Jj
  all_goals try exact sA
  ·exact fun _=>Jm _ 23 _ _ [.const (.int .u64 1)] _ _ _ _ _ _ _ (by rfl) Try.func23 (by kernel_rfl) (by rfl) (by rfl) (Jh) (.cons (Je _) .nil) (HcO.out)
  ·exact fun _=>Jm _ 64 _ _ [.tmp 10,.tmp 11] _ _ _ _ _ _ _ (by rfl) Try.func64 (by kernel_rfl) (by rfl) (by rfl) (Jh) (.cons (kc 0 10) (.cons (kc 1 11) .nil)) (Hck.out)
  ·exact fun _=>Jm _ 64 _ _ [.tmp 15,.tmp 16] _ _ _ _ _ _ _ (by rfl) Try.func64 (by kernel_rfl) (by rfl) (by rfl) (wc 4 14 4 (kc 4 14)) (.cons (kc 5 15) (.cons (kc 6 16) .nil)) (Hcj.out)
  ·exact fun _=>Jm _ 64 _ _ [.tmp 21,.tmp 22] _ _ _ _ _ _ _ (by rfl) Try.func64 (by kernel_rfl) (by rfl) (by rfl) (wc 10 20 10 (kc 10 20)) (.cons (kc 11 21) (.cons (kc 12 22) .nil)) (Hci.out)
 intro vs y2 hc
 obtain ⟨vv0,vv1,vv2,vv3,vv4,vv5,vv6,vv7,vv8,vv9,vv10,vv11,vv12,vv13,vv14,vv15,rfl⟩:=Jed vs hc.lv
 have qq0:=okv hc 0
 have qq1:=okv hc 1
 have qq2:=okv hc 2
 have qq3:=okv hc 3
 have qq4:=okv hc 4
 have qq5:=okv hc 5
 have qq6:=okv hc 6
 have qq7:=okv hc 7
 have qq8:=okv hc 8
 have qq9:=okv hc 9
 have qq10:=okv hc 10
 have qq11:=okv hc 11
 have qq12:=okv hc 12
 have qq13:=okv hc 13
 have qq14:=okv hc 14
 have qq15:=okv hc 15
 have BZ:=hc.bel
 clear hc
 have Nt:=Ft.out.on BZ
 have Na:=Fa.out.on BZ
 have Nb:=Fb.out.on BZ
 have Nm:=Fm.out.on BZ
 have Nx:=Fx.out.on BZ
 have NB:=Jw BW.out BZ
 clear BW BZ Ft Fa Fb Fm Fx
 subst qq0 qq1 qq2 qq3 qq4 qq5 qq6 qq7 qq8 qq9 qq10 qq11 qq12 qq13 qq14 qq15
 simp only [List.map_cons,List.map_nil,over,Act.put,List.setIfInBounds_toArray,List.set_cons_zero,List.set_cons_succ]
 refine wpAnyH_done (by kernel_rfl) ?_ _
 refine NoPanic.normal ?_
 have Ft:=Jgm Nt
 have Fa:=Jgm Na
 have Fb:=Jgm Nb
 have Fm:=Jgm Nm
 have Fx:=Jgm Nx
 have BW:=Jgm NB
 clear NB Nt Na Nb Nm Nx
 have Lt:=Ft.out.lt
 have ct0:y2.cell? ⟨gt,0,none⟩=some (.func (.func 68) #[] #[]):=Ft.out.cell 0
 have La:=Fa.out.lt
 have ca0:=Fa.out.c0;have ca1:=Fa.out.c1;have ca2:=Fa.out.c2;have ca3:=Fa.out.c3
 have Lb:=Fb.out.lt
 have cb0:=Fb.out.c0;have cb1:=Fb.out.c1;have cb2:=Fb.out.c2;have cb3:=Fb.out.c3
 have Lm:=Fm.out.lt
 have cm0:=Fm.out.c0;have cm1:=Fm.out.c1;have cm2:=Fm.out.c2;have cm3:=Fm.out.c3
 go_wp2_with fail
 clear Lt ct0 La ca0 ca1 ca2 ca3 Lb cb0 cb1 cb2 cb3 Lm cm0 cm1 cm2 cm3
 refine (Hcd.out _).mono ?_
 rintro e v3 ⟨rfl,z3⟩
 have Nt:=Jgm (Ft.out.on z3)
 have Na:=Jgm (Fa.out.on z3)
 have Nb:=Jgm (Fb.out.on z3)
 have Nm:=Jgm (Fm.out.on z3)
 have Nx:=Jgm (Fx.out.on z3)
 have NB:=Jgm (Jw BW.out z3)
 clear BW z3 Ft Fa Fb Fm Fx
 have Ft:=Nt
 have Fa:=Na
 have Fb:=Nb
 have Fm:=Nm
 have Fx:=Nx
 have BW:=NB
 clear NB Nt Na Nb Nm Nx
 have Lx:=Fx.out.lt
 have cx0:=Fx.out.c0;have cx1:=Fx.out.c1;have cx2:=Fx.out.c2;have cx3:=Fx.out.c3
 obtain ⟨fx0,fx1,fx2,fx3⟩:=Wc Fx.out
 go_wp2_with fail
 clear Lx cx0 cx1 cx2 cx3 fx0 fx1 fx2 fx3
 generalize hW4:((((v3.setCell ⟨gx,0,none⟩ (.int .u64 (wd V 0))).setCell ⟨gx,1,none⟩ (.int .u64 (wd V 1))).setCell ⟨gx,2,none⟩ (.int .u64 (wd V 2))).setCell ⟨gx,3,none⟩ (.int .u64 (wd V 3)))=W4 at *
 have Nt:=Jd hW4 ((Ft.out).far4 Dtx _ _ _ _)
 have Na:=Jd hW4 ((Fa.out).far4 Dax _ _ _ _)
 have Nb:=Jd hW4 ((Fb.out).far4 Dbx _ _ _ _)
 have Nm:=Jd hW4 ((Fm.out).far4 Dmx _ _ _ _)
 have Nx:=Jd hW4 ((Fx.out).put4 _ _ _ _)
 have NB:=Ke hW4 (((((BW.out).setCell Ex _).setCell Ex _).setCell Ex _).setCell Ex _)
 clear hW4 BW Ft Fa Fb Fm Fx
 have Ft:=Jgm Nt
 have Fa:=Jgm Na
 have Fb:=Jgm Nb
 have Fm:=Jgm Nm
 have Fx:=Jgm Nx
 have BW:=Jgm NB
 clear NB Nt Na Nb Nm Nx
 have Lx:=Fx.out.lt
 have cx0:=Fx.out.c0;have cx1:=Fx.out.c1;have cx2:=Fx.out.c2;have cx3:=Fx.out.c3
 refine bodyPost_ret (v:=.tuple #[num V,.int .i64 er]) (by simp [results,Try.results46,go_sem, *]) rfl ⟨rfl,BW.out⟩

theorem with_inverse (A B M Z V:Nat) (k j i er:Int)
  (hk:0<k)
  (hj:j<0)
  (hi:i<0)
  (cO:∀ w,Calls Try.prog 23 #[.int .u64 1] w fun e w'=>e=.returned (num Z)∧Below w.heap.size w w')
  (ck:∀ w,Calls Try.prog 64 #[num M,num Z] w fun e w'=>e=.returned (.int .i64 k)∧Below w.heap.size w w')
  (cj:∀ w,Calls Try.prog 64 #[num A,num M] w fun e w'=>e=.returned (.int .i64 j)∧Below w.heap.size w w')
  (ci:∀ w,Calls Try.prog 64 #[num B,num M] w fun e w'=>e=.returned (.int .i64 i)∧Below w.heap.size w w')
  (cd:∀ w,Calls Try.prog 67 #[num A,num B,num M] w fun e w'=>e=.returned (.tuple #[num V,.int .i64 er])∧Below w.heap.size w w')
  (w:World):Calls Try.prog 46 #[.agg #[.func (.func 67) #[] #[]],num A,num B,num M] w fun e w'=>e=.returned (.tuple #[num V,.int .i64 er])∧Below w.heap.size w w':=by
 have HcO:=Jgm cO
 have Hck:=Jgm ck
 have Hcj:=Jgm cj
 have Hci:=Jgm ci
 have Hcd:=Jgm cd
 clear cO ck cj ci cd
 go_enter Try.func46,Try.ntmps46
 go_wp2_with fail
 have BW:=Jgm (Below.refl w.heap.size w)
 have Ex:w.heap.size≤w.heap.size+1+1+1+1:=by have:=BW.out.size;omega
 have Dtx:w.heap.size≠w.heap.size+1+1+1+1:=by omega
 have Dax:w.heap.size+1≠w.heap.size+1+1+1+1:=by omega
 have Dbx:w.heap.size+1+1≠w.heap.size+1+1+1+1:=by omega
 have Dmx:w.heap.size+1+1+1≠w.heap.size+1+1+1+1:=by omega
 generalize hW1:(((((w.alloc (.cells #[.func (.func 67) #[] #[]] 73)).alloc (.cells (ncs A) 24)).alloc (.cells (ncs B) 24)).alloc (.cells (ncs M) 24)).alloc (.cells #[.int .u64 0,.int .u64 0,.int .u64 0,.int .u64 0] 24))=W1 at *
 have Nt:At W1 (w.heap.size) _ _:=Jd hW1 (((((At.at_ _ _ _ _ (by simp)).alloc _).alloc _).alloc _).alloc _)
 have Na:At W1 (w.heap.size+1) _ _:=Jd hW1 ((((At.at_ _ _ _ _ (by simp)).alloc _).alloc _).alloc _)
 have Nb:At W1 (w.heap.size+1+1) _ _:=Jd hW1 (((At.at_ _ _ _ _ (by simp)).alloc _).alloc _)
 have Nm:At W1 (w.heap.size+1+1+1) _ _:=Jd hW1 ((At.at_ _ _ _ _ (by simp)).alloc _)
 have Nx:At W1 (w.heap.size+1+1+1+1) _ _:=Jd hW1 (At.at_ _ _ _ _ (by simp))
 have NB:=Ke hW1 (Jb (Jb (Jb (Jb (Jb BW.out _) _) _) _) _)
 clear hW1 BW 
 generalize w.heap.size+1+1+1+1=gx at *
 generalize w.heap.size+1+1+1=gm at *
 generalize w.heap.size+1+1=gb at *
 generalize w.heap.size+1=ga at *
 obtain ⟨gt,hg0⟩:∃ g,g=w.heap.size:=⟨_,rfl⟩
 rw [← hg0] at Nt ⊢
 rw [← hg0] at Dtx
 clear hg0
 have Ft:=Jgm Nt
 have Fa:=Jgm Na
 have Fb:=Jgm Nb
 have Fm:=Jgm Nm
 have Fx:=Jgm Nx
 have BW:=Jgm NB
 clear NB Nt Na Nb Nm Nx
 try simp only [List.append_eq,List.cons_append,List.nil_append]
 refine wp_region_noPanic ?_
 refine wp_region_held_drew (S:=fun w'=>At w' gm 24 (ncs M)∧At w' ga 24 (ncs A)∧At w' gb 24 (ncs B)) (by kernel_rfl) (⟨Fm.out.drew,Fa.out.drew,Fb.out.drew⟩) (fun _=>?_)
 refine Kf (fuel:=0) (⟨0,10,[],Kind.val (num M),true⟩::⟨1,11,[0],Kind.val (num Z),false⟩::⟨2,12,[0,1],Kind.val (.int .i64 k),false⟩::⟨3,13,[2],Kind.val (.bool false),true⟩::⟨4,14,[3],Kind.val (.bool false),true⟩::⟨5,15,[4],Kind.val (num A),true⟩::⟨6,16,[4,5],Kind.val (num M),true⟩::⟨7,17,[4,5,6],Kind.val (.int .i64 j),false⟩::⟨8,18,[4,7],Kind.val (.bool false),true⟩::⟨9,19,[4,8],Kind.val (.bool false),true⟩::⟨10,20,[9],Kind.val (.bool false),true⟩::⟨11,21,[10],Kind.val (num B),true⟩::⟨12,22,[10,11],Kind.val (num M),true⟩::⟨13,23,[10,11,12],Kind.val (.int .i64 i),false⟩::⟨14,24,[10,13],Kind.val (.bool false),true⟩::⟨15,25,[10,14],Kind.val (.bool false),true⟩::[]) _ _ W1 _ ?_ ?_ ?_ ?_ ?_ ?_ ?_ ?_ ?_ ?_ ?_
 ·rfl
 ·kernel_rfl
 ·exact of_decide_eq_true (by kernel_rfl)
 ·(repeat refine all_cons ⟨_,by rfl,by rfl⟩ ?_);exact Jj
 ·exact fun _ hb=>⟨Fm.out.on hb,Fa.out.on hb,Fb.out.on hb⟩
 ·exact (Below.refl _ _).drew
 ·kernel_rfl
 ·exact fun _ _ _ _ _ h=>h
 ·(repeat (refine all_cons ?_ ?_;rotate_left));exact Jj
  all_goals try exact Jq _ (by rfl)
  ·exact Jz _ _ _ _ _ _ gm _ _ _ _ (by rfl) (by rfl) (Jh) (ko 7) (fun _ hs=>hs.1)
  ·exact Kl _ _ _ _ _ _ _ _ _ _ _ _ _ (by rfl) (by rfl) (Jh) (kc 2 12) (Je _) ((fun ρ w hx hy=>by simp only [execOp,hx,hy];simp [go_sem];exact hk))
  ·exact Km _ _ _ _ _ _ _ (by rfl) (by rfl) (Jh) (kc 3 13)
  ·exact Jz _ _ _ _ _ _ ga _ _ _ _ (by rfl) (by rfl) (wc 4 14 4 (kc 4 14)) (ko 5) (fun _ hs=>hs.2.1)
  ·exact Jz _ _ _ _ _ _ gm _ _ _ _ (by rfl) (by rfl) (wc 4 14 4 (kc 4 14)) (ko 7) (fun _ hs=>hs.1)
  ·exact Kl _ _ _ _ _ _ _ _ _ _ _ _ _ (by rfl) (by rfl) (wc 4 14 4 (kc 4 14)) (kc 7 17) (Je _) ((fun ρ w hx hy=>by simp only [execOp,hx,hy];simp [go_sem];exact hj))
  ·exact Kz _ _ _ _ _ _ _ _ _ _ _ _ (by rfl) (by rfl) (Jh) (kc 4 14) (Je _) (kc 8 18) (by rfl)
  ·exact Km _ _ _ _ _ _ _ (by rfl) (by rfl) (Jh) (kc 9 19)
  ·exact Jz _ _ _ _ _ _ gb _ _ _ _ (by rfl) (by rfl) (wc 10 20 10 (kc 10 20)) (ko 6) (fun _ hs=>hs.2.2)
  ·exact Jz _ _ _ _ _ _ gm _ _ _ _ (by rfl) (by rfl) (wc 10 20 10 (kc 10 20)) (ko 7) (fun _ hs=>hs.1)
  ·exact Kl _ _ _ _ _ _ _ _ _ _ _ _ _ (by rfl) (by rfl) (wc 10 20 10 (kc 10 20)) (kc 13 23) (Je _) ((fun ρ w hx hy=>by simp only [execOp,hx,hy];simp [go_sem];exact hi))
  ·exact Kz _ _ _ _ _ _ _ _ _ _ _ _ (by rfl) (by rfl) (Jh) (kc 10 20) (Je _) (kc 14 24) (by rfl)
 ·(repeat (refine all_cons ?_ ?_;rotate_left));exact Jj
  all_goals try exact sA
  ·exact fun _=>Jm _ 23 _ _ [.const (.int .u64 1)] _ _ _ _ _ _ _ (by rfl) Try.func23 (by kernel_rfl) (by rfl) (by rfl) (Jh) (.cons (Je _) .nil) (HcO.out)
  ·exact fun _=>Jm _ 64 _ _ [.tmp 10,.tmp 11] _ _ _ _ _ _ _ (by rfl) Try.func64 (by kernel_rfl) (by rfl) (by rfl) (Jh) (.cons (kc 0 10) (.cons (kc 1 11) .nil)) (Hck.out)
  ·exact fun _=>Jm _ 64 _ _ [.tmp 15,.tmp 16] _ _ _ _ _ _ _ (by rfl) Try.func64 (by kernel_rfl) (by rfl) (by rfl) (wc 4 14 4 (kc 4 14)) (.cons (kc 5 15) (.cons (kc 6 16) .nil)) (Hcj.out)
  ·exact fun _=>Jm _ 64 _ _ [.tmp 21,.tmp 22] _ _ _ _ _ _ _ (by rfl) Try.func64 (by kernel_rfl) (by rfl) (by rfl) (wc 10 20 10 (kc 10 20)) (.cons (kc 11 21) (.cons (kc 12 22) .nil)) (Hci.out)
 intro vs y2 hc
 obtain ⟨vv0,vv1,vv2,vv3,vv4,vv5,vv6,vv7,vv8,vv9,vv10,vv11,vv12,vv13,vv14,vv15,rfl⟩:=Jed vs hc.lv
 have qq0:=okv hc 0
 have qq1:=okv hc 1
 have qq2:=okv hc 2
 have qq3:=okv hc 3
 have qq4:=okv hc 4
 have qq5:=okv hc 5
 have qq6:=okv hc 6
 have qq7:=okv hc 7
 have qq8:=okv hc 8
 have qq9:=okv hc 9
 have qq10:=okv hc 10
 have qq11:=okv hc 11
 have qq12:=okv hc 12
 have qq13:=okv hc 13
 have qq14:=okv hc 14
 have qq15:=okv hc 15
 have BZ:=hc.bel
 clear hc
 have Nt:=Ft.out.on BZ
 have Na:=Fa.out.on BZ
 have Nb:=Fb.out.on BZ
 have Nm:=Fm.out.on BZ
 have Nx:=Fx.out.on BZ
 have NB:=Jw BW.out BZ
 clear BW BZ Ft Fa Fb Fm Fx
 subst qq0 qq1 qq2 qq3 qq4 qq5 qq6 qq7 qq8 qq9 qq10 qq11 qq12 qq13 qq14 qq15
 simp only [List.map_cons,List.map_nil,over,Act.put,List.setIfInBounds_toArray,List.set_cons_zero,List.set_cons_succ]
 refine wpAnyH_done (by kernel_rfl) ?_ _
 refine NoPanic.normal ?_
 have Ft:=Jgm Nt
 have Fa:=Jgm Na
 have Fb:=Jgm Nb
 have Fm:=Jgm Nm
 have Fx:=Jgm Nx
 have BW:=Jgm NB
 clear NB Nt Na Nb Nm Nx
 have Lt:=Ft.out.lt
 have ct0:y2.cell? ⟨gt,0,none⟩=some (.func (.func 67) #[] #[]):=Ft.out.cell 0
 have La:=Fa.out.lt
 have ca0:=Fa.out.c0;have ca1:=Fa.out.c1;have ca2:=Fa.out.c2;have ca3:=Fa.out.c3
 have Lb:=Fb.out.lt
 have cb0:=Fb.out.c0;have cb1:=Fb.out.c1;have cb2:=Fb.out.c2;have cb3:=Fb.out.c3
 have Lm:=Fm.out.lt
 have cm0:=Fm.out.c0;have cm1:=Fm.out.c1;have cm2:=Fm.out.c2;have cm3:=Fm.out.c3
 go_wp2_with fail
 clear Lt ct0 La ca0 ca1 ca2 ca3 Lb cb0 cb1 cb2 cb3 Lm cm0 cm1 cm2 cm3
 refine (Hcd.out _).mono ?_
 rintro e v3 ⟨rfl,z3⟩
 have Nt:=Jgm (Ft.out.on z3)
 have Na:=Jgm (Fa.out.on z3)
 have Nb:=Jgm (Fb.out.on z3)
 have Nm:=Jgm (Fm.out.on z3)
 have Nx:=Jgm (Fx.out.on z3)
 have NB:=Jgm (Jw BW.out z3)
 clear BW z3 Ft Fa Fb Fm Fx
 have Ft:=Nt
 have Fa:=Na
 have Fb:=Nb
 have Fm:=Nm
 have Fx:=Nx
 have BW:=NB
 clear NB Nt Na Nb Nm Nx
 have Lx:=Fx.out.lt
 have cx0:=Fx.out.c0;have cx1:=Fx.out.c1;have cx2:=Fx.out.c2;have cx3:=Fx.out.c3
 obtain ⟨fx0,fx1,fx2,fx3⟩:=Wc Fx.out
 go_wp2_with fail
 clear Lx cx0 cx1 cx2 cx3 fx0 fx1 fx2 fx3
 generalize hW4:((((v3.setCell ⟨gx,0,none⟩ (.int .u64 (wd V 0))).setCell ⟨gx,1,none⟩ (.int .u64 (wd V 1))).setCell ⟨gx,2,none⟩ (.int .u64 (wd V 2))).setCell ⟨gx,3,none⟩ (.int .u64 (wd V 3)))=W4 at *
 have Nt:=Jd hW4 ((Ft.out).far4 Dtx _ _ _ _)
 have Na:=Jd hW4 ((Fa.out).far4 Dax _ _ _ _)
 have Nb:=Jd hW4 ((Fb.out).far4 Dbx _ _ _ _)
 have Nm:=Jd hW4 ((Fm.out).far4 Dmx _ _ _ _)
 have Nx:=Jd hW4 ((Fx.out).put4 _ _ _ _)
 have NB:=Ke hW4 (((((BW.out).setCell Ex _).setCell Ex _).setCell Ex _).setCell Ex _)
 clear hW4 BW Ft Fa Fb Fm Fx
 have Ft:=Jgm Nt
 have Fa:=Jgm Na
 have Fb:=Jgm Nb
 have Fm:=Jgm Nm
 have Fx:=Jgm Nx
 have BW:=Jgm NB
 clear NB Nt Na Nb Nm Nx
 have Lx:=Fx.out.lt
 have cx0:=Fx.out.c0;have cx1:=Fx.out.c1;have cx2:=Fx.out.c2;have cx3:=Fx.out.c3
 refine bodyPost_ret (v:=.tuple #[num V,.int .i64 er]) (by simp [results,Try.results46,go_sem, *]) rfl ⟨rfl,BW.out⟩

theorem with_power (A B M Z V N gn:Nat) (k j i er:Int)
  (hk:0<k)
  (hj:j<0)
  (hi:i<0)
  (cO:∀ w,Calls Try.prog 23 #[.int .u64 1] w fun e w'=>e=.returned (num Z)∧Below w.heap.size w w')
  (ck:∀ w,Calls Try.prog 64 #[num M,num Z] w fun e w'=>e=.returned (.int .i64 k)∧Below w.heap.size w w')
  (cj:∀ w,Calls Try.prog 64 #[num A,num M] w fun e w'=>e=.returned (.int .i64 j)∧Below w.heap.size w w')
  (ci:∀ w,Calls Try.prog 64 #[num B,num M] w fun e w'=>e=.returned (.int .i64 i)∧Below w.heap.size w w')
  (cd:∀ w,At w gn 24 (ncs N)→Calls Try.prog 69 #[num A,num B,num M,.pointer (some ⟨gn,0,none⟩)] w fun e w'=>e=.returned (.tuple #[num V,.int .i64 er])∧Below w.heap.size w w')
  (w:World) (Pn:At w gn 24 (ncs N)):Calls Try.prog 46 #[.agg #[.func (.func 69) #[] #[.pointer (some ⟨gn,0,none⟩)]],num A,num B,num M] w fun e w'=>e=.returned (.tuple #[num V,.int .i64 er])∧Below w.heap.size w w':=by
 have HcO:=Jgm cO
 have Hck:=Jgm ck
 have Hcj:=Jgm cj
 have Hci:=Jgm ci
 have Hcd:=Jgm cd
 clear cO ck cj ci cd
 have Fn:=Jgm Pn
 clear Pn
 go_enter Try.func46,Try.ntmps46
 go_wp2_with fail
 have BW:=Jgm (Below.refl w.heap.size w)
 have Ex:w.heap.size≤w.heap.size+1+1+1+1:=by have:=BW.out.size;omega
 have Dnx:gn≠w.heap.size+1+1+1+1:=by have:=Fn.out.lt;omega
 have Dtx:w.heap.size≠w.heap.size+1+1+1+1:=by omega
 have Dax:w.heap.size+1≠w.heap.size+1+1+1+1:=by omega
 have Dbx:w.heap.size+1+1≠w.heap.size+1+1+1+1:=by omega
 have Dmx:w.heap.size+1+1+1≠w.heap.size+1+1+1+1:=by omega
 generalize hW1:(((((w.alloc (.cells #[.func (.func 69) #[] #[.pointer (some ⟨gn,0,none⟩)]] 73)).alloc (.cells (ncs A) 24)).alloc (.cells (ncs B) 24)).alloc (.cells (ncs M) 24)).alloc (.cells #[.int .u64 0,.int .u64 0,.int .u64 0,.int .u64 0] 24))=W1 at *
 have Nt:At W1 (w.heap.size) _ _:=Jd hW1 (((((At.at_ _ _ _ _ (by simp)).alloc _).alloc _).alloc _).alloc _)
 have Na:At W1 (w.heap.size+1) _ _:=Jd hW1 ((((At.at_ _ _ _ _ (by simp)).alloc _).alloc _).alloc _)
 have Nb:At W1 (w.heap.size+1+1) _ _:=Jd hW1 (((At.at_ _ _ _ _ (by simp)).alloc _).alloc _)
 have Nm:At W1 (w.heap.size+1+1+1) _ _:=Jd hW1 ((At.at_ _ _ _ _ (by simp)).alloc _)
 have Nx:At W1 (w.heap.size+1+1+1+1) _ _:=Jd hW1 (At.at_ _ _ _ _ (by simp))
 have Nn:=Jd hW1 (((((Fn.out.alloc _).alloc _).alloc _).alloc _).alloc _)
 have NB:=Ke hW1 (Jb (Jb (Jb (Jb (Jb BW.out _) _) _) _) _)
 clear hW1 BW Fn
 generalize w.heap.size+1+1+1+1=gx at *
 generalize w.heap.size+1+1+1=gm at *
 generalize w.heap.size+1+1=gb at *
 generalize w.heap.size+1=ga at *
 obtain ⟨gt,hg0⟩:∃ g,g=w.heap.size:=⟨_,rfl⟩
 rw [← hg0] at Nt ⊢
 rw [← hg0] at Dtx
 clear hg0
 have Fn:=Jgm Nn
 have Ft:=Jgm Nt
 have Fa:=Jgm Na
 have Fb:=Jgm Nb
 have Fm:=Jgm Nm
 have Fx:=Jgm Nx
 have BW:=Jgm NB
 clear NB Nn Nt Na Nb Nm Nx
 try simp only [List.append_eq,List.cons_append,List.nil_append]
 refine wp_region_noPanic ?_
 refine wp_region_held_drew (S:=fun w'=>At w' gm 24 (ncs M)∧At w' ga 24 (ncs A)∧At w' gb 24 (ncs B)) (by kernel_rfl) (⟨Fm.out.drew,Fa.out.drew,Fb.out.drew⟩) (fun _=>?_)
 refine Kf (fuel:=0) (⟨0,10,[],Kind.val (num M),true⟩::⟨1,11,[0],Kind.val (num Z),false⟩::⟨2,12,[0,1],Kind.val (.int .i64 k),false⟩::⟨3,13,[2],Kind.val (.bool false),true⟩::⟨4,14,[3],Kind.val (.bool false),true⟩::⟨5,15,[4],Kind.val (num A),true⟩::⟨6,16,[4,5],Kind.val (num M),true⟩::⟨7,17,[4,5,6],Kind.val (.int .i64 j),false⟩::⟨8,18,[4,7],Kind.val (.bool false),true⟩::⟨9,19,[4,8],Kind.val (.bool false),true⟩::⟨10,20,[9],Kind.val (.bool false),true⟩::⟨11,21,[10],Kind.val (num B),true⟩::⟨12,22,[10,11],Kind.val (num M),true⟩::⟨13,23,[10,11,12],Kind.val (.int .i64 i),false⟩::⟨14,24,[10,13],Kind.val (.bool false),true⟩::⟨15,25,[10,14],Kind.val (.bool false),true⟩::[]) _ _ W1 _ ?_ ?_ ?_ ?_ ?_ ?_ ?_ ?_ ?_ ?_ ?_
 ·rfl
 ·kernel_rfl
 ·exact of_decide_eq_true (by kernel_rfl)
 ·(repeat refine all_cons ⟨_,by rfl,by rfl⟩ ?_);exact Jj
 ·exact fun _ hb=>⟨Fm.out.on hb,Fa.out.on hb,Fb.out.on hb⟩
 ·exact (Below.refl _ _).drew
 ·kernel_rfl
 ·exact fun _ _ _ _ _ h=>h
 ·(repeat (refine all_cons ?_ ?_;rotate_left));exact Jj
  all_goals try exact Jq _ (by rfl)
  ·exact Jz _ _ _ _ _ _ gm _ _ _ _ (by rfl) (by rfl) (Jh) (ko 7) (fun _ hs=>hs.1)
  ·exact Kl _ _ _ _ _ _ _ _ _ _ _ _ _ (by rfl) (by rfl) (Jh) (kc 2 12) (Je _) ((fun ρ w hx hy=>by simp only [execOp,hx,hy];simp [go_sem];exact hk))
  ·exact Km _ _ _ _ _ _ _ (by rfl) (by rfl) (Jh) (kc 3 13)
  ·exact Jz _ _ _ _ _ _ ga _ _ _ _ (by rfl) (by rfl) (wc 4 14 4 (kc 4 14)) (ko 5) (fun _ hs=>hs.2.1)
  ·exact Jz _ _ _ _ _ _ gm _ _ _ _ (by rfl) (by rfl) (wc 4 14 4 (kc 4 14)) (ko 7) (fun _ hs=>hs.1)
  ·exact Kl _ _ _ _ _ _ _ _ _ _ _ _ _ (by rfl) (by rfl) (wc 4 14 4 (kc 4 14)) (kc 7 17) (Je _) ((fun ρ w hx hy=>by simp only [execOp,hx,hy];simp [go_sem];exact hj))
  ·exact Kz _ _ _ _ _ _ _ _ _ _ _ _ (by rfl) (by rfl) (Jh) (kc 4 14) (Je _) (kc 8 18) (by rfl)
  ·exact Km _ _ _ _ _ _ _ (by rfl) (by rfl) (Jh) (kc 9 19)
  ·exact Jz _ _ _ _ _ _ gb _ _ _ _ (by rfl) (by rfl) (wc 10 20 10 (kc 10 20)) (ko 6) (fun _ hs=>hs.2.2)
  ·exact Jz _ _ _ _ _ _ gm _ _ _ _ (by rfl) (by rfl) (wc 10 20 10 (kc 10 20)) (ko 7) (fun _ hs=>hs.1)
  ·exact Kl _ _ _ _ _ _ _ _ _ _ _ _ _ (by rfl) (by rfl) (wc 10 20 10 (kc 10 20)) (kc 13 23) (Je _) ((fun ρ w hx hy=>by simp only [execOp,hx,hy];simp [go_sem];exact hi))
  ·exact Kz _ _ _ _ _ _ _ _ _ _ _ _ (by rfl) (by rfl) (Jh) (kc 10 20) (Je _) (kc 14 24) (by rfl)
 ·(repeat (refine all_cons ?_ ?_;rotate_left));exact Jj
  all_goals try exact sA
  ·exact fun _=>Jm _ 23 _ _ [.const (.int .u64 1)] _ _ _ _ _ _ _ (by rfl) Try.func23 (by kernel_rfl) (by rfl) (by rfl) (Jh) (.cons (Je _) .nil) (HcO.out)
  ·exact fun _=>Jm _ 64 _ _ [.tmp 10,.tmp 11] _ _ _ _ _ _ _ (by rfl) Try.func64 (by kernel_rfl) (by rfl) (by rfl) (Jh) (.cons (kc 0 10) (.cons (kc 1 11) .nil)) (Hck.out)
  ·exact fun _=>Jm _ 64 _ _ [.tmp 15,.tmp 16] _ _ _ _ _ _ _ (by rfl) Try.func64 (by kernel_rfl) (by rfl) (by rfl) (wc 4 14 4 (kc 4 14)) (.cons (kc 5 15) (.cons (kc 6 16) .nil)) (Hcj.out)
  ·exact fun _=>Jm _ 64 _ _ [.tmp 21,.tmp 22] _ _ _ _ _ _ _ (by rfl) Try.func64 (by kernel_rfl) (by rfl) (by rfl) (wc 10 20 10 (kc 10 20)) (.cons (kc 11 21) (.cons (kc 12 22) .nil)) (Hci.out)
 intro vs y2 hc
 obtain ⟨vv0,vv1,vv2,vv3,vv4,vv5,vv6,vv7,vv8,vv9,vv10,vv11,vv12,vv13,vv14,vv15,rfl⟩:=Jed vs hc.lv
 have qq0:=okv hc 0
 have qq1:=okv hc 1
 have qq2:=okv hc 2
 have qq3:=okv hc 3
 have qq4:=okv hc 4
 have qq5:=okv hc 5
 have qq6:=okv hc 6
 have qq7:=okv hc 7
 have qq8:=okv hc 8
 have qq9:=okv hc 9
 have qq10:=okv hc 10
 have qq11:=okv hc 11
 have qq12:=okv hc 12
 have qq13:=okv hc 13
 have qq14:=okv hc 14
 have qq15:=okv hc 15
 have BZ:=hc.bel
 clear hc
 have Nn:=Fn.out.on BZ
 have Nt:=Ft.out.on BZ
 have Na:=Fa.out.on BZ
 have Nb:=Fb.out.on BZ
 have Nm:=Fm.out.on BZ
 have Nx:=Fx.out.on BZ
 have NB:=Jw BW.out BZ
 clear BW BZ Fn Ft Fa Fb Fm Fx
 subst qq0 qq1 qq2 qq3 qq4 qq5 qq6 qq7 qq8 qq9 qq10 qq11 qq12 qq13 qq14 qq15
 simp only [List.map_cons,List.map_nil,over,Act.put,List.setIfInBounds_toArray,List.set_cons_zero,List.set_cons_succ]
 refine wpAnyH_done (by kernel_rfl) ?_ _
 refine NoPanic.normal ?_
 have Fn:=Jgm Nn
 have Ft:=Jgm Nt
 have Fa:=Jgm Na
 have Fb:=Jgm Nb
 have Fm:=Jgm Nm
 have Fx:=Jgm Nx
 have BW:=Jgm NB
 clear NB Nn Nt Na Nb Nm Nx
 have Lt:=Ft.out.lt
 have ct0:y2.cell? ⟨gt,0,none⟩=some (.func (.func 69) #[] #[.pointer (some ⟨gn,0,none⟩)]):=Ft.out.cell 0
 have La:=Fa.out.lt
 have ca0:=Fa.out.c0;have ca1:=Fa.out.c1;have ca2:=Fa.out.c2;have ca3:=Fa.out.c3
 have Lb:=Fb.out.lt
 have cb0:=Fb.out.c0;have cb1:=Fb.out.c1;have cb2:=Fb.out.c2;have cb3:=Fb.out.c3
 have Lm:=Fm.out.lt
 have cm0:=Fm.out.c0;have cm1:=Fm.out.c1;have cm2:=Fm.out.c2;have cm3:=Fm.out.c3
 go_wp2_with fail
 clear Lt ct0 La ca0 ca1 ca2 ca3 Lb cb0 cb1 cb2 cb3 Lm cm0 cm1 cm2 cm3
 refine (Hcd.out _ Fn.out).mono ?_
 rintro e v3 ⟨rfl,z3⟩
 have Nn:=Jgm (Fn.out.on z3)
 have Nt:=Jgm (Ft.out.on z3)
 have Na:=Jgm (Fa.out.on z3)
 have Nb:=Jgm (Fb.out.on z3)
 have Nm:=Jgm (Fm.out.on z3)
 have Nx:=Jgm (Fx.out.on z3)
 have NB:=Jgm (Jw BW.out z3)
 clear BW z3 Fn Ft Fa Fb Fm Fx
 have Fn:=Nn
 have Ft:=Nt
 have Fa:=Na
 have Fb:=Nb
 have Fm:=Nm
 have Fx:=Nx
 have BW:=NB
 clear NB Nn Nt Na Nb Nm Nx
 have Lx:=Fx.out.lt
 have cx0:=Fx.out.c0;have cx1:=Fx.out.c1;have cx2:=Fx.out.c2;have cx3:=Fx.out.c3
 obtain ⟨fx0,fx1,fx2,fx3⟩:=Wc Fx.out
 go_wp2_with fail
 clear Lx cx0 cx1 cx2 cx3 fx0 fx1 fx2 fx3
 generalize hW4:((((v3.setCell ⟨gx,0,none⟩ (.int .u64 (wd V 0))).setCell ⟨gx,1,none⟩ (.int .u64 (wd V 1))).setCell ⟨gx,2,none⟩ (.int .u64 (wd V 2))).setCell ⟨gx,3,none⟩ (.int .u64 (wd V 3)))=W4 at *
 have Nn:=Jd hW4 ((Fn.out).far4 Dnx _ _ _ _)
 have Nt:=Jd hW4 ((Ft.out).far4 Dtx _ _ _ _)
 have Na:=Jd hW4 ((Fa.out).far4 Dax _ _ _ _)
 have Nb:=Jd hW4 ((Fb.out).far4 Dbx _ _ _ _)
 have Nm:=Jd hW4 ((Fm.out).far4 Dmx _ _ _ _)
 have Nx:=Jd hW4 ((Fx.out).put4 _ _ _ _)
 have NB:=Ke hW4 (((((BW.out).setCell Ex _).setCell Ex _).setCell Ex _).setCell Ex _)
 clear hW4 BW Fn Ft Fa Fb Fm Fx
 have Fn:=Jgm Nn
 have Ft:=Jgm Nt
 have Fa:=Jgm Na
 have Fb:=Jgm Nb
 have Fm:=Jgm Nm
 have Fx:=Jgm Nx
 have BW:=Jgm NB
 clear NB Nn Nt Na Nb Nm Nx
 have Lx:=Fx.out.lt
 have cx0:=Fx.out.c0;have cx1:=Fx.out.c1;have cx2:=Fx.out.c2;have cx3:=Fx.out.c3
 refine bodyPost_ret (v:=.tuple #[num V,.int .i64 er]) (by simp [results,Try.results46,go_sem, *]) rfl ⟨rfl,BW.out⟩

end Go.Proofs.Ytcbnmdkmfdjpiaa
