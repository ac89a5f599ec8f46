import Derived.Deep.Cut
import Derived.Test.YtmmgmljkmmgjdaaGreatDoorMPm
import Derived.Test.YtmmgmljkmmgjdaaGreatDoorMRCmp
import Derived.Test.YtmmgmljkmmgjdaaGreatDoorMRDiv
import Derived.Test.YtmmgmljkmmgjdaaGreatDoorMTree
namespace Go.Proofs.YtmmgmljkmmgjdaaGreatDoor
set_option maxRecDepth 100000
set_option maxHeartbeats 8000000
open Go.RowKit
set_option linter.unusedSimpArgs false
set_option linter.unusedVariables false
attribute [local go_sem ↓] Go.wp_at_zero Go.wp_at_succ

theorem rof9_0 (P Q G H S D V u c:Nat) (n:Int)
  (hQ:Q<2^256)
  (hq:decide (Q=0)=true)
  (w:World):Calls Tryz.prog 38 #[grp P Q G H,.int .i64 n] w fun e w'=>e=.returned (num 0)∧Below w.heap.size w w':=by
 refine Jx (args:=[grp P Q G H,.int .i64 n]) Tryz.func38 rfl Tryz.ntmps38 (by rfl) fun a F HM=>?_
 refine Kgr ?_
 refine Jn F HM (Ja rfl _) rfl (by rfl) (Km (F.ev rfl)) fun a w gg F HM=>?_
 refine Jn F HM (Ja rfl _) rfl (by rfl) (Jw) fun a w go F HM=>?_
 refine Jc ?_
 refine Kgr ?_
 refine lxv (.pointer (some ⟨gg,4,none⟩)) F (Ug (F.ev rfl)) fun a F=>?_
 refine lxv (num Q) F (Ur (F.ev rfl) (HM.get 1 rfl)) fun a F=>?_
 refine lxv (num 0) F (Uc) fun a F=>?_
 refine lxv (.bool true) F (Jcd hQ (show 0<2^256 by decide) hq (F.ev rfl) (F.ev rfl)) fun a F=>?_
 refine Jc ?_
 refine Kgq ?_
 refine wp_cond_true (F.ev rfl) ?_
 refine Kgr ?_
 refine lxv (num 0) F (Uc) fun a F=>?_
 refine Jv F HM (Ja rfl _) rfl (k:=0) rfl (Jq (F.ev rfl) (F.ev rfl) (HM.get 0 rfl)) (M2:=[(go,24,ncs 0),(gg,26,gcs P Q G H)]) rfl fun w HM=>?_
 refine Jc ?_
 refine Kgq ?_
 refine wp_ret ?_
 repeat (first | refine Jt ?_ | refine Jo ?_)
 exact Kp F HM (Jet F (s:=4) rfl rfl (HM.get 0 rfl))

theorem rof9_pos (P Q G H S D V u c:Nat) (n:Int)
  (hQ:Q<2^256)
  (hq:decide (Q=0)=false)
  (hn:¬ n<0)
  (cO:∀ w,Calls Tryz.prog 122 #[.int .u64 (S:Nat)] w fun e w'=>e=.returned (num S)∧Below w.heap.size w w')
  (cD:∀ w,Calls Tryz.prog 121 #[num S,num Q] w fun e w'=>e=.returned (.tuple #[num D,num V,.int .i64 0])∧Below w.heap.size w w')
  (hw1:IntKind.u64.wrap n=(S:Nat))
  (w:World):Calls Tryz.prog 38 #[grp P Q G H,.int .i64 n] w fun e w'=>e=.returned (num V)∧Below w.heap.size w w':=by
 refine Jx (args:=[grp P Q G H,.int .i64 n]) Tryz.func38 rfl Tryz.ntmps38 (by rfl) fun a F HM=>?_
 refine Kgr ?_
 refine Jn F HM (Ja rfl _) rfl (by rfl) (Km (F.ev rfl)) fun a w gg F HM=>?_
 refine Jn F HM (Ja rfl _) rfl (by rfl) (Jw) fun a w go F HM=>?_
 refine Jc ?_
 refine Kgr ?_
 refine lxv (.pointer (some ⟨gg,4,none⟩)) F (Ug (F.ev rfl)) fun a F=>?_
 refine lxv (num Q) F (Ur (F.ev rfl) (HM.get 1 rfl)) fun a F=>?_
 refine lxv (num 0) F (Uc) fun a F=>?_
 refine lxv (.bool false) F (Jcd hQ (show 0<2^256 by decide) hq (F.ev rfl) (F.ev rfl)) fun a F=>?_
 refine Jc ?_
 refine Kgq ?_
 refine wp_cond_false (F.ev rfl) ?_
 refine Kgr ?_
 refine lxv (.int .i64 n) F (Jb (F.ev rfl)) fun a F=>?_
 refine lxv (.bool true) F (Jz (u:=.int .i64 n) (v:=.int .i64 0) (fun ρ hx hy=>by simp only [execOp,hx,hy];simp [go_sem];omega) (F.ev rfl) rfl) fun a F=>?_
 refine Jc ?_
 refine Kgq ?_
 refine wp_cond_true (F.ev rfl) ?_
 refine Kgq ?_
 try simp only [List.append_eq,List.cons_append,List.nil_append]
 refine Jfw [⟨0,21,[],.val (.int .i64 n),true⟩,
   ⟨1,22,[0],.val (.int .u64 (S:Nat)),true⟩,
   ⟨3,24,[1],.val (.pointer (some ⟨gg,4,none⟩)),true⟩,
   ⟨4,25,[2],.val (num Q),true⟩,
   ⟨10,5,[],.cell 24 (ncs 0),false⟩,
   ⟨11,6,[],.cell 24 (ncs 0),false⟩,
   ⟨2,23,[1,3],.val (num S),false⟩,
   ⟨5,26,[3,6],.val (.tuple #[num D,num V,.int .i64 0]),false⟩,
   ⟨6,20,[7],.val (.tuple #[num D,num V,.int .i64 0]),true⟩,
   ⟨7,27,[8],.val (num D),true⟩,
   ⟨8,28,[8,9],.val (num V),true⟩,
   ⟨9,29,[8,10],.val (.int .i64 0),true⟩] 3 F HM (by kernel_rfl) (by rfl) (by rfl) ?_ ?_ ?_ ?_ ?_ ?_ ?_
 ·kernel_rfl
 ·exact of_decide_eq_true (by kernel_rfl)
 ·(repeat refine all_cons ⟨_,by rfl,by rfl⟩ ?_);exact all_nil
 ·kernel_rfl
 ·(repeat (refine all_cons ?_ ?_;rotate_left));exact all_nil
  all_goals try exact Jm _ (by rfl)
  ·exact Wt _ _ _ _ _ _ _ (by rfl) (by rfl) Jg (fun ρ w kn hs=>Jb (kn _ _ (F.old (by rfl) rfl)))
  ·exact crS (fun ρ w kn hs=>Jfe hw1 (kn _ _ (kc 0 21)))
  ·exact Wt _ _ _ _ _ _ _ (by rfl) (by rfl) Jg (fun ρ w kn hs=>Ug (kn _ _ (F.old (by rfl) rfl)))
  ·exact crS (fun ρ w kn hs=>Ur (kn _ _ (kc 2 24)) (hs.get 1 rfl))
  ·exact crS (fun ρ w kn hs=>Jb (kn _ _ (kc 7 26)))
  ·exact crS (fun ρ w kn hs=>Jk (kn _ _ (kc 8 20)) rfl)
  ·exact crS (fun ρ w kn hs=>Jk (kn _ _ (kc 8 20)) rfl)
  ·exact crS (fun ρ w kn hs=>Jk (kn _ _ (kc 8 20)) rfl)
 ·(repeat (refine all_cons ?_ ?_;rotate_left));exact all_nil
  all_goals try exact sA
  ·exact fun _=>Uu _ _ _ _ _ _ _ _ (by rfl) (by rfl) (Nat.le_refl _) (fun ρ w=>Jw)
  ·exact fun _=>Uu _ _ _ _ _ _ _ _ (by rfl) (by rfl) (Nat.le_refl _) (fun ρ w=>Jw)
  ·exact fun _=>Jl _ 122 _ _ [.tmp 22] _ _ _ _ _ _ _ (by rfl) Tryz.func122 (by kernel_rfl) (by rfl) (by rfl) (Jg) (.cons (kc 1 22) .nil) (cO)
  ·exact fun _=>Jl _ 121 _ _ [.tmp 23,.tmp 25] _ _ _ _ _ _ _ (by rfl) Tryz.func121 (by kernel_rfl) (by rfl) (by rfl) (Jg) (.cons (kc 6 23) (.cons (kc 3 25) .nil)) (cD)
 intro gs rs a w hgs hrs F HM
 obtain rfl:=nl0 rs hrs
 clear hrs
 obtain ⟨gq,gr,rfl⟩:=nl2 gs hgs
 clear hgs
 refine Kn (i:=12) HM (by kernel_rfl) (by rfl) rfl rfl (k:=0) rfl (Jq (F.ev rfl) (F.ev rfl) (HM.get 0 rfl)) (M2:=[(gq,24,ncs D),(gr,24,ncs 0),(go,24,ncs 0),(gg,26,gcs P Q G H)]) rfl (fun _ h=>h.tail (A:=[(gq,24,ncs D),(gr,24,ncs 0)])) fun w HM=>?_
 refine Kn (i:=13) HM (by kernel_rfl) (by rfl) rfl rfl (k:=1) rfl (Jq (F.ev rfl) (F.ev rfl) (HM.get 1 rfl)) (M2:=[(gq,24,ncs D),(gr,24,ncs V),(go,24,ncs 0),(gg,26,gcs P Q G H)]) rfl (fun _ h=>h.tail (A:=[(gq,24,ncs D),(gr,24,ncs V)])) fun w HM=>?_
 refine Us (i:=14) (d:=7) (x:=.tmp 29) (v:=.int .i64 0) F (HM.tail (A:=[(gq,24,ncs D),(gr,24,ncs V)])) (by kernel_rfl) (by rfl) (by rfl) (F.ev rfl) fun a F=>?_
 refine Ks (by kernel_rfl) ?_ _
 refine Kgr ?_
 refine lxv (num V) F (Jp (F.ev rfl) (HM.get 1 rfl)) fun a F=>?_
 refine Jv F HM (Ja rfl _) rfl (k:=2) rfl (Jq (F.ev rfl) (F.ev rfl) (HM.get 2 rfl)) (M2:=[(gq,24,ncs D),(gr,24,ncs V),(go,24,ncs V),(gg,26,gcs P Q G H)]) rfl fun w HM=>?_
 refine Jc ?_
 refine Kgq ?_
 refine wp_ret ?_
 repeat (first | refine Jt ?_ | refine Jo ?_)
 exact Kp F HM (Jet F (s:=4) rfl rfl (HM.get 2 rfl))

theorem rof9_z (P Q G H S D V u c:Nat) (n:Int)
  (hQ:Q<2^256)
  (hq:decide (Q=0)=false)
  (hn:n<0)
  (cO:∀ w,Calls Tryz.prog 122 #[.int .u64 (S:Nat)] w fun e w'=>e=.returned (num S)∧Below w.heap.size w w')
  (cD:∀ w,Calls Tryz.prog 121 #[num S,num Q] w fun e w'=>e=.returned (.tuple #[num D,num V,.int .i64 0])∧Below w.heap.size w w')
  (hw1:IntKind.u64.wrap n=(u:Nat))
  (hw2:IntKind.u64.wrap (-(u:Int))=(S:Nat))
  (hV:V<2^256)
  (h0:decide (V=0)=true)
  (w:World):Calls Tryz.prog 38 #[grp P Q G H,.int .i64 n] w fun e w'=>e=.returned (num V)∧Below w.heap.size w w':=by
 refine Jx (args:=[grp P Q G H,.int .i64 n]) Tryz.func38 rfl Tryz.ntmps38 (by rfl) fun a F HM=>?_
 refine Kgr ?_
 refine Jn F HM (Ja rfl _) rfl (by rfl) (Km (F.ev rfl)) fun a w gg F HM=>?_
 refine Jn F HM (Ja rfl _) rfl (by rfl) (Jw) fun a w go F HM=>?_
 refine Jc ?_
 refine Kgr ?_
 refine lxv (.pointer (some ⟨gg,4,none⟩)) F (Ug (F.ev rfl)) fun a F=>?_
 refine lxv (num Q) F (Ur (F.ev rfl) (HM.get 1 rfl)) fun a F=>?_
 refine lxv (num 0) F (Uc) fun a F=>?_
 refine lxv (.bool false) F (Jcd hQ (show 0<2^256 by decide) hq (F.ev rfl) (F.ev rfl)) fun a F=>?_
 refine Jc ?_
 refine Kgq ?_
 refine wp_cond_false (F.ev rfl) ?_
 refine Kgr ?_
 refine lxv (.int .i64 n) F (Jb (F.ev rfl)) fun a F=>?_
 refine lxv (.bool false) F (Jz (u:=.int .i64 n) (v:=.int .i64 0) (fun ρ hx hy=>by simp only [execOp,hx,hy];simp [go_sem];omega) (F.ev rfl) rfl) fun a F=>?_
 refine Jc ?_
 refine Kgq ?_
 refine wp_cond_false (F.ev rfl) ?_
 refine Kgq ?_
 try simp only [List.append_eq,List.cons_append,List.nil_append]
 refine Jfw [⟨0,32,[],.val (.int .i64 n),true⟩,
   ⟨1,33,[0],.val (.int .u64 (u:Nat)),true⟩,
   ⟨2,34,[1],.val (.int .u64 (S:Nat)),true⟩,
   ⟨4,36,[2],.val (.pointer (some ⟨gg,4,none⟩)),true⟩,
   ⟨5,37,[3],.val (num Q),true⟩,
   ⟨11,8,[],.cell 24 (ncs 0),false⟩,
   ⟨12,9,[],.cell 24 (ncs 0),false⟩,
   ⟨3,35,[2,4],.val (num S),false⟩,
   ⟨6,38,[4,7],.val (.tuple #[num D,num V,.int .i64 0]),false⟩,
   ⟨7,31,[8],.val (.tuple #[num D,num V,.int .i64 0]),true⟩,
   ⟨8,39,[9],.val (num D),true⟩,
   ⟨9,40,[9,10],.val (num V),true⟩,
   ⟨10,41,[9,11],.val (.int .i64 0),true⟩] 3 F HM (by kernel_rfl) (by rfl) (by rfl) ?_ ?_ ?_ ?_ ?_ ?_ ?_
 ·kernel_rfl
 ·exact of_decide_eq_true (by kernel_rfl)
 ·(repeat refine all_cons ⟨_,by rfl,by rfl⟩ ?_);exact all_nil
 ·kernel_rfl
 ·(repeat (refine all_cons ?_ ?_;rotate_left));exact all_nil
  all_goals try exact Jm _ (by rfl)
  ·exact Wt _ _ _ _ _ _ _ (by rfl) (by rfl) Jg (fun ρ w kn hs=>Jb (kn _ _ (F.old (by rfl) rfl)))
  ·exact crS (fun ρ w kn hs=>Jfe hw1 (kn _ _ (kc 0 32)))
  ·exact crS (fun ρ w kn hs=>Jia hw2 (kn _ _ (kc 1 33)))
  ·exact Wt _ _ _ _ _ _ _ (by rfl) (by rfl) Jg (fun ρ w kn hs=>Ug (kn _ _ (F.old (by rfl) rfl)))
  ·exact crS (fun ρ w kn hs=>Ur (kn _ _ (kc 3 36)) (hs.get 1 rfl))
  ·exact crS (fun ρ w kn hs=>Jb (kn _ _ (kc 8 38)))
  ·exact crS (fun ρ w kn hs=>Jk (kn _ _ (kc 9 31)) rfl)
  ·exact crS (fun ρ w kn hs=>Jk (kn _ _ (kc 9 31)) rfl)
  ·exact crS (fun ρ w kn hs=>Jk (kn _ _ (kc 9 31)) rfl)
 ·(repeat (refine all_cons ?_ ?_;rotate_left));exact all_nil
  all_goals try exact sA
  ·exact fun _=>Uu _ _ _ _ _ _ _ _ (by rfl) (by rfl) (Nat.le_refl _) (fun ρ w=>Jw)
  ·exact fun _=>Uu _ _ _ _ _ _ _ _ (by rfl) (by rfl) (Nat.le_refl _) (fun ρ w=>Jw)
  ·exact fun _=>Jl _ 122 _ _ [.tmp 34] _ _ _ _ _ _ _ (by rfl) Tryz.func122 (by kernel_rfl) (by rfl) (by rfl) (Jg) (.cons (kc 2 34) .nil) (cO)
  ·exact fun _=>Jl _ 121 _ _ [.tmp 35,.tmp 37] _ _ _ _ _ _ _ (by rfl) Tryz.func121 (by kernel_rfl) (by rfl) (by rfl) (Jg) (.cons (kc 7 35) (.cons (kc 4 37) .nil)) (cD)
 intro gs rs a w hgs hrs F HM
 obtain rfl:=nl0 rs hrs
 clear hrs
 obtain ⟨gq,gr,rfl⟩:=nl2 gs hgs
 clear hgs
 refine Kn (i:=13) HM (by kernel_rfl) (by rfl) rfl rfl (k:=0) rfl (Jq (F.ev rfl) (F.ev rfl) (HM.get 0 rfl)) (M2:=[(gq,24,ncs D),(gr,24,ncs 0),(go,24,ncs 0),(gg,26,gcs P Q G H)]) rfl (fun _ h=>h.tail (A:=[(gq,24,ncs D),(gr,24,ncs 0)])) fun w HM=>?_
 refine Kn (i:=14) HM (by kernel_rfl) (by rfl) rfl rfl (k:=1) rfl (Jq (F.ev rfl) (F.ev rfl) (HM.get 1 rfl)) (M2:=[(gq,24,ncs D),(gr,24,ncs V),(go,24,ncs 0),(gg,26,gcs P Q G H)]) rfl (fun _ h=>h.tail (A:=[(gq,24,ncs D),(gr,24,ncs V)])) fun w HM=>?_
 refine Us (i:=15) (d:=10) (x:=.tmp 41) (v:=.int .i64 0) F (HM.tail (A:=[(gq,24,ncs D),(gr,24,ncs V)])) (by kernel_rfl) (by rfl) (by rfl) (F.ev rfl) fun a F=>?_
 refine Ks (by kernel_rfl) ?_ _
 refine Kgr ?_
 refine lxv (num V) F (Jp (F.ev rfl) (HM.get 1 rfl)) fun a F=>?_
 refine lxv (num 0) F (Uc) fun a F=>?_
 refine lxv (.bool true) F (Jcd hV (show 0<2^256 by decide) h0 (F.ev rfl) (F.ev rfl)) fun a F=>?_
 refine Jc ?_
 refine Kgq ?_
 refine wp_cond_true (F.ev rfl) ?_
 refine Kgr ?_
 refine lxv (num V) F (Jp (F.ev rfl) (HM.get 1 rfl)) fun a F=>?_
 refine Jv F HM (Ja rfl _) rfl (k:=2) rfl (Jq (F.ev rfl) (F.ev rfl) (HM.get 2 rfl)) (M2:=[(gq,24,ncs D),(gr,24,ncs V),(go,24,ncs V),(gg,26,gcs P Q G H)]) rfl fun w HM=>?_
 refine Jc ?_
 refine Kgq ?_
 refine wp_ret ?_
 repeat (first | refine Jt ?_ | refine Jo ?_)
 exact Kp F HM (Jet F (s:=4) rfl rfl (HM.get 2 rfl))

theorem rof9_neg (P Q G H S D V W u c:Nat) (n:Int)
  (hQ:Q<2^256)
  (hq:decide (Q=0)=false)
  (hn:n<0)
  (cO:∀ w,Calls Tryz.prog 122 #[.int .u64 (S:Nat)] w fun e w'=>e=.returned (num S)∧Below w.heap.size w w')
  (cD:∀ w,Calls Tryz.prog 121 #[num S,num Q] w fun e w'=>e=.returned (.tuple #[num D,num V,.int .i64 0])∧Below w.heap.size w w')
  (hw1:IntKind.u64.wrap n=(u:Nat))
  (hw2:IntKind.u64.wrap (-(u:Int))=(S:Nat))
  (hV:V<2^256)
  (h0:decide (V=0)=false)
  (cS:∀ w,Calls Tryz.prog 123 #[num Q,num V] w fun e w'=>e=.returned (.tuple #[num W,.int .u64 (c:Nat)])∧Below w.heap.size w w')
  (w:World):Calls Tryz.prog 38 #[grp P Q G H,.int .i64 n] w fun e w'=>e=.returned (num W)∧Below w.heap.size w w':=by
 refine Jx (args:=[grp P Q G H,.int .i64 n]) Tryz.func38 rfl Tryz.ntmps38 (by rfl) fun a F HM=>?_
 refine Kgr ?_
 refine Jn F HM (Ja rfl _) rfl (by rfl) (Km (F.ev rfl)) fun a w gg F HM=>?_
 refine Jn F HM (Ja rfl _) rfl (by rfl) (Jw) fun a w go F HM=>?_
 refine Jc ?_
 refine Kgr ?_
 refine lxv (.pointer (some ⟨gg,4,none⟩)) F (Ug (F.ev rfl)) fun a F=>?_
 refine lxv (num Q) F (Ur (F.ev rfl) (HM.get 1 rfl)) fun a F=>?_
 refine lxv (num 0) F (Uc) fun a F=>?_
 refine lxv (.bool false) F (Jcd hQ (show 0<2^256 by decide) hq (F.ev rfl) (F.ev rfl)) fun a F=>?_
 refine Jc ?_
 refine Kgq ?_
 refine wp_cond_false (F.ev rfl) ?_
 refine Kgr ?_
 refine lxv (.int .i64 n) F (Jb (F.ev rfl)) fun a F=>?_
 refine lxv (.bool false) F (Jz (u:=.int .i64 n) (v:=.int .i64 0) (fun ρ hx hy=>by simp only [execOp,hx,hy];simp [go_sem];omega) (F.ev rfl) rfl) fun a F=>?_
 refine Jc ?_
 refine Kgq ?_
 refine wp_cond_false (F.ev rfl) ?_
 refine Kgq ?_
 try simp only [List.append_eq,List.cons_append,List.nil_append]
 refine Jfw [⟨0,32,[],.val (.int .i64 n),true⟩,
   ⟨1,33,[0],.val (.int .u64 (u:Nat)),true⟩,
   ⟨2,34,[1],.val (.int .u64 (S:Nat)),true⟩,
   ⟨4,36,[2],.val (.pointer (some ⟨gg,4,none⟩)),true⟩,
   ⟨5,37,[3],.val (num Q),true⟩,
   ⟨11,8,[],.cell 24 (ncs 0),false⟩,
   ⟨12,9,[],.cell 24 (ncs 0),false⟩,
   ⟨3,35,[2,4],.val (num S),false⟩,
   ⟨6,38,[4,7],.val (.tuple #[num D,num V,.int .i64 0]),false⟩,
   ⟨7,31,[8],.val (.tuple #[num D,num V,.int .i64 0]),true⟩,
   ⟨8,39,[9],.val (num D),true⟩,
   ⟨9,40,[9,10],.val (num V),true⟩,
   ⟨10,41,[9,11],.val (.int .i64 0),true⟩] 3 F HM (by kernel_rfl) (by rfl) (by rfl) ?_ ?_ ?_ ?_ ?_ ?_ ?_
 ·kernel_rfl
 ·exact of_decide_eq_true (by kernel_rfl)
 ·(repeat refine all_cons ⟨_,by rfl,by rfl⟩ ?_);exact all_nil
 ·kernel_rfl
 ·(repeat (refine all_cons ?_ ?_;rotate_left));exact all_nil
  all_goals try exact Jm _ (by rfl)
  ·exact Wt _ _ _ _ _ _ _ (by rfl) (by rfl) Jg (fun ρ w kn hs=>Jb (kn _ _ (F.old (by rfl) rfl)))
  ·exact crS (fun ρ w kn hs=>Jfe hw1 (kn _ _ (kc 0 32)))
  ·exact crS (fun ρ w kn hs=>Jia hw2 (kn _ _ (kc 1 33)))
  ·exact Wt _ _ _ _ _ _ _ (by rfl) (by rfl) Jg (fun ρ w kn hs=>Ug (kn _ _ (F.old (by rfl) rfl)))
  ·exact crS (fun ρ w kn hs=>Ur (kn _ _ (kc 3 36)) (hs.get 1 rfl))
  ·exact crS (fun ρ w kn hs=>Jb (kn _ _ (kc 8 38)))
  ·exact crS (fun ρ w kn hs=>Jk (kn _ _ (kc 9 31)) rfl)
  ·exact crS (fun ρ w kn hs=>Jk (kn _ _ (kc 9 31)) rfl)
  ·exact crS (fun ρ w kn hs=>Jk (kn _ _ (kc 9 31)) rfl)
 ·(repeat (refine all_cons ?_ ?_;rotate_left));exact all_nil
  all_goals try exact sA
  ·exact fun _=>Uu _ _ _ _ _ _ _ _ (by rfl) (by rfl) (Nat.le_refl _) (fun ρ w=>Jw)
  ·exact fun _=>Uu _ _ _ _ _ _ _ _ (by rfl) (by rfl) (Nat.le_refl _) (fun ρ w=>Jw)
  ·exact fun _=>Jl _ 122 _ _ [.tmp 34] _ _ _ _ _ _ _ (by rfl) Tryz.func122 (by kernel_rfl) (by rfl) (by rfl) (Jg) (.cons (kc 2 34) .nil) (cO)
  ·exact fun _=>Jl _ 121 _ _ [.tmp 35,.tmp 37] _ _ _ _ _ _ _ (by rfl) Tryz.func121 (by kernel_rfl) (by rfl) (by rfl) (Jg) (.cons (kc 7 35) (.cons (kc 4 37) .nil)) (cD)
 intro gs rs a w hgs hrs F HM
 obtain rfl:=nl0 rs hrs
 clear hrs
 obtain ⟨gq,gr,rfl⟩:=nl2 gs hgs
 clear hgs
 refine Kn (i:=13) HM (by kernel_rfl) (by rfl) rfl rfl (k:=0) rfl (Jq (F.ev rfl) (F.ev rfl) (HM.get 0 rfl)) (M2:=[(gq,24,ncs D),(gr,24,ncs 0),(go,24,ncs 0),(gg,26,gcs P Q G H)]) rfl (fun _ h=>h.tail (A:=[(gq,24,ncs D),(gr,24,ncs 0)])) fun w HM=>?_
 refine Kn (i:=14) HM (by kernel_rfl) (by rfl) rfl rfl (k:=1) rfl (Jq (F.ev rfl) (F.ev rfl) (HM.get 1 rfl)) (M2:=[(gq,24,ncs D),(gr,24,ncs V),(go,24,ncs 0),(gg,26,gcs P Q G H)]) rfl (fun _ h=>h.tail (A:=[(gq,24,ncs D),(gr,24,ncs V)])) fun w HM=>?_
 refine Us (i:=15) (d:=10) (x:=.tmp 41) (v:=.int .i64 0) F (HM.tail (A:=[(gq,24,ncs D),(gr,24,ncs V)])) (by kernel_rfl) (by rfl) (by rfl) (F.ev rfl) fun a F=>?_
 refine Ks (by kernel_rfl) ?_ _
 refine Kgr ?_
 refine lxv (num V) F (Jp (F.ev rfl) (HM.get 1 rfl)) fun a F=>?_
 refine lxv (num 0) F (Uc) fun a F=>?_
 refine lxv (.bool false) F (Jcd hV (show 0<2^256 by decide) h0 (F.ev rfl) (F.ev rfl)) fun a F=>?_
 refine Jc ?_
 refine Kgq ?_
 refine wp_cond_false (F.ev rfl) ?_
 refine Kgr ?_
 refine lxv (.pointer (some ⟨gg,4,none⟩)) F (Ug (F.ev rfl)) fun a F=>?_
 refine lxv (num Q) F (Ur (F.ev rfl) (HM.get 3 rfl)) fun a F=>?_
 refine lxv (num V) F (Jp (F.ev rfl) (HM.get 1 rfl)) fun a F=>?_
 refine Jj F (Ja rfl _) rfl (by rfl) (Jh Tryz.func123 (by kernel_rfl) (by rfl) (.cons (F.ev rfl) (.cons (F.ev rfl) .nil)) _) (cS _) fun a w z F=>?_
 replace HM:=HM.on z
 clear z
 refine lxv (.tuple #[num W,.int .u64 (c:Nat)]) F (Jb (F.ev rfl)) fun a F=>?_
 refine lxv (num W) F (Jk (F.ev rfl) rfl) fun a F=>?_
 refine lxv (.int .u64 (c:Nat)) F (Jk (F.ev rfl) rfl) fun a F=>?_
 refine Jn F HM (Ja rfl _) rfl (by rfl) (Jw) fun a w gx F HM=>?_
 refine Jv F HM (Ja rfl _) rfl (k:=0) rfl (Jq (F.ev rfl) (F.ev rfl) (HM.get 0 rfl)) (M2:=[(gx,24,ncs W),(gq,24,ncs D),(gr,24,ncs V),(go,24,ncs 0),(gg,26,gcs P Q G H)]) rfl fun w HM=>?_
 refine lxv (.int .u64 (c:Nat)) F (Je (F.ev rfl)) fun a F=>?_
 refine Jc ?_
 refine Kgr ?_
 refine lxv (num W) F (Jp (F.ev rfl) (HM.get 0 rfl)) fun a F=>?_
 refine Jv F HM (Ja rfl _) rfl (k:=3) rfl (Jq (F.ev rfl) (F.ev rfl) (HM.get 3 rfl)) (M2:=[(gx,24,ncs W),(gq,24,ncs D),(gr,24,ncs V),(go,24,ncs W),(gg,26,gcs P Q G H)]) rfl fun w HM=>?_
 refine Jc ?_
 refine Kgq ?_
 refine wp_ret ?_
 repeat (first | refine Jt ?_ | refine Jo ?_)
 exact Kp F HM (Jet F (s:=4) rfl rfl (HM.get 3 rfl))

theorem rof9_any (P Q G H:Nat) (n:Int) (hQ:Q<2^256) (hn1:-9223372036854775808≤n) (hn2:n<9223372036854775808) (w:World):Calls Tryz.prog 38 #[grp P Q G H,.int .i64 n] w fun e w'=>e=.returned (num (Uq Q n))∧Below w.heap.size w w':=by
 have hSl:n.natAbs<18446744073709551616:=by omega
 have hS2:n.natAbs<2^256:=Nat.lt_trans hSl (by decide)
 by_cases hq:Q=0
 ·have:=rof9_0 P Q G H 0 0 0 0 0 n hQ (decide_eq_true hq) w
  rwa [show Uq Q n=0 from by unfold Uq;rw [if_neg (by omega)]]
 ·have cD:=fun w=>Jdt n.natAbs Q hS2 hQ hq w
  have cO:=fun w=>Xg n.natAbs hSl w
  have hr:n.natAbs%Q<Q:=Nat.mod_lt _ (by omega)
  have hV:n.natAbs%Q<2^256:=Nat.lt_trans hr hQ
  have hl:1<Q→Vt Q n.natAbs 0=n.natAbs%Q:=fun h=>by unfold Vt;rw [if_pos h,Nat.pow_zero,Nat.div_one]
  have hz:¬ 1<Q→n.natAbs%Q=0:=fun h=>by rw [show Q=1 by omega,Nat.mod_one]
  by_cases hn:n<0
  ·have hw1:IntKind.u64.wrap n=((n+18446744073709551616).toNat:Nat):=by rw [IntKind.wrap_u64];omega
   have hw2:IntKind.u64.wrap (-(((n+18446744073709551616).toNat:Nat):Int))=(n.natAbs:Nat):=by rw [IntKind.wrap_u64];omega
   rw [sof_neg Q n hn]
   by_cases h0:n.natAbs%Q=0
   ·have:=rof9_z P Q G H _ _ _ _ 0 n hQ (decide_eq_false hq) hn cO cD hw1 hw2 hV (decide_eq_true h0) w
    rw [show (if 1<Q then (0+Q-Vt Q n.natAbs 0)%Q else 0)=n.natAbs%Q from by
     split
     ·rename_i h;rw [hl h,h0,Nat.sub_zero,Nat.zero_add,Nat.mod_self]
     ·exact h0.symm]
    exact this
   ·have h1:1<Q:=Decidable.byContradiction fun h=>h0 (hz h)
    rw [if_pos h1,hl h1,Nat.zero_add,Nat.mod_eq_of_lt (by omega)]
    exact rof9_neg P Q G H _ _ _ (Q-n.natAbs%Q) _ 0 n hQ (decide_eq_false hq) hn cO cD hw1 hw2 hV (decide_eq_false h0) (fun w=>Jan Q (n.natAbs%Q) (Q-n.natAbs%Q) 0 hQ hV (by omega) (by omega) (by omega) w) w
  ·rw [sof_pos Q n hn]
   have:=rof9_pos P Q G H n.natAbs _ _ 0 0 n hQ (decide_eq_false hq) hn cO cD (by rw [IntKind.wrap_u64];omega) w
   rw [show Vt Q n.natAbs 0=n.natAbs%Q from by
    by_cases h:1<Q
    ·exact hl h
    ·rw [hz h];unfold Vt;rw [if_neg h]]
   exact this
end Go.Proofs.YtmmgmljkmmgjdaaGreatDoor
