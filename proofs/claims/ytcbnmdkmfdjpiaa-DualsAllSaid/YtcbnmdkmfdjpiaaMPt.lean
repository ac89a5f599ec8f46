import Derived.Deep.Cut
import Derived.Test.YtcbnmdkmfdjpiaaMPx
import Derived.Test.YtcbnmdkmfdjpiaaMShort
namespace Go.Proofs.Ytcbnmdkmfdjpiaa
set_option maxRecDepth 100000
open Go.RowKit
set_option linter.unusedSimpArgs false
set_option linter.unusedVariables false
attribute [local go_sem ↓] Go.wp_at_zero Go.wp_at_succ

set_option maxRecDepth 100000 in
set_option maxHeartbeats 800000 in
theorem ttimes_w (P Q G H S A V gt n0:Nat) (M:List (Nat × TypeId × Array Value)) (w0 w:World) (c:∀ w,Calls Try.prog 39 #[grp P Q G H,num S,num A] w fun e w'=>e=.returned (.tuple #[num V,.int .i64 0])∧Below w.heap.size w w') (HM:Mem n0 w0 w ((gt,59,tcs P Q G H S)::M)):Calls Try.prog 51 #[.pointer (some ⟨gt,0,none⟩),num A] w fun e w2=>e=.returned (.tuple #[])∧Mem n0 w0 w2 ((gt,59,tcs P Q G H V)::M):=by
 refine Xk (args:=[.pointer (some ⟨gt,0,none⟩),num A]) HM Try.func51 rfl Try.ntmps51 (by rfl) fun a F HM=>?_
 refine Kgr ?_
 refine Jn F HM (Ja rfl _) rfl (by rfl) (Vk (F.ev rfl)) fun a w ga F HM=>?_
 refine Jf ?_
 refine Kgq ?_
 refine Km (S:=fun _=>True) HM (fun _ h=>trivial) (by kernel_rfl) fun w HM HBW=>?_
 clear HBW
 try simp only [List.append_eq,List.cons_append,List.nil_append]
 refine Kr [⟨0,5,[],.val (.pointer (some ⟨gt,0,none⟩)),true⟩,
   ⟨1,6,[],.val (.pointer (some ⟨gt,0,none⟩)),true⟩,
   ⟨2,7,[1],.val (.pointer (some ⟨gt,0,none⟩)),true⟩,
   ⟨3,8,[2],.val (.pointer (some ⟨gt,0,none⟩)),true⟩,
   ⟨4,9,[3],.val (grp P Q G H),false⟩,
   ⟨5,10,[],.val (.pointer (some ⟨gt,0,none⟩)),true⟩,
   ⟨6,11,[5],.val (.pointer (some ⟨gt,0,none⟩)),true⟩,
   ⟨7,12,[6],.val (.pointer (some ⟨gt,16,none⟩)),true⟩,
   ⟨8,13,[7],.val (num S),false⟩,
   ⟨9,14,[],.val (num A),false⟩,
   ⟨14,18,[0],.val (.pointer (some ⟨gt,0,none⟩)),true⟩,
   ⟨15,19,[10],.val (.pointer (some ⟨gt,16,none⟩)),true⟩,
   ⟨10,15,[4,8,9],.val (.tuple #[num V,.int .i64 0]),false⟩,
   ⟨11,4,[12],.val (.tuple #[num V,.int .i64 0]),true⟩,
   ⟨12,16,[13],.val (num V),true⟩,
   ⟨13,17,[13],.val (.int .i64 0),true⟩] 1 _ F HM (fun _ _=>trivial) (by kernel_rfl) (by rfl) ?_ ?_ ?_ ?_ ?_ ?_ ?_
 ·kernel_rfl
 ·exact of_decide_eq_true (by kernel_rfl)
 ·(repeat refine all_cons ⟨_,by rfl,by rfl⟩ ?_);exact Jj
 ·kernel_rfl
 ·(repeat (refine all_cons ?_ ?_;rotate_left));exact Jj
  all_goals try exact Jq _ (by rfl)
  ·exact Uh _ _ _ _ _ _ _ (by rfl) (by rfl) Ji (fun ρ w kn hs=>Jb (kn _ _ (F.old (by rfl) rfl)))
  ·exact Uh _ _ _ _ _ _ _ (by rfl) (by rfl) Ji (fun ρ w kn hs=>Jb (kn _ _ (F.old (by rfl) rfl)))
  ·exact crS (fun ρ w kn hs=>Wr (kn _ _ (kc 1 6)))
  ·exact crS (fun ρ w kn hs=>o_fieldT0 (kn _ _ (kc 2 7)))
  ·exact Uh _ _ _ _ _ _ _ (by rfl) (by rfl) Ji (fun ρ w kn hs=>Jb (kn _ _ (F.old (by rfl) rfl)))
  ·exact crS (fun ρ w kn hs=>Wr (kn _ _ (kc 5 10)))
  ·exact crS (fun ρ w kn hs=>Xo (kn _ _ (kc 6 11)))
  ·exact crS (fun ρ w kn hs=>Wr (kn _ _ (kc 0 5)))
  ·exact crS (fun ρ w kn hs=>Xo (kn _ _ (kc 10 18)))
  ·exact crS (fun ρ w kn hs=>Jb (kn _ _ (kc 12 15)))
  ·exact crS (fun ρ w kn hs=>Jk (kn _ _ (kc 13 4)) rfl)
  ·exact crS (fun ρ w kn hs=>Jk (kn _ _ (kc 13 4)) rfl)
 ·(repeat (refine all_cons ?_ ?_;rotate_left));exact Jj
  all_goals try exact sA
  ·exact fun _=>Jad _ _ _ _ _ _ (by rfl) (by rfl) (fun ρ w kn hb=>o_loadT0 (kn _ _ (kc 3 8)) ((HM.on hb).get 1 rfl))
  ·exact fun _=>Jad _ _ _ _ _ _ (by rfl) (by rfl) (fun ρ w kn hb=>Jcf (kn _ _ (kc 7 12)) ((HM.on hb).get 1 rfl))
  ·exact fun _=>Jad _ _ _ _ _ _ (by rfl) (by rfl) (fun ρ w kn hb=>Ke (kn _ _ (F.old (by rfl) rfl)) ((HM.on hb).get 0 rfl))
  ·exact fun _=>Jl _ 39 _ _ [.tmp 9,.tmp 13,.tmp 14] _ _ _ _ _ _ _ (by rfl) Try.func39 (by kernel_rfl) (by rfl) (by rfl) (Ji) (.cons (kc 4 9) (.cons (kc 8 13) (.cons (kc 9 14) .nil))) (c)
 intro gs rs a w hgs hrs F HM HBW HR HO HT
 obtain rfl:=nl0 rs hrs
 obtain rfl:=nl0 gs hgs
 clear hrs hgs HR HBW HO
 clear HT
 refine Uv (i:=16) HM (by kernel_rfl) (by rfl) rfl rfl (k:=1) rfl (o_storeT1 (F.ev rfl) (F.ev rfl) (HM.get 1 rfl)) (M2:=((ga,24,ncs A)::(gt,59,tcs P Q G H V)::M)) (by rw [setsT1];rfl) (fun _ _=>trivial) fun w HM=>?_
 refine Ua (by kernel_rfl) ?_ _
 replace HM:=HM.erase 0 (M2:=((gt,59,tcs P Q G H V)::M)) rfl
 refine Kgq ?_
 exact bodyPost_end (Vu rfl) F.defers ⟨rfl,HM⟩

theorem ttimes_any (P Q G H S A gt n0:Nat) (M:List (Nat × TypeId × Array Value)) (w0 w:World) (hQ:Q<2^256) (h1:1<Q) (hS:S<Q) (hA:A<Q) (HM:Mem n0 w0 w ((gt,59,tcs P Q G H S)::M)) :
  Calls Try.prog 51 #[.pointer (some ⟨gt,0,none⟩),num A] w fun e w2=>e=.returned (.tuple #[])∧Mem n0 w0 w2 ((gt,59,tcs P Q G H (S*A%Q))::M):=
 ttimes_w P Q G H S A _ gt n0 M w0 w (Jca P Q G H S A hQ h1 hS hA) HM
set_option maxRecDepth 100000 in
set_option maxHeartbeats 800000 in
theorem tadd_w (P Q G H S A V gt n0:Nat) (M:List (Nat × TypeId × Array Value)) (w0 w:World) (c:∀ w,Calls Try.prog 10 #[grp P Q G H,num S,num A] w fun e w'=>e=.returned (.tuple #[num V,.int .i64 0])∧Below w.heap.size w w') (HM:Mem n0 w0 w ((gt,59,tcs P Q G H S)::M)):Calls Try.prog 52 #[.pointer (some ⟨gt,0,none⟩),num A] w fun e w2=>e=.returned (.tuple #[])∧Mem n0 w0 w2 ((gt,59,tcs P Q G H V)::M):=by
 refine Xk (args:=[.pointer (some ⟨gt,0,none⟩),num A]) HM Try.func52 rfl Try.ntmps52 (by rfl) fun a F HM=>?_
 refine Kgr ?_
 refine Jn F HM (Ja rfl _) rfl (by rfl) (Vk (F.ev rfl)) fun a w ga F HM=>?_
 refine Jf ?_
 refine Kgq ?_
 refine Km (S:=fun _=>True) HM (fun _ h=>trivial) (by kernel_rfl) fun w HM HBW=>?_
 clear HBW
 try simp only [List.append_eq,List.cons_append,List.nil_append]
 refine Kr [⟨0,5,[],.val (.pointer (some ⟨gt,0,none⟩)),true⟩,
   ⟨1,6,[],.val (.pointer (some ⟨gt,0,none⟩)),true⟩,
   ⟨2,7,[1],.val (.pointer (some ⟨gt,0,none⟩)),true⟩,
   ⟨3,8,[2],.val (.pointer (some ⟨gt,0,none⟩)),true⟩,
   ⟨4,9,[3],.val (grp P Q G H),false⟩,
   ⟨5,10,[],.val (.pointer (some ⟨gt,0,none⟩)),true⟩,
   ⟨6,11,[5],.val (.pointer (some ⟨gt,0,none⟩)),true⟩,
   ⟨7,12,[6],.val (.pointer (some ⟨gt,16,none⟩)),true⟩,
   ⟨8,13,[7],.val (num S),false⟩,
   ⟨9,14,[],.val (num A),false⟩,
   ⟨14,18,[0],.val (.pointer (some ⟨gt,0,none⟩)),true⟩,
   ⟨15,19,[10],.val (.pointer (some ⟨gt,16,none⟩)),true⟩,
   ⟨10,15,[4,8,9],.val (.tuple #[num V,.int .i64 0]),false⟩,
   ⟨11,4,[12],.val (.tuple #[num V,.int .i64 0]),true⟩,
   ⟨12,16,[13],.val (num V),true⟩,
   ⟨13,17,[13],.val (.int .i64 0),true⟩] 1 _ F HM (fun _ _=>trivial) (by kernel_rfl) (by rfl) ?_ ?_ ?_ ?_ ?_ ?_ ?_
 ·kernel_rfl
 ·exact of_decide_eq_true (by kernel_rfl)
 ·(repeat refine all_cons ⟨_,by rfl,by rfl⟩ ?_);exact Jj
 ·kernel_rfl
 ·(repeat (refine all_cons ?_ ?_;rotate_left));exact Jj
  all_goals try exact Jq _ (by rfl)
  ·exact Uh _ _ _ _ _ _ _ (by rfl) (by rfl) Ji (fun ρ w kn hs=>Jb (kn _ _ (F.old (by rfl) rfl)))
  ·exact Uh _ _ _ _ _ _ _ (by rfl) (by rfl) Ji (fun ρ w kn hs=>Jb (kn _ _ (F.old (by rfl) rfl)))
  ·exact crS (fun ρ w kn hs=>Wr (kn _ _ (kc 1 6)))
  ·exact crS (fun ρ w kn hs=>o_fieldT0 (kn _ _ (kc 2 7)))
  ·exact Uh _ _ _ _ _ _ _ (by rfl) (by rfl) Ji (fun ρ w kn hs=>Jb (kn _ _ (F.old (by rfl) rfl)))
  ·exact crS (fun ρ w kn hs=>Wr (kn _ _ (kc 5 10)))
  ·exact crS (fun ρ w kn hs=>Xo (kn _ _ (kc 6 11)))
  ·exact crS (fun ρ w kn hs=>Wr (kn _ _ (kc 0 5)))
  ·exact crS (fun ρ w kn hs=>Xo (kn _ _ (kc 10 18)))
  ·exact crS (fun ρ w kn hs=>Jb (kn _ _ (kc 12 15)))
  ·exact crS (fun ρ w kn hs=>Jk (kn _ _ (kc 13 4)) rfl)
  ·exact crS (fun ρ w kn hs=>Jk (kn _ _ (kc 13 4)) rfl)
 ·(repeat (refine all_cons ?_ ?_;rotate_left));exact Jj
  all_goals try exact sA
  ·exact fun _=>Jad _ _ _ _ _ _ (by rfl) (by rfl) (fun ρ w kn hb=>o_loadT0 (kn _ _ (kc 3 8)) ((HM.on hb).get 1 rfl))
  ·exact fun _=>Jad _ _ _ _ _ _ (by rfl) (by rfl) (fun ρ w kn hb=>Jcf (kn _ _ (kc 7 12)) ((HM.on hb).get 1 rfl))
  ·exact fun _=>Jad _ _ _ _ _ _ (by rfl) (by rfl) (fun ρ w kn hb=>Ke (kn _ _ (F.old (by rfl) rfl)) ((HM.on hb).get 0 rfl))
  ·exact fun _=>Jl _ 10 _ _ [.tmp 9,.tmp 13,.tmp 14] _ _ _ _ _ _ _ (by rfl) Try.func10 (by kernel_rfl) (by rfl) (by rfl) (Ji) (.cons (kc 4 9) (.cons (kc 8 13) (.cons (kc 9 14) .nil))) (c)
 intro gs rs a w hgs hrs F HM HBW HR HO HT
 obtain rfl:=nl0 rs hrs
 obtain rfl:=nl0 gs hgs
 clear hrs hgs HR HBW HO
 clear HT
 refine Uv (i:=16) HM (by kernel_rfl) (by rfl) rfl rfl (k:=1) rfl (o_storeT1 (F.ev rfl) (F.ev rfl) (HM.get 1 rfl)) (M2:=((ga,24,ncs A)::(gt,59,tcs P Q G H V)::M)) (by rw [setsT1];rfl) (fun _ _=>trivial) fun w HM=>?_
 refine Ua (by kernel_rfl) ?_ _
 replace HM:=HM.erase 0 (M2:=((gt,59,tcs P Q G H V)::M)) rfl
 refine Kgq ?_
 exact bodyPost_end (Vu rfl) F.defers ⟨rfl,HM⟩

theorem tadd_any (P Q G H S A gt n0:Nat) (M:List (Nat × TypeId × Array Value)) (w0 w:World) (hQ:Q<2^256) (h1:1<Q) (hS:S<Q) (hA:A<Q) (HM:Mem n0 w0 w ((gt,59,tcs P Q G H S)::M)) :
  Calls Try.prog 52 #[.pointer (some ⟨gt,0,none⟩),num A] w fun e w2=>e=.returned (.tuple #[])∧Mem n0 w0 w2 ((gt,59,tcs P Q G H ((S+A)%Q))::M):=
 tadd_w P Q G H S A _ gt n0 M w0 w (Jcc P Q G H S A hQ h1 hS hA) HM
end Go.Proofs.Ytcbnmdkmfdjpiaa
