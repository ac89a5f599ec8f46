import Derived.Deep.Cut
import Derived.Test.YtcbnmdkmfdjpiaaMP10
import Derived.Test.YtcbnmdkmfdjpiaaMP3
import Derived.Test.YtcbnmdkmfdjpiaaMP5
import Derived.Test.YtcbnmdkmfdjpiaaMShort
namespace Go.Proofs.Ytcbnmdkmfdjpiaa
set_option maxRecDepth 100000
set_option maxHeartbeats 8000000
open Go.RowKit
set_option linter.unusedSimpArgs false
set_option linter.unusedVariables false
attribute [local go_sem ↓] Go.wp_at_zero Go.wp_at_succ

set_option maxHeartbeats 800000 in
theorem one_w (P Q G H E:Nat) (w:World) (c:∀ w,Calls Try.prog 11 #[grp P Q G H,.int .i64 1] w fun e w'=>e=.returned (num E)∧Below w.heap.size w w'):Calls Try.prog 30 #[grp P Q G H] w fun e w'=>e=.returned (tal P Q G H E)∧Below w.heap.size w w':=by
 refine Ka (args:=[grp P Q G H]) Try.func30 rfl Try.ntmps30 (by rfl) fun a F HM=>?_
 refine Kgr ?_
 refine Jn F HM (Ja rfl _) rfl (by rfl) (Kl (F.ev rfl)) fun a w gg F HM=>?_
 refine Jn F HM (Ja rfl _) rfl (by rfl) (Jds) fun a w go F HM=>?_
 refine Jf ?_
 refine Kgq ?_
 refine Km (S:=fun _=>True) HM (fun _ h=>trivial) (by kernel_rfl) fun w HM HBW=>?_
 clear HBW
 try simp only [List.append_eq,List.cons_append,List.nil_append]
 refine Kr [⟨0,3,[],.val (grp P Q G H),false⟩,
   ⟨1,4,[],.val (grp P Q G H),false⟩,
   ⟨2,5,[1],.val (num E),false⟩,
   ⟨3,6,[0,2],.val (tal P Q G H E),true⟩] 1 _ F HM (fun _ _=>trivial) (by kernel_rfl) (by rfl) ?_ ?_ ?_ ?_ ?_ ?_ ?_
 ·kernel_rfl
 ·exact of_decide_eq_true (by kernel_rfl)
 ·(repeat refine all_cons ⟨_,by rfl,by rfl⟩ ?_);exact Jj
 ·kernel_rfl
 ·(repeat (refine all_cons ?_ ?_;rotate_left));exact Jj
  all_goals try exact Jq _ (by rfl)
  ·exact crS (fun ρ w kn hs=>o_buildT (kn _ _ (kc 0 3)) (kn _ _ (kc 2 5)))
 ·(repeat (refine all_cons ?_ ?_;rotate_left));exact Jj
  ·exact fun _=>Jad _ _ _ _ _ _ (by rfl) (by rfl) (fun ρ w kn hb=>Jr (kn _ _ (F.old (by rfl) rfl)) ((HM.on hb).get 1 rfl))
  ·exact fun _=>Jad _ _ _ _ _ _ (by rfl) (by rfl) (fun ρ w kn hb=>Jr (kn _ _ (F.old (by rfl) rfl)) ((HM.on hb).get 1 rfl))
  ·exact fun _=>Jl _ 11 _ _ [.tmp 4,.const (.int .i64 1)] _ _ _ _ _ _ _ (by rfl) Try.func11 (by kernel_rfl) (by rfl) (by rfl) (Ji) (.cons (kc 1 4) (.cons (Je _) .nil)) (c)
  ·exact sA
 intro gs rs a w hgs hrs F HM HBW HR HO HT
 obtain rfl:=nl0 rs hrs
 obtain rfl:=nl0 gs hgs
 clear hrs hgs HR HBW HO
 clear HT
 refine Uv (i:=4) HM (by kernel_rfl) (by rfl) rfl rfl (k:=0) rfl (Jdr (F.ev rfl) (F.ev rfl) (HM.get 0 rfl)) (M2:=[(go,59,tcs P Q G H E),(gg,26,gcs P Q G H)]) (by rw [Jgq];rfl) (fun _ _=>trivial) fun w HM=>?_
 refine Ua (by kernel_rfl) ?_ _
 refine Kgq ?_
 refine wp_ret ?_
 repeat (first | refine Ju ?_ | refine Jo ?_)
 exact Kt F HM (res_T F (s:=2) rfl rfl (HM.get 0 rfl))

theorem one_any (P Q G H:Nat) (hQ:Q<2^256) (h1:1<Q) (w:World):Calls Try.prog 30 #[grp P Q G H] w fun e w'=>e=.returned (tal P Q G H 1)∧Below w.heap.size w w':=
 one_w P Q G H 1 w fun w=>by
  have:=Jaf P Q G H 1 hQ (by decide) (by decide) w
  rwa [Jeq h1] at this
set_option maxHeartbeats 800000 in
theorem by_w (P Q G H A B V W:Nat) (w:World) (c:∀ w,Calls Try.prog 37 #[grp P Q G H,num B] w fun e w'=>e=.returned (.tuple #[num V,.int .i64 0])∧Below w.heap.size w w') (c2:∀ w,Calls Try.prog 39 #[grp P Q G H,num A,num V] w fun e w'=>e=.returned (.tuple #[num W,.int .i64 0])∧Below w.heap.size w w'):Calls Try.prog 32 #[grp P Q G H,num A,num B] w fun e w'=>e=.returned (.tuple #[num W,.int .i64 0])∧Below w.heap.size w w':=by
 refine Ka (args:=[grp P Q G H,num A,num B]) Try.func32 rfl Try.ntmps32 (by rfl) fun a F HM=>?_
 refine Kgr ?_
 refine Jn F HM (Ja rfl _) rfl (by rfl) (Kl (F.ev rfl)) fun a w gg F HM=>?_
 refine Jn F HM (Ja rfl _) rfl (by rfl) (Vk (F.ev rfl)) fun a w ga F HM=>?_
 refine Jn F HM (Ja rfl _) rfl (by rfl) (Vk (F.ev rfl)) fun a w gb F HM=>?_
 refine Jn F HM (Ja rfl _) rfl (by rfl) (Kc) fun a w go F HM=>?_
 refine lxv (.int .i64 0) F (Jg rfl) fun a F=>?_
 refine Jf ?_
 refine Kgr ?_
 refine lxv (grp P Q G H) F (Jr (F.ev rfl) (HM.get 3 rfl)) fun a F=>?_
 refine lxv (num B) F (Ke (F.ev rfl) (HM.get 1 rfl)) fun a F=>?_
 refine Jp F (Ja rfl _) rfl (by rfl) (Jh Try.func37 (by kernel_rfl) (by rfl) (.cons (F.ev rfl) (.cons (F.ev rfl) .nil)) _) (c _) fun a w z F=>?_
 replace HM:=HM.on z
 clear z
 refine lxv (.tuple #[num V,.int .i64 0]) F (Jb (F.ev rfl)) fun a F=>?_
 refine lxv (num V) F (Jk (F.ev rfl) rfl) fun a F=>?_
 refine lxv (.int .i64 0) F (Jk (F.ev rfl) rfl) fun a F=>?_
 refine Jn F HM (Ja rfl _) rfl (by rfl) (Kc) fun a w gi F HM=>?_
 refine Jw F HM (Ja rfl _) rfl (k:=0) rfl (Jz (F.ev rfl) (F.ev rfl) (HM.get 0 rfl)) (M2:=[(gi,24,ncs V),(go,24,ncs 0),(gb,24,ncs B),(ga,24,ncs A),(gg,26,gcs P Q G H)]) (rfl) fun w HM=>?_
 refine lxv (.int .i64 0) F (Jg (F.ev rfl)) fun a F=>?_
 refine Jf ?_
 refine Kgr ?_
 refine lxv (.int .i64 0) F (Jb (F.ev rfl)) fun a F=>?_
 refine lxv (.bool false) F (Kh (u:=.int .i64 0) (v:=.int .i64 0) (fun ρ hx hy=>by simp only [execOp,hx,hy];simp [go_sem]) (F.ev rfl) rfl) fun a F=>?_
 refine Jf ?_
 refine Kgq ?_
 refine wp_cond_false (F.ev rfl) ?_
 refine Kgr ?_
 refine lxv (grp P Q G H) F (Jr (F.ev rfl) (HM.get 4 rfl)) fun a F=>?_
 refine lxv (num A) F (Ke (F.ev rfl) (HM.get 3 rfl)) fun a F=>?_
 refine lxv (num V) F (Ke (F.ev rfl) (HM.get 0 rfl)) fun a F=>?_
 refine Jp F (Ja rfl _) rfl (by rfl) (Jh Try.func39 (by kernel_rfl) (by rfl) (.cons (F.ev rfl) (.cons (F.ev rfl) (.cons (F.ev rfl) .nil))) _) (c2 _) fun a w z F=>?_
 replace HM:=HM.on z
 clear z
 refine lxv (num W) F (Jk (F.ev rfl) rfl) fun a F=>?_
 refine lxv (.int .i64 0) F (Jk (F.ev rfl) rfl) fun a F=>?_
 refine Jw F HM (Ja rfl _) rfl (k:=1) rfl (Jz (F.ev rfl) (F.ev rfl) (HM.get 1 rfl)) (M2:=[(gi,24,ncs V),(go,24,ncs W),(gb,24,ncs B),(ga,24,ncs A),(gg,26,gcs P Q G H)]) (rfl) fun w HM=>?_
 refine lxv (.int .i64 0) F (Jg (F.ev rfl)) fun a F=>?_
 refine Jf ?_
 refine Kgq ?_
 refine wp_ret ?_
 repeat (first | refine Ju ?_ | refine Jo ?_)
 exact Kt F HM (Jaz F (s:=6) (t:=7) rfl rfl rfl (HM.get 1 rfl))

set_option maxHeartbeats 800000 in
theorem by_n (P Q G H A B:Nat) (w:World) (c:∀ w,Calls Try.prog 37 #[grp P Q G H,num B] w fun e w'=>e=.returned (.tuple #[num 0,.int .i64 7])∧Below w.heap.size w w'):Calls Try.prog 32 #[grp P Q G H,num A,num B] w fun e w'=>e=.returned (.tuple #[num 0,.int .i64 7])∧Below w.heap.size w w':=by
 refine Ka (args:=[grp P Q G H,num A,num B]) Try.func32 rfl Try.ntmps32 (by rfl) fun a F HM=>?_
 refine Kgr ?_
 refine Jn F HM (Ja rfl _) rfl (by rfl) (Kl (F.ev rfl)) fun a w gg F HM=>?_
 refine Jn F HM (Ja rfl _) rfl (by rfl) (Vk (F.ev rfl)) fun a w ga F HM=>?_
 refine Jn F HM (Ja rfl _) rfl (by rfl) (Vk (F.ev rfl)) fun a w gb F HM=>?_
 refine Jn F HM (Ja rfl _) rfl (by rfl) (Kc) fun a w go F HM=>?_
 refine lxv (.int .i64 0) F (Jg rfl) fun a F=>?_
 refine Jf ?_
 refine Kgr ?_
 refine lxv (grp P Q G H) F (Jr (F.ev rfl) (HM.get 3 rfl)) fun a F=>?_
 refine lxv (num B) F (Ke (F.ev rfl) (HM.get 1 rfl)) fun a F=>?_
 refine Jp F (Ja rfl _) rfl (by rfl) (Jh Try.func37 (by kernel_rfl) (by rfl) (.cons (F.ev rfl) (.cons (F.ev rfl) .nil)) _) (c _) fun a w z F=>?_
 replace HM:=HM.on z
 clear z
 refine lxv (.tuple #[num 0,.int .i64 7]) F (Jb (F.ev rfl)) fun a F=>?_
 refine lxv (num 0) F (Jk (F.ev rfl) rfl) fun a F=>?_
 refine lxv (.int .i64 7) F (Jk (F.ev rfl) rfl) fun a F=>?_
 refine Jn F HM (Ja rfl _) rfl (by rfl) (Kc) fun a w gi F HM=>?_
 refine Jw F HM (Ja rfl _) rfl (k:=0) rfl (Jz (F.ev rfl) (F.ev rfl) (HM.get 0 rfl)) (M2:=[(gi,24,ncs 0),(go,24,ncs 0),(gb,24,ncs B),(ga,24,ncs A),(gg,26,gcs P Q G H)]) (rfl) fun w HM=>?_
 refine lxv (.int .i64 7) F (Jg (F.ev rfl)) fun a F=>?_
 refine Jf ?_
 refine Kgr ?_
 refine lxv (.int .i64 7) F (Jb (F.ev rfl)) fun a F=>?_
 refine lxv (.bool true) F (Kh (u:=.int .i64 7) (v:=.int .i64 0) (fun ρ hx hy=>by simp only [execOp,hx,hy];simp [go_sem]) (F.ev rfl) rfl) fun a F=>?_
 refine Jf ?_
 refine Kgq ?_
 refine wp_cond_true (F.ev rfl) ?_
 refine Kgr ?_
 refine lxv (num 0) F (Uo) fun a F=>?_
 refine lxv (.int .i64 7) F (Jb (F.ev rfl)) fun a F=>?_
 refine Jw F HM (Ja rfl _) rfl (k:=1) rfl (Jz (F.ev rfl) (F.ev rfl) (HM.get 1 rfl)) (M2:=[(gi,24,ncs 0),(go,24,ncs 0),(gb,24,ncs B),(ga,24,ncs A),(gg,26,gcs P Q G H)]) (rfl) fun w HM=>?_
 refine lxv (.int .i64 7) F (Jg (F.ev rfl)) fun a F=>?_
 refine Jf ?_
 refine Kgq ?_
 refine wp_ret ?_
 repeat (first | refine Ju ?_ | refine Jo ?_)
 exact Kt F HM (Jaz F (s:=6) (t:=7) rfl rfl rfl (HM.get 1 rfl))

theorem by_yes (P Q G H A B:Nat) (hQ:Q<2^256) (h1:1<Q) (hA:A<Q) (hB:B<Q) (hu:U Q (B:Int)):∃ T,T<Q∧Cg Q ((T:Int)*(B:Int)) (A:Int)∧∀ w,Calls Try.prog 32 #[grp P Q G H,num A,num B] w fun e w'=>e=.returned (.tuple #[num T,.int .i64 0])∧Below w.heap.size w w':=by
 obtain ⟨V,hV,hBV⟩:=inv_there B Q h1 (U.gcd h1 hu)
 refine ⟨A*V%Q,Nat.mod_lt _ (by omega),?_,fun w=>by_w P Q G H A B V _ w (sinv_yes P Q G H B V hQ h1 hB hV hBV) (Jca P Q G H A V hQ h1 hA hV)⟩
 have h2:Cg Q ((B:Int)*(V:Int)) 1:=by
  rw [← Int.natCast_mul]
  exact (Cg.emod Q _).symm.trans (Cg.of_eq (by rw [← Int.natCast_emod,hBV];rfl))
 rw [Int.natCast_emod,Int.natCast_mul]
 refine ((Cg.emod Q _).mul (Cg.refl Q (B:Int))).trans ?_
 refine (Cg.of_eq ?_).trans ((Cg.mulL (A:Int) h2).trans (Cg.of_eq (by omega)))
 grind
theorem by_none (P Q G H A B:Nat) (hQ:Q<2^256) (h1:1<Q) (hB:B<Q) (hu:¬ U Q (B:Int)):∀ w,Calls Try.prog 32 #[grp P Q G H,num A,num B] w fun e w'=>e=.returned (.tuple #[num 0,.int .i64 7])∧Below w.heap.size w w':=fun w=>
 by_n P Q G H A B w (sinv_none P Q G H B hQ h1 hB fun h=>hu (U.of_gcd h1 h))
theorem Xt {b:Bool} (P Q G H n cap:Nat) (pa:Option Addr) (xs:List Nat) (w0:World) (hb:Jbr Q xs=b) (hQ:Q<2^256) (r:RN w0.heap.size w0 pa n cap xs):Calls Try.prog 28 #[grp P Q G H,.slice pa n cap] w0 fun e w'=>e=.returned (.bool b)∧Below w0.heap.size w0 w':=by
 subst hb;exact areExp_any P Q G H n cap pa xs w0 hQ r
def atB (Q:Nat) (X:Nat) (ps:List Nat):Bool:=Jbr Q [X] && Jbr Q ps
theorem atB_iff {Q X:Nat} {ps:List Nat}:atB Q X ps=true ↔ 1<Q∧X<Q∧∀ c∈ps,c<Q:=by
 simp [atB,Jbr,and_assoc]
 intro h1 _
 exact ⟨fun h c hc=>(h c hc).2,fun h c hc=>⟨h1,h c hc⟩⟩
theorem at_n1 (P Q G H X n cap:Nat) (pa:Option Addr) (ps:List Nat) (w0:World) (hQ:Q<2^256) (hX:X<2^256) (r:RN w0.heap.size w0 pa n cap ps) (hB1:Jbr Q [X]=false):Calls Try.prog 17 #[grp P Q G H,.slice pa n cap,num X] w0 fun e w'=>e=.returned (.tuple #[num 0,.int .i64 1])∧Below w0.heap.size w0 w':=by
 refine Ka (args:=[grp P Q G H,.slice pa n cap,num X]) Try.func17 rfl Try.ntmps17 (by rfl) fun a F HM=>?_
 refine Kgr ?_
 refine Jn F HM (Ja rfl _) rfl (by rfl) (Kl (F.ev rfl)) fun a w gg F HM=>?_
 refine Jn F HM (Ja rfl _) rfl (by rfl) (Vk (F.ev rfl)) fun a w gx F HM=>?_
 refine Jn F HM (Ja rfl _) rfl (by rfl) (Kc) fun a w go F HM=>?_
 refine lxv (.int .i64 0) F (Jg rfl) fun a F=>?_
 refine Jf ?_
 refine Kgr ?_
 refine lxv (grp P Q G H) F (Jr (F.ev rfl) (HM.get 2 rfl)) fun a F=>?_
 refine lxv (num X) F (Ke (F.ev rfl) (HM.get 1 rfl)) fun a F=>?_
 refine Xx F HM (Ja rfl _) rfl (by rfl) (Vn (F.ev rfl)) fun a w gr F HM=>?_
 refine Jp F (Ja rfl _) rfl (by rfl) (Jh Try.func28 (by kernel_rfl) (by rfl) (.cons (F.ev rfl) (.cons (F.ev rfl) .nil)) _) (Xt P Q G H 1 1 _ [X] _ hB1 hQ (((Pf.one X).rsA (HM.get 0 rfl) rfl (by decide) (by decide) (by simpa using hX)))) fun a w z F=>?_
 replace HM:=HM.on z
 clear z
 refine lxv (.bool true) F (Wk (b:=false) (r:=true) (F.ev rfl) rfl) fun a F=>?_
 refine lxv (.bool true) F (Jb (F.ev rfl)) fun a F=>?_
 refine lxp 13 true F fun a F=>?_
 refine lxp 13 true F fun a F=>?_
 refine lxp 13 true F fun a F=>?_
 refine lxp 13 true F fun a F=>?_
 refine lxv (.bool true) F (Jt (b:=true) (r:=.bool true) (F.ev rfl) rfl (F.ev rfl) rfl) fun a F=>?_
 refine Jf ?_
 refine Kgq ?_
 refine wp_cond_true (F.ev rfl) ?_
 refine Kgr ?_
 refine lxv (num 0) F (Uo) fun a F=>?_
 refine Jw F HM (Ja rfl _) rfl (k:=1) rfl (Jz (F.ev rfl) (F.ev rfl) (HM.get 1 rfl)) (M2:=[(gr,24,(Xi X)),(go,24,ncs 0),(gx,24,ncs X),(gg,26,gcs P Q G H)]) (rfl) fun w HM=>?_
 refine lxv (.int .i64 1) F (Jg rfl) fun a F=>?_
 refine Jf ?_
 refine Kgq ?_
 refine wp_ret ?_
 repeat (first | refine Ju ?_ | refine Jo ?_)
 exact Kt F HM (Jaz F (s:=6) (t:=7) rfl rfl rfl (HM.get 1 rfl))

theorem at_n2 (P Q G H X n cap:Nat) (pa:Option Addr) (ps:List Nat) (w0:World) (hQ:Q<2^256) (hX:X<2^256) (r:RN w0.heap.size w0 pa n cap ps) (hB1:Jbr Q [X]=true) (hB2:Jbr Q ps=false):Calls Try.prog 17 #[grp P Q G H,.slice pa n cap,num X] w0 fun e w'=>e=.returned (.tuple #[num 0,.int .i64 1])∧Below w0.heap.size w0 w':=by
 refine Ka (args:=[grp P Q G H,.slice pa n cap,num X]) Try.func17 rfl Try.ntmps17 (by rfl) fun a F HM=>?_
 refine Kgr ?_
 refine Jn F HM (Ja rfl _) rfl (by rfl) (Kl (F.ev rfl)) fun a w gg F HM=>?_
 refine Jn F HM (Ja rfl _) rfl (by rfl) (Vk (F.ev rfl)) fun a w gx F HM=>?_
 refine Jn F HM (Ja rfl _) rfl (by rfl) (Kc) fun a w go F HM=>?_
 refine lxv (.int .i64 0) F (Jg rfl) fun a F=>?_
 refine Jf ?_
 refine Kgr ?_
 refine lxv (grp P Q G H) F (Jr (F.ev rfl) (HM.get 2 rfl)) fun a F=>?_
 refine lxv (num X) F (Ke (F.ev rfl) (HM.get 1 rfl)) fun a F=>?_
 refine Xx F HM (Ja rfl _) rfl (by rfl) (Vn (F.ev rfl)) fun a w gr F HM=>?_
 refine Jp F (Ja rfl _) rfl (by rfl) (Jh Try.func28 (by kernel_rfl) (by rfl) (.cons (F.ev rfl) (.cons (F.ev rfl) .nil)) _) (Xt P Q G H 1 1 _ [X] _ hB1 hQ (((Pf.one X).rsA (HM.get 0 rfl) rfl (by decide) (by decide) (by simpa using hX)))) fun a w z F=>?_
 replace HM:=HM.on z
 clear z
 refine lxv (.bool false) F (Wk (b:=true) (r:=false) (F.ev rfl) rfl) fun a F=>?_
 refine lxv (.bool false) F (Jb (F.ev rfl)) fun a F=>?_
 refine lxw 13 false (grp P Q G H) F (Jr (F.ev rfl) (HM.get 3 rfl)) fun a F=>?_
 refine lxw 13 false (.slice pa n cap) F (Jb (F.ev rfl)) fun a F=>?_
 refine Jp F (F.want (t:=13) (c:=false) rfl rfl rfl (by rfl) rfl) rfl (by rfl) (Jh Try.func28 (by kernel_rfl) (by rfl) (.cons (F.ev rfl) (.cons (F.ev rfl) .nil)) _) (Xt P Q G H n cap pa ps _ hB2 hQ (r.call HM.bel HM.bel.size)) fun a w z F=>?_
 replace HM:=HM.on z
 clear z
 refine lxw 13 false (.bool true) F (Wk (b:=false) (r:=true) (F.ev rfl) rfl) fun a F=>?_
 refine lxv (.bool true) F (Jt (b:=false) (r:=.bool true) (F.ev rfl) rfl (F.ev rfl) rfl) fun a F=>?_
 refine Jf ?_
 refine Kgq ?_
 refine wp_cond_true (F.ev rfl) ?_
 refine Kgr ?_
 refine lxv (num 0) F (Uo) fun a F=>?_
 refine Jw F HM (Ja rfl _) rfl (k:=1) rfl (Jz (F.ev rfl) (F.ev rfl) (HM.get 1 rfl)) (M2:=[(gr,24,(Xi X)),(go,24,ncs 0),(gx,24,ncs X),(gg,26,gcs P Q G H)]) (rfl) fun w HM=>?_
 refine lxv (.int .i64 1) F (Jg rfl) fun a F=>?_
 refine Jf ?_
 refine Kgq ?_
 refine wp_ret ?_
 repeat (first | refine Ju ?_ | refine Jo ?_)
 exact Kt F HM (Jaz F (s:=6) (t:=7) rfl rfl rfl (HM.get 1 rfl))

theorem at_y (P Q G H X n cap:Nat) (pa:Option Addr) (ps:List Nat) (w0:World) (hQ:Q<2^256) (hX:X<2^256) (r:RN w0.heap.size w0 pa n cap ps) (hB1:Jbr Q [X]=true) (hB2:Jbr Q ps=true) (h1:1<Q) (hXQ:X<Q) (hp:∀ c∈ps,c<Q):Calls Try.prog 17 #[grp P Q G H,.slice pa n cap,num X] w0 fun e w'=>e=.returned (.tuple #[num (Ki Q (evZ (zs ps) X)),.int .i64 0])∧Below w0.heap.size w0 w':=by
 refine Ka (args:=[grp P Q G H,.slice pa n cap,num X]) Try.func17 rfl Try.ntmps17 (by rfl) fun a F HM=>?_
 refine Kgr ?_
 refine Jn F HM (Ja rfl _) rfl (by rfl) (Kl (F.ev rfl)) fun a w gg F HM=>?_
 refine Jn F HM (Ja rfl _) rfl (by rfl) (Vk (F.ev rfl)) fun a w gx F HM=>?_
 refine Jn F HM (Ja rfl _) rfl (by rfl) (Kc) fun a w go F HM=>?_
 refine lxv (.int .i64 0) F (Jg rfl) fun a F=>?_
 refine Jf ?_
 refine Kgr ?_
 refine lxv (grp P Q G H) F (Jr (F.ev rfl) (HM.get 2 rfl)) fun a F=>?_
 refine lxv (num X) F (Ke (F.ev rfl) (HM.get 1 rfl)) fun a F=>?_
 refine Xx F HM (Ja rfl _) rfl (by rfl) (Vn (F.ev rfl)) fun a w gr F HM=>?_
 refine Jp F (Ja rfl _) rfl (by rfl) (Jh Try.func28 (by kernel_rfl) (by rfl) (.cons (F.ev rfl) (.cons (F.ev rfl) .nil)) _) (Xt P Q G H 1 1 _ [X] _ hB1 hQ (((Pf.one X).rsA (HM.get 0 rfl) rfl (by decide) (by decide) (by simpa using hX)))) fun a w z F=>?_
 replace HM:=HM.on z
 clear z
 refine lxv (.bool false) F (Wk (b:=true) (r:=false) (F.ev rfl) rfl) fun a F=>?_
 refine lxv (.bool false) F (Jb (F.ev rfl)) fun a F=>?_
 refine lxw 13 false (grp P Q G H) F (Jr (F.ev rfl) (HM.get 3 rfl)) fun a F=>?_
 refine lxw 13 false (.slice pa n cap) F (Jb (F.ev rfl)) fun a F=>?_
 refine Jp F (F.want (t:=13) (c:=false) rfl rfl rfl (by rfl) rfl) rfl (by rfl) (Jh Try.func28 (by kernel_rfl) (by rfl) (.cons (F.ev rfl) (.cons (F.ev rfl) .nil)) _) (Xt P Q G H n cap pa ps _ hB2 hQ (r.call HM.bel HM.bel.size)) fun a w z F=>?_
 replace HM:=HM.on z
 clear z
 refine lxw 13 false (.bool false) F (Wk (b:=true) (r:=false) (F.ev rfl) rfl) fun a F=>?_
 refine lxv (.bool false) F (Jt (b:=false) (r:=.bool false) (F.ev rfl) rfl (F.ev rfl) rfl) fun a F=>?_
 refine Jf ?_
 refine Kgq ?_
 refine wp_cond_false (F.ev rfl) ?_
 refine Kgr ?_
 refine lxv (grp P Q G H) F (Jr (F.ev rfl) (HM.get 3 rfl)) fun a F=>?_
 refine lxv (.slice pa n cap) F (Jb (F.ev rfl)) fun a F=>?_
 refine lxv (num X) F (Ke (F.ev rfl) (HM.get 2 rfl)) fun a F=>?_
 refine Jp F (Ja rfl _) rfl (by rfl) (Jh Try.func31 (by kernel_rfl) (by rfl) (.cons (F.ev rfl) (.cons (F.ev rfl) (.cons (F.ev rfl) .nil))) _) (Jcm P Q G H X n cap pa ps _ hQ h1 hXQ hp (r.call HM.bel HM.bel.size)) fun a w z F=>?_
 replace HM:=HM.on z
 clear z
 refine Jw F HM (Ja rfl _) rfl (k:=1) rfl (Jz (F.ev rfl) (F.ev rfl) (HM.get 1 rfl)) (M2:=[(gr,24,(Xi X)),(go,24,ncs (Ki Q (evZ (zs ps) X))),(gx,24,ncs X),(gg,26,gcs P Q G H)]) (rfl) fun w HM=>?_
 refine lxv (.int .i64 0) F (Jg rfl) fun a F=>?_
 refine Jf ?_
 refine Kgq ?_
 refine wp_ret ?_
 repeat (first | refine Ju ?_ | refine Jo ?_)
 exact Kt F HM (Jaz F (s:=6) (t:=7) rfl rfl rfl (HM.get 1 rfl))

theorem Jdg (P Q G H X n cap:Nat) (pa:Option Addr) (ps:List Nat) (w0:World) (hQ:Q<2^256) (h:atB Q X ps=true) (r:RN w0.heap.size w0 pa n cap ps):Calls Try.prog 17 #[grp P Q G H,.slice pa n cap,num X] w0 fun e w'=>e=.returned (.tuple #[num (Ki Q (evZ (zs ps) X)),.int .i64 0])∧Below w0.heap.size w0 w':=by
 obtain ⟨h1,h2,h3⟩:=atB_iff.1 h
 unfold atB at h
 rw [Bool.and_eq_true] at h
 exact at_y P Q G H X n cap pa ps w0 hQ (Nat.lt_trans h2 hQ) r h.1 h.2 h1 h2 h3
theorem Jgc (P Q G H X n cap:Nat) (pa:Option Addr) (ps:List Nat) (w0:World) (hQ:Q<2^256) (hX:X<2^256) (h:atB Q X ps=false) (r:RN w0.heap.size w0 pa n cap ps):Calls Try.prog 17 #[grp P Q G H,.slice pa n cap,num X] w0 fun e w'=>e=.returned (.tuple #[num 0,.int .i64 1])∧Below w0.heap.size w0 w':=by
 unfold atB at h
 by_cases hb:Jbr Q [X]=true
 ·rw [hb,Bool.true_and] at h
  exact at_n2 P Q G H X n cap pa ps w0 hQ hX r hb h
 ·exact at_n1 P Q G H X n cap pa ps w0 hQ hX r (Bool.eq_false_iff.2 hb)
theorem noughtAt_any (P Q G H X gq lq capq n0:Nat) (os:List Nat) (co:Array Value) (M:List (Nat × TypeId × Array Value)) (w0 w:World) (hQ:Q<2^256) (h1:1<Q) (hX:X<Q) (hos:∀ c∈os,c<Q) (hco:Pf co os) (hlq:os.length=lq) (hbig:lq<2000) (HM:Mem n0 w0 w ((gq,24,co)::M)):Calls Try.prog 34 #[grp P Q G H,.slice (some ⟨gq,0,none⟩) lq capq,num X] w fun e w2=>∃ u,e=.returned u∧∃ (gn capn:Nat) (cn:Array Value),u=.slice (some ⟨gn,0,none⟩) (lq+1) capn∧lq+1≤capn∧capn≤9223372036854775807∧Pf cn (nz Q os X)∧Mem n0 w0 w2 ((gn,24,cn)::((gq,24,co)::M)):=by
 refine Xk (args:=[grp P Q G H,.slice (some ⟨gq,0,none⟩) lq capq,num X]) HM Try.func34 rfl Try.ntmps34 (by rfl) fun a F HM=>?_
 refine Kgr ?_
 refine Jn F HM (Ja rfl _) rfl (by rfl) (Kl (F.ev rfl)) fun a w gg F HM=>?_
 refine Jn F HM (Ja rfl _) rfl (by rfl) (Vk (F.ev rfl)) fun a w gx F HM=>?_
 refine lxv (.slice none 0 0) F (Jg rfl) fun a F=>?_
 refine Jf ?_
 refine Kgr ?_
 refine lxv (grp P Q G H) F (Jr (F.ev rfl) (HM.get 1 rfl)) fun a F=>?_
 refine lxv (num 0) F (Uo) fun a F=>?_
 refine lxv (num X) F (Ke (F.ev rfl) (HM.get 0 rfl)) fun a F=>?_
 refine Jp F (Ja rfl _) rfl (by rfl) (Jh Try.func27 (by kernel_rfl) (by rfl) (.cons (F.ev rfl) (.cons (F.ev rfl) (.cons (F.ev rfl) .nil))) _) ((Jbz P Q G H 0 X hQ h1 (by omega) hX) _) fun a w z F=>?_
 replace HM:=HM.on z
 clear z
 refine lxv (.tuple #[num (((0+Q-X)%Q)),.int .i64 0]) F (Jb (F.ev rfl)) fun a F=>?_
 refine lxv (num (((0+Q-X)%Q))) F (Jk (F.ev rfl) rfl) fun a F=>?_
 refine lxv (.int .i64 0) F (Jk (F.ev rfl) rfl) fun a F=>?_
 refine Jn F HM (Ja rfl _) rfl (by rfl) (Kc) fun a w gm F HM=>?_
 refine Jw F HM (Ja rfl _) rfl (k:=0) rfl (Jz (F.ev rfl) (F.ev rfl) (HM.get 0 rfl)) (M2:=((gm,24,ncs (((0+Q-X)%Q)))::(gx,24,ncs X)::(gg,26,gcs P Q G H)::(gq,24,co)::M)) (rfl) fun w HM=>?_
 refine lxv (.int .i64 0) F (Jg (F.ev rfl)) fun a F=>?_
 refine Jf ?_
 rw [sof_negQ h1 hX] at HM
 refine Kgr ?_
 refine Uy (v:=num 0) F (Ja rfl _) rfl (by rfl) Uo fun a F=>?_
 have hlt:=HM.lt
 have hbb:=Nat.le_trans HM.le HM.bel.size
 refine lx_row F (Ja rfl _) rfl (by rfl) (Vn (F.ev rfl)) fun a w2 gr F hat zz hgr=>?_
 rw [← hgr] at hlt hbb
 replace HM:=HM.on zz
 have hgs:gr≤w2.heap.size:=Nat.le_of_lt hat.lt
 clear zz hgr
 refine lxv (.slice (some ⟨gq,0,none⟩) lq capq) F (Jb (F.ev rfl)) fun a F=>?_
 obtain ⟨v2,w3,hrun,hnr,hgw,_,_⟩:=run_appN (ρ:=a.eval) (s:=.tmp 18) (x:=.tmp 19) (NR.one hat) (F.ev rfl) (F.ev rfl) hlq (hco.lie (HM.get 3 rfl)) (by simp;omega) hgs
 refine Uy (v:=v2) F (Ja rfl _) rfl (by rfl) hrun fun a F=>?_
 replace HM:=HM.row (NR.one hat) hgw hlt hbb
 obtain ⟨gn,capn,cn,rfl,hgn,hatn,hcn1,hcn2,hpn⟩:=hnr.row (by simp)
 replace HM:=HM.add (Nat.le_trans hbb hgn) (fun x hx=>by have:=hlt x hx;omega) hatn
 have hln:([0]++os).length=lq+1:=by simp [hlq]
 rw [hln] at F hcn1
 clear hrun hnr hgw hatn hat hlt
 refine lxv (.slice (some ⟨gn,0,none⟩) (lq+1) capn) F (Jg (F.ev rfl)) fun a F=>?_
 refine Jf ?_
 replace HM:=HM.front 4 rfl (M2:=((gq,24,co)::(gn,24,cn)::(gm,24,ncs (Ki Q (-(X:Int))))::(gx,24,ncs X)::(gg,26,gcs P Q G H)::M)) rfl
 replace HM:=HM.front 1 rfl (M2:=((gn,24,cn)::(gq,24,co)::(gm,24,ncs (Ki Q (-(X:Int))))::(gx,24,ncs X)::(gg,26,gcs P Q G H)::M)) rfl
 have hos2:∀ c∈[0]++os,c<Q:=fun c hc=>by rcases List.mem_append.1 hc with hc | hc;(· rw [List.mem_singleton.1 hc];omega);exact hos c hc
 refine Kgr ?_
 refine lxv (grp P Q G H) F (Jr (F.ev rfl) (HM.get 4 rfl)) fun a F=>?_
 refine lxv (.slice (some ⟨gn,0,none⟩) (lq+1) capn) F (Jb (F.ev rfl)) fun a F=>?_
 refine lxv (.slice (some ⟨gq,0,none⟩) lq capq) F (Jb (F.ev rfl)) fun a F=>?_
 refine lxv (num (Ki Q (-(X:Int)))) F (Ke (F.ev rfl) (HM.get 2 rfl)) fun a F=>?_
 refine Jp F (Ja rfl _) rfl (by rfl) (Jh Try.func33 (by kernel_rfl) (by rfl) (.cons (F.ev rfl) (.cons (F.ev rfl) (.cons (F.ev rfl) (.cons (F.ev rfl) .nil)))) _) (addTimes_any P Q G H _ gn gq (lq+1) capn lq capq _ ([0]++os) os cn co _ _ _ hQ h1 (Vr h1 _) hos2 hos hpn hco hln hlq (by omega) (by omega) HM) fun a w hu F=>?_
 obtain ⟨cn2,hpn2,HM,_⟩:=hu
 refine Jf ?_
 refine Kgr ?_
 refine lxv (.slice (some ⟨gn,0,none⟩) (lq+1) capn) F (Jb (F.ev rfl)) fun a F=>?_
 refine lxv (.slice (some ⟨gn,0,none⟩) (lq+1) capn) F (Jg (F.ev rfl)) fun a F=>?_
 refine Jf ?_
 replace HM:=HM.erase 2 (M2:=((gn,24,cn2)::(gq,24,co)::(gx,24,ncs X)::(gg,26,gcs P Q G H)::M)) rfl
 replace HM:=HM.erase 2 (M2:=((gn,24,cn2)::(gq,24,co)::(gg,26,gcs P Q G H)::M)) rfl
 replace HM:=HM.erase 2 (M2:=((gn,24,cn2)::(gq,24,co)::M)) rfl
 refine Kgq ?_
 refine wp_ret ?_
 repeat (first | refine Ju ?_ | refine Jo ?_)
 exact bodyPost_ret (Kq F rfl (s:=6) rfl) F.defers ⟨_,rfl,gn,capn,cn2,rfl,hcn1,hcn2,hpn2,HM⟩

theorem Jfv {dst:Option Tmp} {ρ:Operand→Value} {w:World} {x y:Operand} {ty:TypeId} {pos:String} {after:Array Edge} {gd:Option (Nat × Bool)} {n:Nat} (hn:n≤2000) (hx:ρ x=.int .i64 (n:Nat)) (hy:ρ y=.int .i64 (n:Nat)) :
  (execOp ρ ⟨dst,.makeSlice 27 x y,ty,pos,after,gd⟩).run Try.prog w=.ok (.value (.slice (some ⟨w.heap.size,0,none⟩) n n)) (w.alloc (.cells (madeCells (num 0).cells (n*4)) 24)):=by
 obtain ⟨i0,hi,hz0,hz1,hz2⟩:=info_parts Try.infoNum
 have:=run_makeSlice (P:=Try.prog) w 27 24 i0 _ Try.underlying27 hi hz0 .i64 .i64 (n:Int) (n:Int) (by omega) (Int.le_refl _) (by rw [hz1];omega) (by rw [hz2];omega) (by omega)
 rw [hz1] at this
 simp only [Int.toNat_natCast] at this
 simp [execOp,hx,hy,this]
theorem Pf.made (n:Nat):Pf (madeCells (num 0).cells (n*4)) (List.replicate n 0):=by
 have hs:(madeCells (num 0).cells (n*4)).size=n*4:=by simp [madeCells]
 refine ⟨Nat.le_of_eq (by rw [List.length_replicate,hs]),fun i hi k hk=>?_⟩
 rw [List.length_replicate] at hi
 have hlt:i*4+k<n*4:=by omega
 have hm:(i*4+k)%4=k:=by omega
 rw [List.getElem_replicate]
 have h0:(num 0).cells=#[.int .u64 (wd 0 0),.int .u64 (wd 0 1),.int .u64 (wd 0 2),.int .u64 (wd 0 3)]:=rfl
 simp only [madeCells]
 rw [Array.getElem?_map,Array.getElem?_range,if_pos hlt]
 simp only [Option.map_some,h0]
 rw [show (#[.int .u64 (wd 0 0),.int .u64 (wd 0 1),.int .u64 (wd 0 2),.int .u64 (wd 0 3)]:Array Value).size=4 from rfl,hm]
 match k,hk with
 | 0,_=>rfl
 | 1,_=>rfl
 | 2,_=>rfl
 | 3,_=>rfl
theorem arePts_is {b:Bool} (P Q G H n cap:Nat) (pa:Option Addr) (xs:List Nat) (w0:World) (hb:Jfr Q xs=b) (hQ:Q<2^256) (r:RN w0.heap.size w0 pa n cap xs):Calls Try.prog 29 #[grp P Q G H,.slice pa n cap] w0 fun e w'=>e=.returned (.bool b)∧Below w0.heap.size w0 w':=by
 subst hb;exact arePts_any P Q G H n cap pa xs w0 hQ r
section
variable {P:Program} {ops:Array Oper} {Q:Exit→Act→World→Prop} {a:Act} {n0:Nat} {w w0:World} {o:Oper} {N:Nat} {L:List (Nat × Value)} {df:List Deferred} {M:List (Nat × TypeId × Array Value)} {S:World→Prop} {fuel i:Nat} {listed:Array Bool}
end
def oth (Q:Nat) (xs:List Nat) (a:Int) (i:Nat):Int:=prZ a ((zs xs).eraseIdx i)
def AllU (Q:Nat) (xs:List Nat):Prop:=∀ (i x:Nat),xs[i]? = some x→U Q (oth Q xs (x:Int) i)
def WS (Q:Nat) (xs:List Nat) (X:Nat) (ws:List Nat) (k:Nat):Prop:=ws.length=xs.length∧(∀ v∈ws,v<Q)∧∀ (i x:Nat),i<k→xs[i]? = some x→∃ v,ws[i]? = some v∧Cg Q ((v:Int)*oth Q xs (x:Int) i) (oth Q xs (X:Int) i)
def wtsB (Q X:Nat) (xs:List Nat):Bool:=Jbr Q [X] && Jfr Q xs
end Go.Proofs.Ytcbnmdkmfdjpiaa
