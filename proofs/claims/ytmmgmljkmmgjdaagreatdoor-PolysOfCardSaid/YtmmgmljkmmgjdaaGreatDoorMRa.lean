import Derived.Deep.Cut
import Derived.Test.YtmmgmljkmmgjdaaGreatDoorMP5
import Derived.Test.YtmmgmljkmmgjdaaGreatDoorMP7
import Derived.Test.YtmmgmljkmmgjdaaGreatDoorMSc4
import Derived.Test.YtmmgmljkmmgjdaaGreatDoorMTree
namespace Go.Proofs.YtmmgmljkmmgjdaaGreatDoor
set_option maxRecDepth 100000
open Go.RowKit
set_option linter.unusedSimpArgs false
set_option linter.unusedVariables false
attribute [local go_sem ↓] Go.wp_at_zero Go.wp_at_succ

theorem grown_val {Q X Y:Nat} {ps:List Nat} (h1:1<Q) (hY:Y<Q):Uq Q (evZ (zs (ps++[Y])) (X:Int))=(Uq Q (evZ (zs ps) X)+Y*Uq Q ((X:Int)^ps.length)%Q)%Q:=by
 have h:=Jfz h1 (Y:Int) ((X:Int)^ps.length)
 rw [Vq hY h1] at h
 rw [h,sof_add h1]
 have e:evZ (zs (ps++[Y])) (X:Int)=evZ (zs ps) X+(Y:Int)*(X:Int)^ps.length:=by
  have e1:zs (ps++[Y])=zs ps++zs [Y]:=by simp [zs]
  rw [e1,Jhi,Wg]
  simp only [zs,List.map_cons,List.map_nil,evZ]
  grind
 rw [e]
theorem power_val {Q X:Nat} {i:Nat} (h1:1<Q) (hX:X<Q):Uq Q ((X:Int)^i)*X%Q=Uq Q ((X:Int)^(i+1)):=by
 have h:=Jfz h1 ((X:Int)^i) (X:Int)
 rw [Vq hX h1] at h
 rw [h,Int.pow_succ]
theorem r9add_yes (P Q G H A B:Nat) (hQ:Q<2^256) (h1:1<Q) (hA:A<Q) (hB:B<Q):∀ w,Calls Tryz.prog 166 #[grp P Q G H,num A,num B] w fun e w'=>e=.returned (.tuple #[num ((A+B)%Q),.int .i64 0])∧Below w.heap.size w w':=fun w=>r9_add P Q G H A B _ _ (ra_yes A B Q hQ h1 hA hB) w
theorem r9add_no (P Q G H A B:Nat) (hQ:Q<2^256) (hA:A<2^256) (hB:B<2^256) (h:¬ (1<Q∧A<Q∧B<Q)):∀ w,Calls Tryz.prog 166 #[grp P Q G H,num A,num B] w fun e w'=>e=.returned (.tuple #[num 0,.int .i64 1])∧Below w.heap.size w w':=fun w=>r9_add P Q G H A B _ _ (ra_no A B Q hA hB hQ h) w
theorem r9sub_yes (P Q G H A B:Nat) (hQ:Q<2^256) (h1:1<Q) (hA:A<Q) (hB:B<Q):∀ w,Calls Tryz.prog 169 #[grp P Q G H,num A,num B] w fun e w'=>e=.returned (.tuple #[num ((A+Q-B)%Q),.int .i64 0])∧Below w.heap.size w w':=fun w=>r9_sub P Q G H A B _ _ (rs_yes A B Q hQ h1 hA hB) w
theorem r9mul_yes (P Q G H A B:Nat) (hQ:Q<2^256) (h1:1<Q) (hA:A<Q) (hB:B<Q):∀ w,Calls Tryz.prog 167 #[grp P Q G H,num A,num B] w fun e w'=>e=.returned (.tuple #[num (A*B%Q),.int .i64 0])∧Below w.heap.size w w':=fun w=>r9_mul P Q G H A B _ _ (rm_yes A B Q hQ h1 hA hB) w
set_option maxRecDepth 100000 in
set_option maxHeartbeats 800000 in
theorem Jer (P Q G H A B:Nat) (hQ:Q<2^256) (h1:1<Q) (hA:A<Q) (hB:B<Q) (w0:World):Calls Tryz.prog 105 #[grp P Q G H,num A,num B] w0 fun e w'=>e=.returned (num ((A+B)%Q))∧Below w0.heap.size w0 w':=by
 refine Jx (args:=[grp P Q G H,num A,num B]) Tryz.func105 rfl Tryz.ntmps105 (by rfl) fun a F HM=>?_
 refine Kgr ?_
 refine Jn F HM (Ja rfl _) rfl (by rfl) (Km (F.ev rfl)) fun a w gg F HM=>?_
 refine Jn F HM (Ja rfl _) rfl (by rfl) (Kw (F.ev rfl)) fun a w ga F HM=>?_
 refine Jn F HM (Ja rfl _) rfl (by rfl) (Kw (F.ev rfl)) fun a w gb F HM=>?_
 refine Jn F HM (Ja rfl _) rfl (by rfl) (Jw) fun a w go F HM=>?_
 refine Jc ?_
 refine Kgr ?_
 refine lxv (grp P Q G H) F (Js (F.ev rfl) (HM.get 3 rfl)) fun a F=>?_
 refine lxv (num A) F (Jp (F.ev rfl) (HM.get 2 rfl)) fun a F=>?_
 refine lxv (num B) F (Jp (F.ev rfl) (HM.get 1 rfl)) fun a F=>?_
 refine Jj F (Ja rfl _) rfl (by rfl) (Jh Tryz.func166 (by kernel_rfl) (by rfl) (.cons (F.ev rfl) (.cons (F.ev rfl) (.cons (F.ev rfl) .nil))) _) ((r9add_yes P Q G H A B hQ h1 hA hB) _) fun a w z F=>?_
 replace HM:=HM.on z
 clear z
 refine lxv (.tuple #[num (((A+B)%Q)),.int .i64 0]) F (Jb (F.ev rfl)) fun a F=>?_
 refine lxv (num (((A+B)%Q))) F (Jk (F.ev rfl) rfl) fun a F=>?_
 refine lxv (.int .i64 0) F (Jk (F.ev rfl) rfl) fun a F=>?_
 refine Jn F HM (Ja rfl _) rfl (by rfl) (Jw) fun a w gv F HM=>?_
 refine Jv F HM (Ja rfl _) rfl (k:=0) rfl (Jq (F.ev rfl) (F.ev rfl) (HM.get 0 rfl)) (M2:=[(gv,24,ncs (((A+B)%Q))),(go,24,ncs 0),(gb,24,ncs B),(ga,24,ncs A),(gg,26,gcs P Q G H)]) (rfl) fun w HM=>?_
 refine lxv (.int .i64 0) F (Je (F.ev rfl)) fun a F=>?_
 refine Jc ?_
 refine Kgr ?_
 refine lxv (num (((A+B)%Q))) F (Jp (F.ev rfl) (HM.get 0 rfl)) fun a F=>?_
 refine Jv F HM (Ja rfl _) rfl (k:=1) rfl (Jq (F.ev rfl) (F.ev rfl) (HM.get 1 rfl)) (M2:=[(gv,24,ncs (((A+B)%Q))),(go,24,ncs (((A+B)%Q))),(gb,24,ncs B),(ga,24,ncs A),(gg,26,gcs P Q G H)]) (rfl) fun w HM=>?_
 refine Jc ?_
 refine Kgq ?_
 refine wp_ret ?_
 repeat (first | refine Jt ?_ | refine Jo ?_)
 exact Kp F HM (Jet F (s:=6) rfl rfl (HM.get 1 rfl))

set_option maxRecDepth 100000 in
set_option maxHeartbeats 800000 in
theorem Jbw (P Q G H A B:Nat) (hQ:Q<2^256) (h1:1<Q) (hA:A<Q) (hB:B<Q) (w0:World):Calls Tryz.prog 109 #[grp P Q G H,num A,num B] w0 fun e w'=>e=.returned (num ((A+Q-B)%Q))∧Below w0.heap.size w0 w':=by
 refine Jx (args:=[grp P Q G H,num A,num B]) Tryz.func109 rfl Tryz.ntmps109 (by rfl) fun a F HM=>?_
 refine Kgr ?_
 refine Jn F HM (Ja rfl _) rfl (by rfl) (Km (F.ev rfl)) fun a w gg F HM=>?_
 refine Jn F HM (Ja rfl _) rfl (by rfl) (Kw (F.ev rfl)) fun a w ga F HM=>?_
 refine Jn F HM (Ja rfl _) rfl (by rfl) (Kw (F.ev rfl)) fun a w gb F HM=>?_
 refine Jn F HM (Ja rfl _) rfl (by rfl) (Jw) fun a w go F HM=>?_
 refine Jc ?_
 refine Kgr ?_
 refine lxv (grp P Q G H) F (Js (F.ev rfl) (HM.get 3 rfl)) fun a F=>?_
 refine lxv (num A) F (Jp (F.ev rfl) (HM.get 2 rfl)) fun a F=>?_
 refine lxv (num B) F (Jp (F.ev rfl) (HM.get 1 rfl)) fun a F=>?_
 refine Jj F (Ja rfl _) rfl (by rfl) (Jh Tryz.func169 (by kernel_rfl) (by rfl) (.cons (F.ev rfl) (.cons (F.ev rfl) (.cons (F.ev rfl) .nil))) _) ((r9sub_yes P Q G H A B hQ h1 hA hB) _) fun a w z F=>?_
 replace HM:=HM.on z
 clear z
 refine lxv (.tuple #[num (((A+Q-B)%Q)),.int .i64 0]) F (Jb (F.ev rfl)) fun a F=>?_
 refine lxv (num (((A+Q-B)%Q))) F (Jk (F.ev rfl) rfl) fun a F=>?_
 refine lxv (.int .i64 0) F (Jk (F.ev rfl) rfl) fun a F=>?_
 refine Jn F HM (Ja rfl _) rfl (by rfl) (Jw) fun a w gv F HM=>?_
 refine Jv F HM (Ja rfl _) rfl (k:=0) rfl (Jq (F.ev rfl) (F.ev rfl) (HM.get 0 rfl)) (M2:=[(gv,24,ncs (((A+Q-B)%Q))),(go,24,ncs 0),(gb,24,ncs B),(ga,24,ncs A),(gg,26,gcs P Q G H)]) (rfl) fun w HM=>?_
 refine lxv (.int .i64 0) F (Je (F.ev rfl)) fun a F=>?_
 refine Jc ?_
 refine Kgr ?_
 refine lxv (num (((A+Q-B)%Q))) F (Jp (F.ev rfl) (HM.get 0 rfl)) fun a F=>?_
 refine Jv F HM (Ja rfl _) rfl (k:=1) rfl (Jq (F.ev rfl) (F.ev rfl) (HM.get 1 rfl)) (M2:=[(gv,24,ncs (((A+Q-B)%Q))),(go,24,ncs (((A+Q-B)%Q))),(gb,24,ncs B),(ga,24,ncs A),(gg,26,gcs P Q G H)]) (rfl) fun w HM=>?_
 refine Jc ?_
 refine Kgq ?_
 refine wp_ret ?_
 repeat (first | refine Jt ?_ | refine Jo ?_)
 exact Kp F HM (Jet F (s:=6) rfl rfl (HM.get 1 rfl))

set_option maxRecDepth 100000 in
set_option maxHeartbeats 800000 in
theorem Wk (P Q G H A B:Nat) (hQ:Q<2^256) (h1:1<Q) (hA:A<Q) (hB:B<Q) (w0:World):Calls Tryz.prog 106 #[grp P Q G H,num A,num B] w0 fun e w'=>e=.returned (num (A*B%Q))∧Below w0.heap.size w0 w':=by
 refine Jx (args:=[grp P Q G H,num A,num B]) Tryz.func106 rfl Tryz.ntmps106 (by rfl) fun a F HM=>?_
 refine Kgr ?_
 refine Jn F HM (Ja rfl _) rfl (by rfl) (Km (F.ev rfl)) fun a w gg F HM=>?_
 refine Jn F HM (Ja rfl _) rfl (by rfl) (Kw (F.ev rfl)) fun a w ga F HM=>?_
 refine Jn F HM (Ja rfl _) rfl (by rfl) (Kw (F.ev rfl)) fun a w gb F HM=>?_
 refine Jn F HM (Ja rfl _) rfl (by rfl) (Jw) fun a w go F HM=>?_
 refine Jc ?_
 refine Kgr ?_
 refine lxv (grp P Q G H) F (Js (F.ev rfl) (HM.get 3 rfl)) fun a F=>?_
 refine lxv (num A) F (Jp (F.ev rfl) (HM.get 2 rfl)) fun a F=>?_
 refine lxv (num B) F (Jp (F.ev rfl) (HM.get 1 rfl)) fun a F=>?_
 refine Jj F (Ja rfl _) rfl (by rfl) (Jh Tryz.func167 (by kernel_rfl) (by rfl) (.cons (F.ev rfl) (.cons (F.ev rfl) (.cons (F.ev rfl) .nil))) _) ((r9mul_yes P Q G H A B hQ h1 hA hB) _) fun a w z F=>?_
 replace HM:=HM.on z
 clear z
 refine lxv (.tuple #[num ((A*B%Q)),.int .i64 0]) F (Jb (F.ev rfl)) fun a F=>?_
 refine lxv (num ((A*B%Q))) F (Jk (F.ev rfl) rfl) fun a F=>?_
 refine lxv (.int .i64 0) F (Jk (F.ev rfl) rfl) fun a F=>?_
 refine Jn F HM (Ja rfl _) rfl (by rfl) (Jw) fun a w gv F HM=>?_
 refine Jv F HM (Ja rfl _) rfl (k:=0) rfl (Jq (F.ev rfl) (F.ev rfl) (HM.get 0 rfl)) (M2:=[(gv,24,ncs ((A*B%Q))),(go,24,ncs 0),(gb,24,ncs B),(ga,24,ncs A),(gg,26,gcs P Q G H)]) (rfl) fun w HM=>?_
 refine lxv (.int .i64 0) F (Je (F.ev rfl)) fun a F=>?_
 refine Jc ?_
 refine Kgr ?_
 refine lxv (num ((A*B%Q))) F (Jp (F.ev rfl) (HM.get 0 rfl)) fun a F=>?_
 refine Jv F HM (Ja rfl _) rfl (k:=1) rfl (Jq (F.ev rfl) (F.ev rfl) (HM.get 1 rfl)) (M2:=[(gv,24,ncs ((A*B%Q))),(go,24,ncs ((A*B%Q))),(gb,24,ncs B),(ga,24,ncs A),(gg,26,gcs P Q G H)]) (rfl) fun w HM=>?_
 refine Jc ?_
 refine Kgq ?_
 refine wp_ret ?_
 repeat (first | refine Jt ?_ | refine Jo ?_)
 exact Kp F HM (Jet F (s:=6) rfl rfl (HM.get 1 rfl))

set_option maxRecDepth 100000 in
set_option maxHeartbeats 800000 in
theorem Jdu (P Q G H A:Nat) (hQ:Q<2^256) (h1:1<Q) (hA:A<Q) (w0:World):Calls Tryz.prog 104 #[grp P Q G H,num A] w0 fun e w'=>e=.returned (.bool true)∧Below w0.heap.size w0 w':=by
 refine Jx (args:=[grp P Q G H,num A]) Tryz.func104 rfl Tryz.ntmps104 (by rfl) fun a F HM=>?_
 refine Kgr ?_
 refine Jn F HM (Ja rfl _) rfl (by rfl) (Km (F.ev rfl)) fun a w gg F HM=>?_
 refine Jn F HM (Ja rfl _) rfl (by rfl) (Kw (F.ev rfl)) fun a w ga F HM=>?_
 refine lxv (.bool false) F (Je rfl) fun a F=>?_
 refine Jc ?_
 refine Kgr ?_
 refine lxv (grp P Q G H) F (Js (F.ev rfl) (HM.get 1 rfl)) fun a F=>?_
 refine lxv (num A) F (Jp (F.ev rfl) (HM.get 0 rfl)) fun a F=>?_
 refine lxv (num A) F (Jp (F.ev rfl) (HM.get 0 rfl)) fun a F=>?_
 refine Jj F (Ja rfl _) rfl (by rfl) (Jh Tryz.func166 (by kernel_rfl) (by rfl) (.cons (F.ev rfl) (.cons (F.ev rfl) (.cons (F.ev rfl) .nil))) _) ((r9add_yes P Q G H A A hQ h1 hA hA) _) fun a w z F=>?_
 replace HM:=HM.on z
 clear z
 refine lxv (.tuple #[num (((A+A)%Q)),.int .i64 0]) F (Jb (F.ev rfl)) fun a F=>?_
 refine lxv (num (((A+A)%Q))) F (Jk (F.ev rfl) rfl) fun a F=>?_
 refine lxv (.int .i64 0) F (Jk (F.ev rfl) rfl) fun a F=>?_
 refine Jn F HM (Ja rfl _) rfl (by rfl) (Jw) fun a w gv F HM=>?_
 refine Jv F HM (Ja rfl _) rfl (k:=0) rfl (Jq (F.ev rfl) (F.ev rfl) (HM.get 0 rfl)) (M2:=[(gv,24,ncs (((A+A)%Q))),(ga,24,ncs A),(gg,26,gcs P Q G H)]) (rfl) fun w HM=>?_
 refine lxv (.int .i64 0) F (Je (F.ev rfl)) fun a F=>?_
 refine Jc ?_
 refine Kgr ?_
 refine lxv (.int .i64 0) F (Jb (F.ev rfl)) fun a F=>?_
 refine lxv (.bool true) F (Jz (u:=.int .i64 0) (v:=.int .i64 0) (fun ρ hx hy=>by simp only [execOp,hx,hy];simp [go_sem]) (F.ev rfl) rfl) fun a F=>?_
 refine lxv (.bool true) F (Je (F.ev rfl)) fun a F=>?_
 refine Jc ?_
 refine Kgq ?_
 refine wp_ret ?_
 repeat (first | refine Jt ?_ | refine Jo ?_)
 exact Kp F HM (Ua F rfl (s:=4) rfl)

set_option maxRecDepth 100000 in
set_option maxHeartbeats 800000 in
theorem Jdv (P Q G H A:Nat) (hQ:Q<2^256) (hA:A<2^256) (h:¬ (1<Q∧A<Q)) (w0:World):Calls Tryz.prog 104 #[grp P Q G H,num A] w0 fun e w'=>e=.returned (.bool false)∧Below w0.heap.size w0 w':=by
 refine Jx (args:=[grp P Q G H,num A]) Tryz.func104 rfl Tryz.ntmps104 (by rfl) fun a F HM=>?_
 refine Kgr ?_
 refine Jn F HM (Ja rfl _) rfl (by rfl) (Km (F.ev rfl)) fun a w gg F HM=>?_
 refine Jn F HM (Ja rfl _) rfl (by rfl) (Kw (F.ev rfl)) fun a w ga F HM=>?_
 refine lxv (.bool false) F (Je rfl) fun a F=>?_
 refine Jc ?_
 refine Kgr ?_
 refine lxv (grp P Q G H) F (Js (F.ev rfl) (HM.get 1 rfl)) fun a F=>?_
 refine lxv (num A) F (Jp (F.ev rfl) (HM.get 0 rfl)) fun a F=>?_
 refine lxv (num A) F (Jp (F.ev rfl) (HM.get 0 rfl)) fun a F=>?_
 refine Jj F (Ja rfl _) rfl (by rfl) (Jh Tryz.func166 (by kernel_rfl) (by rfl) (.cons (F.ev rfl) (.cons (F.ev rfl) (.cons (F.ev rfl) .nil))) _) ((r9add_no P Q G H A A hQ hA hA (fun h'=>h ⟨h'.1,h'.2.1⟩)) _) fun a w z F=>?_
 replace HM:=HM.on z
 clear z
 refine lxv (.tuple #[num 0,.int .i64 1]) F (Jb (F.ev rfl)) fun a F=>?_
 refine lxv (num 0) F (Jk (F.ev rfl) rfl) fun a F=>?_
 refine lxv (.int .i64 1) F (Jk (F.ev rfl) rfl) fun a F=>?_
 refine Jn F HM (Ja rfl _) rfl (by rfl) (Jw) fun a w gv F HM=>?_
 refine Jv F HM (Ja rfl _) rfl (k:=0) rfl (Jq (F.ev rfl) (F.ev rfl) (HM.get 0 rfl)) (M2:=[(gv,24,ncs 0),(ga,24,ncs A),(gg,26,gcs P Q G H)]) (rfl) fun w HM=>?_
 refine lxv (.int .i64 1) F (Je (F.ev rfl)) fun a F=>?_
 refine Jc ?_
 refine Kgr ?_
 refine lxv (.int .i64 1) F (Jb (F.ev rfl)) fun a F=>?_
 refine lxv (.bool false) F (Jz (u:=.int .i64 1) (v:=.int .i64 0) (fun ρ hx hy=>by simp only [execOp,hx,hy];simp [go_sem]) (F.ev rfl) rfl) fun a F=>?_
 refine lxv (.bool false) F (Je (F.ev rfl)) fun a F=>?_
 refine Jc ?_
 refine Kgq ?_
 refine wp_ret ?_
 repeat (first | refine Jt ?_ | refine Jo ?_)
 exact Kp F HM (Ua F rfl (s:=4) rfl)

set_option maxRecDepth 100000 in
set_option maxHeartbeats 800000 in
theorem rall_n (P Q G H n cap:Nat) (pa:Option Addr) (xs:List Nat) (w0:World) (hQ:Q<2^256) (r:RN w0.heap.size w0 pa n cap xs) (h1:¬ 1<Q):Calls Tryz.prog 103 #[grp P Q G H,.slice pa n cap] w0 fun e w'=>e=.returned (.bool false)∧Below w0.heap.size w0 w':=by
 refine Jx (args:=[grp P Q G H,.slice pa n cap]) Tryz.func103 rfl Tryz.ntmps103 (by rfl) fun a F HM=>?_
 refine Kgr ?_
 refine Jn F HM (Ja rfl _) rfl (by rfl) (Km (F.ev rfl)) fun a w gg F HM=>?_
 refine lxv (.bool false) F (Je rfl) fun a F=>?_
 refine Jc ?_
 refine Kgr ?_
 refine lxv (grp P Q G H) F (Js (F.ev rfl) (HM.get 0 rfl)) fun a F=>?_
 refine lxv (num 0) F (Uc) fun a F=>?_
 refine Jj F (Ja rfl _) rfl (by rfl) (Jh Tryz.func104 (by kernel_rfl) (by rfl) (.cons (F.ev rfl) (.cons (F.ev rfl) .nil)) _) ((Jdv P Q G H 0 hQ (by decide) (fun h=>h1 h.1)) _) fun a w z F=>?_
 replace HM:=HM.on z
 clear z
 refine lxv (.bool true) F (Uh (b:=false) (r:=true) (F.ev rfl) rfl) fun a F=>?_
 refine Jc ?_
 refine Kgq ?_
 refine wp_cond_true (F.ev rfl) ?_
 refine Kgr ?_
 refine lxv (.bool false) F (Je rfl) fun a F=>?_
 refine Jc ?_
 refine Kgq ?_
 refine wp_ret ?_
 repeat (first | refine Jt ?_ | refine Jo ?_)
 exact Kp F HM (Ua F rfl (s:=4) rfl)

set_option maxRecDepth 100000 in
set_option maxHeartbeats 800000 in
theorem rall_y (P Q G H n cap:Nat) (pa:Option Addr) (xs:List Nat) (w0:World) (hQ:Q<2^256) (r:RN w0.heap.size w0 pa n cap xs) (h1:1<Q):Calls Tryz.prog 103 #[grp P Q G H,.slice pa n cap] w0 fun e w'=>e=.returned (.bool (Vz Q xs))∧Below w0.heap.size w0 w':=by
 refine Jx (args:=[grp P Q G H,.slice pa n cap]) Tryz.func103 rfl Tryz.ntmps103 (by rfl) fun a F HM=>?_
 refine Kgr ?_
 refine Jn F HM (Ja rfl _) rfl (by rfl) (Km (F.ev rfl)) fun a w gg F HM=>?_
 refine lxv (.bool false) F (Je rfl) fun a F=>?_
 refine Jc ?_
 refine Kgr ?_
 refine lxv (grp P Q G H) F (Js (F.ev rfl) (HM.get 0 rfl)) fun a F=>?_
 refine lxv (num 0) F (Uc) fun a F=>?_
 refine Jj F (Ja rfl _) rfl (by rfl) (Jh Tryz.func104 (by kernel_rfl) (by rfl) (.cons (F.ev rfl) (.cons (F.ev rfl) .nil)) _) ((Jdu P Q G H 0 hQ h1 (by omega)) _) fun a w z F=>?_
 replace HM:=HM.on z
 clear z
 refine lxv (.bool false) F (Uh (b:=true) (r:=false) (F.ev rfl) rfl) fun a F=>?_
 refine Jc ?_
 refine Kgq ?_
 refine wp_cond_false (F.ev rfl) ?_
 refine Kgr ?_
 refine lxv (.int .i64 0) F (Je rfl) fun a F=>?_
 refine Jc ?_
 refine Kgq ?_
 refine wp_loop (fun a w=>∃ i:Nat,i≤n∧Fr a 23 [(5,.int .i64 (i:Nat)),(1,.slice pa n cap),(2,.pointer (some ⟨gg,0,none⟩))] []∧Mem w0.heap.size w0 w [(gg,26,gcs P Q G H)]∧Vz Q (xs.take i)=true) (fun a _=>n-(intOf (a.tmps.getD 5 undef)).toNat) ⟨0,Nat.zero_le _,F.sub [5,1,2],HM,by simp [Vz]⟩ ?_
 clear F HM
 rintro aS wS ⟨i,hi,FS,HM,HE⟩
 have F:=FS
 by_cases hlt:i<n
 ·refine Kgr ?_
  refine lxv (.int .i64 (i:Nat)) F (Jb (F.ev rfl)) fun a F=>?_
  refine lxv (.slice pa n cap) F (Jb (F.ev rfl)) fun a F=>?_
  refine lxv (.int .i64 (n:Nat)) F (Ko (F.ev rfl)) fun a F=>?_
  refine lxv (.bool true) F (Jz (u:=.int .i64 (i:Nat)) (v:=.int .i64 (n:Nat)) (fun ρ hx hy=>by simp only [execOp,hx,hy];simp [go_sem];omega) (F.ev rfl) (F.ev rfl)) fun a F=>?_
  refine Jc ?_
  refine Kgq ?_
  refine wp_cond_true (F.ev rfl) ?_
  have hwr:=r.room hlt
  obtain ⟨gl,ol,hpa,hil,hxb,hc⟩:=r.get hlt
  have htk:xs.take (i+1)=xs.take i++[xs[i]]:=List.take_succ_eq_append_getElem hil
  generalize xs[i]=x at *
  by_cases hgd:1<Q∧x<Q
  ·refine Kgq ?_
   refine Kg (S:=fun w'=>Mem _ _ w' [(gg,26,gcs P Q G H)]) HM (fun _ h=>h) (by kernel_rfl) fun w HM HBW=>?_
   clear HBW
   try simp only [List.append_eq,List.cons_append,List.nil_append]
   refine Kt [⟨0,16,[],.val (grp P Q G H),true⟩,
   ⟨1,17,[0],.val (.slice pa n cap),true⟩,
   ⟨2,18,[1],.val (.int .i64 (i:Nat)),true⟩,
   ⟨3,19,[1,2],.val (.pointer (some ⟨gl,ol+i*4,none⟩)),true⟩,
   ⟨4,20,[3],.val (num x),true⟩,
   ⟨5,21,[0,4],.val (.bool true),false⟩,
   ⟨6,22,[5],.val (.bool false),true⟩] 0 _ F HM (fun _ h=>h.subl (by first | exact List.Sublist.refl _ | (repeat (first | exact List.Sublist.refl _ | refine List.Sublist.cons_cons _ ?_ | refine List.Sublist.cons _ ?_)))) (by kernel_rfl) (by rfl) ?_ ?_ ?_ ?_ ?_ ?_ ?_
   ·kernel_rfl
   ·exact of_decide_eq_true (by kernel_rfl)
   ·(repeat refine all_cons ⟨_,by rfl,by rfl⟩ ?_);exact all_nil
   ·kernel_rfl
   ·(repeat (refine all_cons ?_ ?_;rotate_left));exact all_nil
    ·exact Wt _ _ _ _ _ _ _ (by rfl) (by rfl) Jg (fun ρ w kn hs=>Js (kn _ _ (F.old (by rfl) rfl)) (hs.get 0 rfl))
    ·exact Wt _ _ _ _ _ _ _ (by rfl) (by rfl) Jg (fun ρ w kn hs=>Jb (kn _ _ (F.old (by rfl) rfl)))
    ·exact Wt _ _ _ _ _ _ _ (by rfl) (by rfl) Jg (fun ρ w kn hs=>Jb (kn _ _ (F.old (by rfl) rfl)))
    ·exact crS (fun ρ w kn hs=>Kv hlt (by rw [← hpa];exact (kn _ _ (kc 1 17))) (kn _ _ (kc 2 18)))
    ·exact crS (fun ρ w kn hs=>Kh (kn _ _ (kc 3 19)) (hc _ hs.bel))
    ·exact Jm _ (by rfl)
    ·exact crS (fun ρ w kn hs=>Uh (b:=true) (r:=false) (kn _ _ (kc 5 21)) rfl)
   ·(repeat (refine all_cons ?_ ?_;rotate_left));exact all_nil
    all_goals try exact sA
    ·exact fun _=>Jl _ 104 _ _ [.tmp 16,.tmp 20] _ _ _ _ _ _ _ (by rfl) Tryz.func104 (by kernel_rfl) (by rfl) (by rfl) (Jg) (.cons (kc 0 16) (.cons (kc 4 20) .nil)) ((Jdu P Q G H x hQ hgd.1 hgd.2))
   intro gs rs a w hgs hrs F HM HBW HR HO HT
   obtain rfl:=nl0 rs hrs
   obtain rfl:=nl0 gs hgs
   clear hrs hgs HR HBW HO
   clear HT
   refine Ks (by kernel_rfl) ?_ _
   refine Kgq ?_
   refine wp_cond_false (F.ev rfl) ?_
   refine Kgr ?_
   refine lxv (.int .i64 (i:Nat)) F (Jb (F.ev rfl)) fun a F=>?_
   refine lxv (.int .i64 ((i+1:Nat):Int)) F (Jz (u:=.int .i64 (i:Nat)) (v:=.int .i64 1) (fun ρ hx hy=>by simp only [execOp,hx,hy];simp [go_sem,hwr]) (F.ev rfl) rfl) fun a F=>?_
   refine lxv (.int .i64 ((i+1:Nat):Int)) F (Je (F.ev rfl)) fun a F=>?_
   refine Jc ?_
   refine Ku ?_
   refine ⟨⟨i+1,by omega,F.sub [5,1,2],HM,?_⟩,?_⟩
   ·rw [htk];unfold Vz at HE ⊢;rw [List.all_append,HE];simp [hgd]
   ·show n-(intOf (a.tmps.getD 5 undef)).toNat<n-(intOf (aS.tmps.getD 5 undef)).toNat
    rw [F.get 5 _ rfl,FS.get 5 _ rfl]
    show n-((i+1:Nat):Int).toNat<n-((i:Nat):Int).toNat
    omega
  ·refine Kgq ?_
   refine Kg (S:=fun w'=>Mem _ _ w' [(gg,26,gcs P Q G H)]) HM (fun _ h=>h) (by kernel_rfl) fun w HM HBW=>?_
   clear HBW
   try simp only [List.append_eq,List.cons_append,List.nil_append]
   refine Kt [⟨0,16,[],.val (grp P Q G H),true⟩,
   ⟨1,17,[0],.val (.slice pa n cap),true⟩,
   ⟨2,18,[1],.val (.int .i64 (i:Nat)),true⟩,
   ⟨3,19,[1,2],.val (.pointer (some ⟨gl,ol+i*4,none⟩)),true⟩,
   ⟨4,20,[3],.val (num x),true⟩,
   ⟨5,21,[0,4],.val (.bool false),false⟩,
   ⟨6,22,[5],.val (.bool true),true⟩] 0 _ F HM (fun _ h=>h.subl (by first | exact List.Sublist.refl _ | (repeat (first | exact List.Sublist.refl _ | refine List.Sublist.cons_cons _ ?_ | refine List.Sublist.cons _ ?_)))) (by kernel_rfl) (by rfl) ?_ ?_ ?_ ?_ ?_ ?_ ?_
   ·kernel_rfl
   ·exact of_decide_eq_true (by kernel_rfl)
   ·(repeat refine all_cons ⟨_,by rfl,by rfl⟩ ?_);exact all_nil
   ·kernel_rfl
   ·(repeat (refine all_cons ?_ ?_;rotate_left));exact all_nil
    ·exact Wt _ _ _ _ _ _ _ (by rfl) (by rfl) Jg (fun ρ w kn hs=>Js (kn _ _ (F.old (by rfl) rfl)) (hs.get 0 rfl))
    ·exact Wt _ _ _ _ _ _ _ (by rfl) (by rfl) Jg (fun ρ w kn hs=>Jb (kn _ _ (F.old (by rfl) rfl)))
    ·exact Wt _ _ _ _ _ _ _ (by rfl) (by rfl) Jg (fun ρ w kn hs=>Jb (kn _ _ (F.old (by rfl) rfl)))
    ·exact crS (fun ρ w kn hs=>Kv hlt (by rw [← hpa];exact (kn _ _ (kc 1 17))) (kn _ _ (kc 2 18)))
    ·exact crS (fun ρ w kn hs=>Kh (kn _ _ (kc 3 19)) (hc _ hs.bel))
    ·exact Jm _ (by rfl)
    ·exact crS (fun ρ w kn hs=>Uh (b:=false) (r:=true) (kn _ _ (kc 5 21)) rfl)
   ·(repeat (refine all_cons ?_ ?_;rotate_left));exact all_nil
    all_goals try exact sA
    ·exact fun _=>Jl _ 104 _ _ [.tmp 16,.tmp 20] _ _ _ _ _ _ _ (by rfl) Tryz.func104 (by kernel_rfl) (by rfl) (by rfl) (Jg) (.cons (kc 0 16) (.cons (kc 4 20) .nil)) ((Jdv P Q G H x hQ hxb hgd))
   intro gs rs a w hgs hrs F HM HBW HR HO HT
   obtain rfl:=nl0 rs hrs
   obtain rfl:=nl0 gs hgs
   clear hrs hgs HR HBW HO
   clear HT
   refine Ks (by kernel_rfl) ?_ _
   refine Kgq ?_
   refine wp_cond_true (F.ev rfl) ?_
   refine Kgr ?_
   refine lxv (.bool false) F (Je rfl) fun a F=>?_
   refine Jc ?_
   have hV:Vz Q xs=false:=by
    rw [← List.take_append_drop (i+1) xs,htk];unfold Vz;rw [List.all_append,List.all_append];simp [hgd]
   rw [hV]
   refine Kgq ?_
   refine wp_ret ?_
   repeat (first | refine Jt ?_ | refine Jo ?_)
   exact Kp F HM (Ua F rfl (s:=4) rfl)
 ·refine Kgr ?_
  refine lxv (.int .i64 (i:Nat)) F (Jb (F.ev rfl)) fun a F=>?_
  refine lxv (.slice pa n cap) F (Jb (F.ev rfl)) fun a F=>?_
  refine lxv (.int .i64 (n:Nat)) F (Ko (F.ev rfl)) fun a F=>?_
  refine lxv (.bool false) F (Jz (u:=.int .i64 (i:Nat)) (v:=.int .i64 (n:Nat)) (fun ρ hx hy=>by simp only [execOp,hx,hy];simp [go_sem];omega) (F.ev rfl) (F.ev rfl)) fun a F=>?_
  refine Jc ?_
  refine Kgq ?_
  refine wp_cond_false (F.ev rfl) ?_
  refine Kgq ?_
  refine wp_exit ?_
  repeat (first | refine Kk ?_ | refine Kd ?_)
  have hV:Vz Q xs=true:=by rw [← HE,List.take_of_length_le (by have:=r.1;omega)]
  refine Kgr ?_
  refine lxv (.bool true) F (Je rfl) fun a F=>?_
  refine Jc ?_
  rw [hV]
  refine Kgq ?_
  refine wp_ret ?_
  repeat (first | refine Jt ?_ | refine Jo ?_)
  exact Kp F HM (Ua F rfl (s:=4) rfl)

theorem Xi {b:Bool} (P Q G H n cap:Nat) (pa:Option Addr) (xs:List Nat) (w0:World) (hQ:Q<2^256) (r:RN w0.heap.size w0 pa n cap xs) (hb:(decide (1<Q) && Vz Q xs)=b):Calls Tryz.prog 103 #[grp P Q G H,.slice pa n cap] w0 fun e w'=>e=.returned (.bool b)∧Below w0.heap.size w0 w':=by
 subst hb
 by_cases h:1<Q
 ·rw [decide_eq_true h];exact rall_y P Q G H n cap pa xs w0 hQ r h
 ·rw [decide_eq_false h];exact rall_n P Q G H n cap pa xs w0 hQ r h
set_option maxRecDepth 100000 in
set_option maxHeartbeats 800000 in
theorem rat_n1 (P Q G H X n cap:Nat) (pa:Option Addr) (xs:List Nat) (w0:World) (hQ:Q<2^256) (hX:X<2^256) (r:RN w0.heap.size w0 pa n cap xs) (hall:(decide (1<Q) && Vz Q xs)=false):Calls Tryz.prog 23 #[grp P Q G H,.slice pa n cap,num X] w0 fun e w'=>e=.returned (.tuple #[num 0,.int .i64 1])∧Below w0.heap.size w0 w':=by
 refine Jx (args:=[grp P Q G H,.slice pa n cap,num X]) Tryz.func23 rfl Tryz.ntmps23 (by rfl) fun a F HM=>?_
 refine Kgr ?_
 refine Jn F HM (Ja rfl _) rfl (by rfl) (Km (F.ev rfl)) fun a w gg F HM=>?_
 refine Jn F HM (Ja rfl _) rfl (by rfl) (Kw (F.ev rfl)) fun a w gx F HM=>?_
 refine Jn F HM (Ja rfl _) rfl (by rfl) (Jw) fun a w go F HM=>?_
 refine lxv (.int .i64 0) F (Je rfl) fun a F=>?_
 refine Jc ?_
 refine Kgr ?_
 refine lxv (grp P Q G H) F (Js (F.ev rfl) (HM.get 2 rfl)) fun a F=>?_
 refine lxv (.slice pa n cap) F (Jb (F.ev rfl)) fun a F=>?_
 refine Jj F (Ja rfl _) rfl (by rfl) (Jh Tryz.func103 (by kernel_rfl) (by rfl) (.cons (F.ev rfl) (.cons (F.ev rfl) .nil)) _) (Xi P Q G H n cap pa xs _ hQ (r.call HM.bel HM.bel.size) hall) fun a w z F=>?_
 replace HM:=HM.on z
 clear z
 refine lxv (.bool true) F (Uh (b:=false) (r:=true) (F.ev rfl) rfl) fun a F=>?_
 refine lxv (.bool true) F (Jb (F.ev rfl)) fun a F=>?_
 refine lxp 15 true F fun a F=>?_
 refine lxp 15 true F fun a F=>?_
 refine lxp 15 true F fun a F=>?_
 refine lxp 15 true F fun a F=>?_
 refine lxv (.bool true) F (Kc (b:=true) (r:=.bool true) (F.ev rfl) rfl (F.ev rfl) rfl) fun a F=>?_
 refine Jc ?_
 refine Kgq ?_
 refine wp_cond_true (F.ev rfl) ?_
 refine Kgr ?_
 refine lxv (num 0) F (Uc) fun a F=>?_
 refine Jv F HM (Ja rfl _) rfl (k:=0) rfl (Jq (F.ev rfl) (F.ev rfl) (HM.get 0 rfl)) (M2:=[(go,24,ncs 0),(gx,24,ncs X),(gg,26,gcs P Q G H)]) (rfl) fun w HM=>?_
 refine lxv (.int .i64 1) F (Je rfl) fun a F=>?_
 refine Jc ?_
 refine Kgq ?_
 refine wp_ret ?_
 repeat (first | refine Jt ?_ | refine Jo ?_)
 exact Kp F HM (Wh F (s:=6) (t:=7) rfl rfl rfl (HM.get 0 rfl))

set_option maxRecDepth 100000 in
set_option maxHeartbeats 800000 in
theorem rat_n2 (P Q G H X n cap:Nat) (pa:Option Addr) (xs:List Nat) (w0:World) (hQ:Q<2^256) (hX:X<2^256) (r:RN w0.heap.size w0 pa n cap xs) (hall:(decide (1<Q) && Vz Q xs)=true) (hxx:¬ (1<Q∧X<Q)):Calls Tryz.prog 23 #[grp P Q G H,.slice pa n cap,num X] w0 fun e w'=>e=.returned (.tuple #[num 0,.int .i64 1])∧Below w0.heap.size w0 w':=by
 refine Jx (args:=[grp P Q G H,.slice pa n cap,num X]) Tryz.func23 rfl Tryz.ntmps23 (by rfl) fun a F HM=>?_
 refine Kgr ?_
 refine Jn F HM (Ja rfl _) rfl (by rfl) (Km (F.ev rfl)) fun a w gg F HM=>?_
 refine Jn F HM (Ja rfl _) rfl (by rfl) (Kw (F.ev rfl)) fun a w gx F HM=>?_
 refine Jn F HM (Ja rfl _) rfl (by rfl) (Jw) fun a w go F HM=>?_
 refine lxv (.int .i64 0) F (Je rfl) fun a F=>?_
 refine Jc ?_
 refine Kgr ?_
 refine lxv (grp P Q G H) F (Js (F.ev rfl) (HM.get 2 rfl)) fun a F=>?_
 refine lxv (.slice pa n cap) F (Jb (F.ev rfl)) fun a F=>?_
 refine Jj F (Ja rfl _) rfl (by rfl) (Jh Tryz.func103 (by kernel_rfl) (by rfl) (.cons (F.ev rfl) (.cons (F.ev rfl) .nil)) _) (Xi P Q G H n cap pa xs _ hQ (r.call HM.bel HM.bel.size) hall) fun a w z F=>?_
 replace HM:=HM.on z
 clear z
 refine lxv (.bool false) F (Uh (b:=true) (r:=false) (F.ev rfl) rfl) fun a F=>?_
 refine lxv (.bool false) F (Jb (F.ev rfl)) fun a F=>?_
 refine lxw 15 false (grp P Q G H) F (Js (F.ev rfl) (HM.get 2 rfl)) fun a F=>?_
 refine lxw 15 false (num X) F (Jp (F.ev rfl) (HM.get 1 rfl)) fun a F=>?_
 refine Jj F (F.want (t:=15) (c:=false) rfl rfl rfl (by rfl) rfl) rfl (by rfl) (Jh Tryz.func104 (by kernel_rfl) (by rfl) (.cons (F.ev rfl) (.cons (F.ev rfl) .nil)) _) ((Jdv P Q G H X hQ hX hxx) _) fun a w z F=>?_
 replace HM:=HM.on z
 clear z
 refine lxw 15 false (.bool true) F (Uh (b:=false) (r:=true) (F.ev rfl) rfl) fun a F=>?_
 refine lxv (.bool true) F (Kc (b:=false) (r:=.bool true) (F.ev rfl) rfl (F.ev rfl) rfl) fun a F=>?_
 refine Jc ?_
 refine Kgq ?_
 refine wp_cond_true (F.ev rfl) ?_
 refine Kgr ?_
 refine lxv (num 0) F (Uc) fun a F=>?_
 refine Jv F HM (Ja rfl _) rfl (k:=0) rfl (Jq (F.ev rfl) (F.ev rfl) (HM.get 0 rfl)) (M2:=[(go,24,ncs 0),(gx,24,ncs X),(gg,26,gcs P Q G H)]) (rfl) fun w HM=>?_
 refine lxv (.int .i64 1) F (Je rfl) fun a F=>?_
 refine Jc ?_
 refine Kgq ?_
 refine wp_ret ?_
 repeat (first | refine Jt ?_ | refine Jo ?_)
 exact Kp F HM (Wh F (s:=6) (t:=7) rfl rfl rfl (HM.get 0 rfl))

set_option maxRecDepth 100000 in
set_option maxHeartbeats 800000 in
theorem rat_y (P Q G H X n cap:Nat) (pa:Option Addr) (xs:List Nat) (w0:World) (hQ:Q<2^256) (hX:X<2^256) (r:RN w0.heap.size w0 pa n cap xs) (hall:(decide (1<Q) && Vz Q xs)=true) (h1:1<Q) (hXQ:X<Q) (hxs:∀ x∈xs,x<Q):Calls Tryz.prog 23 #[grp P Q G H,.slice pa n cap,num X] w0 fun e w'=>e=.returned (.tuple #[num (Uq Q (evZ (zs xs) X)),.int .i64 0])∧Below w0.heap.size w0 w':=by
 refine Jx (args:=[grp P Q G H,.slice pa n cap,num X]) Tryz.func23 rfl Tryz.ntmps23 (by rfl) fun a F HM=>?_
 refine Kgr ?_
 refine Jn F HM (Ja rfl _) rfl (by rfl) (Km (F.ev rfl)) fun a w gg F HM=>?_
 refine Jn F HM (Ja rfl _) rfl (by rfl) (Kw (F.ev rfl)) fun a w gx F HM=>?_
 refine Jn F HM (Ja rfl _) rfl (by rfl) (Jw) fun a w go F HM=>?_
 refine lxv (.int .i64 0) F (Je rfl) fun a F=>?_
 refine Jc ?_
 refine Kgr ?_
 refine lxv (grp P Q G H) F (Js (F.ev rfl) (HM.get 2 rfl)) fun a F=>?_
 refine lxv (.slice pa n cap) F (Jb (F.ev rfl)) fun a F=>?_
 refine Jj F (Ja rfl _) rfl (by rfl) (Jh Tryz.func103 (by kernel_rfl) (by rfl) (.cons (F.ev rfl) (.cons (F.ev rfl) .nil)) _) (Xi P Q G H n cap pa xs _ hQ (r.call HM.bel HM.bel.size) hall) fun a w z F=>?_
 replace HM:=HM.on z
 clear z
 refine lxv (.bool false) F (Uh (b:=true) (r:=false) (F.ev rfl) rfl) fun a F=>?_
 refine lxv (.bool false) F (Jb (F.ev rfl)) fun a F=>?_
 refine lxw 15 false (grp P Q G H) F (Js (F.ev rfl) (HM.get 2 rfl)) fun a F=>?_
 refine lxw 15 false (num X) F (Jp (F.ev rfl) (HM.get 1 rfl)) fun a F=>?_
 refine Jj F (F.want (t:=15) (c:=false) rfl rfl rfl (by rfl) rfl) rfl (by rfl) (Jh Tryz.func104 (by kernel_rfl) (by rfl) (.cons (F.ev rfl) (.cons (F.ev rfl) .nil)) _) ((Jdu P Q G H X hQ h1 hXQ) _) fun a w z F=>?_
 replace HM:=HM.on z
 clear z
 refine lxw 15 false (.bool false) F (Uh (b:=true) (r:=false) (F.ev rfl) rfl) fun a F=>?_
 refine lxv (.bool false) F (Kc (b:=false) (r:=.bool false) (F.ev rfl) rfl (F.ev rfl) rfl) fun a F=>?_
 refine Jc ?_
 refine Kgq ?_
 refine wp_cond_false (F.ev rfl) ?_
 obtain ⟨pw,hpw,hpw2⟩:∃ pw,pw=Uq Q 1∧pw=Uq Q ((X:Int)^0):=⟨_,rfl,by rw [Int.pow_zero]⟩
 have hof:∀ w,Calls Tryz.prog 38 #[grp P Q G H,.int .i64 1] w fun e w'=>e=.returned (num pw)∧Below w.heap.size w w':=fun w=>by rw [hpw];exact rof9_any P Q G H 1 hQ (by decide) (by decide) w
 refine Kgr ?_
 refine lxv (num 0) F (Uc) fun a F=>?_
 refine Jn F HM (Ja rfl _) rfl (by rfl) (Jw) fun a w gs F HM=>?_
 refine Jv F HM (Ja rfl _) rfl (k:=0) rfl (Jq (F.ev rfl) (F.ev rfl) (HM.get 0 rfl)) (M2:=[(gs,24,ncs 0),(go,24,ncs 0),(gx,24,ncs X),(gg,26,gcs P Q G H)]) (rfl) fun w HM=>?_
 refine Jc ?_
 refine Kgr ?_
 refine lxv (grp P Q G H) F (Js (F.ev rfl) (HM.get 3 rfl)) fun a F=>?_
 refine Jj F (Ja rfl _) rfl (by rfl) (Jh Tryz.func38 (by kernel_rfl) (by rfl) (.cons (F.ev rfl) (.cons rfl .nil)) _) (hof _) fun a w z F=>?_
 replace HM:=HM.on z
 clear z
 refine Jn F HM (Ja rfl _) rfl (by rfl) (Jw) fun a w gp F HM=>?_
 refine Jv F HM (Ja rfl _) rfl (k:=0) rfl (Jq (F.ev rfl) (F.ev rfl) (HM.get 0 rfl)) (M2:=[(gp,24,ncs pw),(gs,24,ncs 0),(go,24,ncs 0),(gx,24,ncs X),(gg,26,gcs P Q G H)]) (rfl) fun w HM=>?_
 refine Jc ?_
 refine Kgr ?_
 refine lxv (.int .i64 0) F (Je rfl) fun a F=>?_
 refine Jc ?_
 refine Kgq ?_
 refine wp_loop (fun a w=>∃ i S pw:Nat,i≤n∧S=Uq Q (evZ (zs (xs.take i)) X)∧pw=Uq Q ((X:Int)^i)∧Fr a 46 [(10,.int .i64 (i:Nat)),(1,.slice pa n cap),(3,.pointer (some ⟨gg,0,none⟩)),(5,.pointer (some ⟨gx,0,none⟩)),(6,.pointer (some ⟨go,0,none⟩)),(7,.int .i64 0),(8,.pointer (some ⟨gs,0,none⟩)),(9,.pointer (some ⟨gp,0,none⟩))] []∧Mem w0.heap.size w0 w [(gp,24,ncs pw),(gs,24,ncs S),(go,24,ncs 0),(gx,24,ncs X),(gg,26,gcs P Q G H)]) (fun a _=>n-(intOf (a.tmps.getD 10 undef)).toNat) ⟨0,0,pw,Nat.zero_le _,(Jfx h1).symm,hpw2,F.sub [10,1,3,5,6,7,8,9],HM⟩ ?_
 clear F HM hof hpw hpw2
 rintro aS wS ⟨i,S,pw,hi,hS,hpw,FS,HM⟩
 have F:=FS
 have hSQ:S<Q:=by rw [hS];exact Wn h1 _
 have hpQ:pw<Q:=by rw [hpw];exact Wn h1 _
 by_cases hlt:i<n
 ·refine Kgr ?_
  refine lxv (.int .i64 (i:Nat)) F (Jb (F.ev rfl)) fun a F=>?_
  refine lxv (.slice pa n cap) F (Jb (F.ev rfl)) fun a F=>?_
  refine lxv (.int .i64 (n:Nat)) F (Ko (F.ev rfl)) fun a F=>?_
  refine lxv (.bool true) F (Jz (u:=.int .i64 (i:Nat)) (v:=.int .i64 (n:Nat)) (fun ρ hx hy=>by simp only [execOp,hx,hy];simp [go_sem];omega) (F.ev rfl) (F.ev rfl)) fun a F=>?_
  refine Jc ?_
  refine Kgq ?_
  refine wp_cond_true (F.ev rfl) ?_
  have hwr:=r.room hlt
  obtain ⟨gl,ol,hpa,hil,hxb,hc⟩:=r.get hlt
  have htk:xs.take (i+1)=xs.take i++[xs[i]]:=List.take_succ_eq_append_getElem hil
  have hxQ:=hxs _ (List.getElem_mem hil)
  have htl:(xs.take i).length=i:=by rw [List.length_take];omega
  generalize xs[i]=x at *
  have hm:x*pw%Q<Q:=Nat.mod_lt _ (by omega)
  refine Kgq ?_
  refine Kg (S:=fun _=>True) HM (fun _ h=>trivial) (by kernel_rfl) fun w HM HBW=>?_
  clear HBW
  try simp only [List.append_eq,List.cons_append,List.nil_append]
  refine Kt [⟨0,31,[],.val (grp P Q G H),false⟩,
   ⟨1,32,[],.val (num S),false⟩,
   ⟨2,33,[],.val (grp P Q G H),false⟩,
   ⟨3,34,[],.val (.slice pa n cap),true⟩,
   ⟨4,35,[],.val (.int .i64 (i:Nat)),true⟩,
   ⟨5,36,[3,4],.val (.pointer (some ⟨gl,ol+i*4,none⟩)),true⟩,
   ⟨6,37,[5],.val (num x),false⟩,
   ⟨7,38,[],.val (num pw),false⟩,
   ⟨8,39,[2,6,7],.val (num ((x*pw%Q))),false⟩,
   ⟨9,40,[0,1,8],.val (num (((S+x*pw%Q)%Q))),false⟩] 1 _ F HM (fun _ _=>trivial) (by kernel_rfl) (by rfl) ?_ ?_ ?_ ?_ ?_ ?_ ?_
  ·kernel_rfl
  ·exact of_decide_eq_true (by kernel_rfl)
  ·(repeat refine all_cons ⟨_,by rfl,by rfl⟩ ?_);exact all_nil
  ·kernel_rfl
  ·(repeat (refine all_cons ?_ ?_;rotate_left));exact all_nil
   all_goals try exact Jm _ (by rfl)
   ·exact Wt _ _ _ _ _ _ _ (by rfl) (by rfl) Jg (fun ρ w kn hs=>Jb (kn _ _ (F.old (by rfl) rfl)))
   ·exact Wt _ _ _ _ _ _ _ (by rfl) (by rfl) Jg (fun ρ w kn hs=>Jb (kn _ _ (F.old (by rfl) rfl)))
   ·exact crS (fun ρ w kn hs=>Kv hlt (by rw [← hpa];exact (kn _ _ (kc 3 34))) (kn _ _ (kc 4 35)))
  ·(repeat (refine all_cons ?_ ?_;rotate_left));exact all_nil
   all_goals try exact sA
   ·exact fun _=>Um _ _ _ _ _ _ (by rfl) (by rfl) (fun ρ w kn hb=>Js (kn _ _ (F.old (by rfl) rfl)) ((HM.on hb).get 4 rfl))
   ·exact fun _=>Um _ _ _ _ _ _ (by rfl) (by rfl) (fun ρ w kn hb=>Jp (kn _ _ (F.old (by rfl) rfl)) ((HM.on hb).get 1 rfl))
   ·exact fun _=>Um _ _ _ _ _ _ (by rfl) (by rfl) (fun ρ w kn hb=>Js (kn _ _ (F.old (by rfl) rfl)) ((HM.on hb).get 4 rfl))
   ·exact fun _=>Um _ _ _ _ _ _ (by rfl) (by rfl) (fun ρ w kn hb=>Kh (kn _ _ (kc 5 36)) (hc _ (HM.on hb).bel))
   ·exact fun _=>Um _ _ _ _ _ _ (by rfl) (by rfl) (fun ρ w kn hb=>Jp (kn _ _ (F.old (by rfl) rfl)) ((HM.on hb).get 0 rfl))
   ·exact fun _=>Jl _ 106 _ _ [.tmp 33,.tmp 37,.tmp 38] _ _ _ _ _ _ _ (by rfl) Tryz.func106 (by kernel_rfl) (by rfl) (by rfl) (Jg) (.cons (kc 2 33) (.cons (kc 6 37) (.cons (kc 7 38) .nil))) ((Wk P Q G H x pw hQ h1 hxQ hpQ))
   ·exact fun _=>Jl _ 105 _ _ [.tmp 31,.tmp 32,.tmp 39] _ _ _ _ _ _ _ (by rfl) Tryz.func105 (by kernel_rfl) (by rfl) (by rfl) (Jg) (.cons (kc 0 31) (.cons (kc 1 32) (.cons (kc 8 39) .nil))) ((Jer P Q G H S (x*pw%Q) hQ h1 hSQ hm))
  intro gs rs a w hgs hrs F HM HBW HR HO HT
  obtain rfl:=nl0 rs hrs
  obtain rfl:=nl0 gs hgs
  clear hrs hgs HR HBW HO
  clear HT
  refine Kn (i:=10) HM (by kernel_rfl) (by rfl) rfl rfl (k:=1) rfl (Jq (F.ev rfl) (F.ev rfl) (HM.get 1 rfl)) (M2:=[(gp,24,ncs pw),(gs,24,ncs (((S+x*pw%Q)%Q))),(go,24,ncs 0),(gx,24,ncs X),(gg,26,gcs P Q G H)]) (rfl) (fun _ _=>trivial) fun w HM=>?_
  refine Ks (by kernel_rfl) ?_ _
  refine Kgr ?_
  refine lxv (grp P Q G H) F (Js (F.ev rfl) (HM.get 4 rfl)) fun a F=>?_
  refine lxv (num pw) F (Jp (F.ev rfl) (HM.get 0 rfl)) fun a F=>?_
  refine lxv (num X) F (Jp (F.ev rfl) (HM.get 3 rfl)) fun a F=>?_
  refine Jj F (Ja rfl _) rfl (by rfl) (Jh Tryz.func106 (by kernel_rfl) (by rfl) (.cons (F.ev rfl) (.cons (F.ev rfl) (.cons (F.ev rfl) .nil))) _) ((Wk P Q G H pw X hQ h1 hpQ hXQ) _) fun a w z F=>?_
  replace HM:=HM.on z
  clear z
  refine Jv F HM (Ja rfl _) rfl (k:=0) rfl (Jq (F.ev rfl) (F.ev rfl) (HM.get 0 rfl)) (M2:=[(gp,24,ncs ((pw*X%Q))),(gs,24,ncs (((S+x*pw%Q)%Q))),(go,24,ncs 0),(gx,24,ncs X),(gg,26,gcs P Q G H)]) (rfl) fun w HM=>?_
  refine Jc ?_
  refine Kgr ?_
  refine lxv (.int .i64 (i:Nat)) F (Jb (F.ev rfl)) fun a F=>?_
  refine lxv (.int .i64 ((i+1:Nat):Int)) F (Jz (u:=.int .i64 (i:Nat)) (v:=.int .i64 1) (fun ρ hx hy=>by simp only [execOp,hx,hy];simp [go_sem,hwr]) (F.ev rfl) rfl) fun a F=>?_
  refine lxv (.int .i64 ((i+1:Nat):Int)) F (Je (F.ev rfl)) fun a F=>?_
  refine Jc ?_
  refine Ku ?_
  refine ⟨⟨i+1,_,_,by omega,?_,by rw [hpw];exact power_val h1 hXQ,F.sub [10,1,3,5,6,7,8,9],HM⟩,?_⟩
  ·rw [htk,grown_val h1 hxQ,htl,← hS,← hpw]
  ·show n-(intOf (a.tmps.getD 10 undef)).toNat<n-(intOf (aS.tmps.getD 10 undef)).toNat
   rw [F.get 10 _ rfl,FS.get 10 _ rfl]
   show n-((i+1:Nat):Int).toNat<n-((i:Nat):Int).toNat
   omega
 ·refine Kgr ?_
  refine lxv (.int .i64 (i:Nat)) F (Jb (F.ev rfl)) fun a F=>?_
  refine lxv (.slice pa n cap) F (Jb (F.ev rfl)) fun a F=>?_
  refine lxv (.int .i64 (n:Nat)) F (Ko (F.ev rfl)) fun a F=>?_
  refine lxv (.bool false) F (Jz (u:=.int .i64 (i:Nat)) (v:=.int .i64 (n:Nat)) (fun ρ hx hy=>by simp only [execOp,hx,hy];simp [go_sem];omega) (F.ev rfl) (F.ev rfl)) fun a F=>?_
  refine Jc ?_
  refine Kgq ?_
  refine wp_cond_false (F.ev rfl) ?_
  refine Kgq ?_
  refine wp_exit ?_
  repeat (first | refine Kk ?_ | refine Kd ?_)
  rw [List.take_of_length_le (by have:=r.1;omega)] at hS
  subst hS
  refine Kgr ?_
  refine lxv (num (Uq Q (evZ (zs xs) X))) F (Jp (F.ev rfl) (HM.get 1 rfl)) fun a F=>?_
  refine Jv F HM (Ja rfl _) rfl (k:=2) rfl (Jq (F.ev rfl) (F.ev rfl) (HM.get 2 rfl)) (M2:=[(gp,24,ncs pw),(gs,24,ncs (Uq Q (evZ (zs xs) X))),(go,24,ncs (Uq Q (evZ (zs xs) X))),(gx,24,ncs X),(gg,26,gcs P Q G H)]) (rfl) fun w HM=>?_
  refine lxv (.int .i64 0) F (Je rfl) fun a F=>?_
  refine Jc ?_
  refine Kgq ?_
  refine wp_ret ?_
  repeat (first | refine Jt ?_ | refine Jo ?_)
  exact Kp F HM (Wh F (s:=6) (t:=7) rfl rfl rfl (HM.get 2 rfl))

theorem rat_yes (P Q G H X n cap:Nat) (pa:Option Addr) (xs:List Nat) (w0:World) (hQ:Q<2^256) (hX:X<2^256) (r:RN w0.heap.size w0 pa n cap xs) (h:atB Q X xs=true):Calls Tryz.prog 23 #[grp P Q G H,.slice pa n cap,num X] w0 fun e w'=>e=.returned (.tuple #[num (Uq Q (evZ (zs xs) X)),.int .i64 0])∧Below w0.heap.size w0 w':=by
 obtain ⟨h1,h2,h3⟩:=atB_iff.1 h
 unfold atB at h
 rw [Bool.and_eq_true] at h
 exact rat_y P Q G H X n cap pa xs w0 hQ hX r (by rw [decide_eq_true h1,h.2];rfl) h1 h2 h3
theorem rat_no (P Q G H X n cap:Nat) (pa:Option Addr) (xs:List Nat) (w0:World) (hQ:Q<2^256) (hX:X<2^256) (r:RN w0.heap.size w0 pa n cap xs) (h:atB Q X xs=false):Calls Tryz.prog 23 #[grp P Q G H,.slice pa n cap,num X] w0 fun e w'=>e=.returned (.tuple #[num 0,.int .i64 1])∧Below w0.heap.size w0 w':=by
 by_cases ha:(decide (1<Q) && Vz Q xs)=true
 ·refine rat_n2 P Q G H X n cap pa xs w0 hQ hX r ha fun hx=>?_
  rw [Bool.and_eq_true,decide_eq_true_eq] at ha
  have:atB Q X xs=true:=atB_iff.2 ⟨hx.1,hx.2,fun c hc=>(Jee ha.2 c hc).2⟩
  rw [this] at h;cases h
 ·exact rat_n1 P Q G H X n cap pa xs w0 hQ hX r (Bool.eq_false_iff.2 ha)
end Go.Proofs.YtmmgmljkmmgjdaaGreatDoor
