import Derived.Deep.Cut
import Derived.Test.YtmmgmljkmmgjdaaGreatDoorMMod11
import Derived.Test.YtmmgmljkmmgjdaaGreatDoorMRDiv
import Derived.Test.YtmmgmljkmmgjdaaGreatDoorMRWWord
import Derived.Test.YtmmgmljkmmgjdaaGreatDoorMRWide
import Derived.Test.YtmmgmljkmmgjdaaGreatDoorMRbits
import Derived.Test.YtmmgmljkmmgjdaaGreatDoorMRefE
import Derived.Test.YtmmgmljkmmgjdaaGreatDoorMSxS
import Derived.Test.YtmmgmljkmmgjdaaGreatDoorMTree
namespace Go.Proofs.YtmmgmljkmmgjdaaGreatDoor
set_option maxRecDepth 100000
set_option maxHeartbeats 8000000
open Go.RowKit
set_option linter.unusedSimpArgs false
set_option linter.unusedVariables false
attribute [local go_sem ↓] Go.wp_at_zero Go.wp_at_succ

theorem rcom_any (X Y:Nat) (hX:X<2^256) (hY:Y<2^256) (w:World):Calls Tryz.prog 211 #[num X,num Y] w fun e w'=>e=.returned (num (Nat.gcd X Y))∧Below w.heap.size w w':=by
 refine rcommon_any (fun A B hA hB h0=>?_) X Y hX hY w
 have hB0:0<B:=by omega
 exact ⟨A/B,A%B,Nat.mod_lt _ hB0,by rw [Nat.mul_comm];exact (Nat.div_add_mod _ _).symm,fun w=>Jdt A B hA hB h0 w⟩
theorem s_add (P Q G H A B V:Nat) (er:Int)
  (c1:∀ w,Calls Tryz.prog 190 #[num A,num B,num Q] w fun e w'=>e=.returned (.tuple #[num V,.int .i64 er])∧Below w.heap.size w w')
  (w:World):Calls Tryz.prog 160 #[grp P Q G H,num A,num B] w fun e w'=>e=.returned (.tuple #[num V,.int .i64 er])∧Below w.heap.size w w':=by
 refine Jx (args:=[grp P Q G H,num A,num B]) Tryz.func160 rfl Tryz.ntmps160 (by rfl) fun a F HM=>?_
 refine Kgr ?_
 refine Jn F HM (Ja rfl _) rfl (by rfl) (Km (F.ev rfl)) fun a w gg F HM=>?_
 refine Jn F HM (Ja rfl _) rfl (by rfl) (Kw (F.ev rfl)) fun a w ga F HM=>?_
 refine Jn F HM (Ja rfl _) rfl (by rfl) (Kw (F.ev rfl)) fun a w gb F HM=>?_
 refine Jn F HM (Ja rfl _) rfl (by rfl) (Jw) fun a w go F HM=>?_
 refine lxv (.int .i64 0) F (Je rfl) fun a F=>?_
 refine Jc ?_
 refine Kgr ?_
 refine lxv (num A) F (Jp (F.ev rfl) (HM.get 2 rfl)) fun a F=>?_
 refine lxv (num B) F (Jp (F.ev rfl) (HM.get 1 rfl)) fun a F=>?_
 refine lxv (.pointer (some ⟨gg,4,none⟩)) F (Ug (F.ev rfl)) fun a F=>?_
 refine lxv (num Q) F (Ur (F.ev rfl) (HM.get 3 rfl)) fun a F=>?_
 refine Jj F (Ja rfl _) rfl (by rfl) (Jh Tryz.func190 (by kernel_rfl) (by rfl) (.cons (F.ev rfl) (.cons (F.ev rfl) (.cons (F.ev rfl) .nil))) _) (c1 _) fun a w z F=>?_
 replace HM:=HM.on z
 clear z
 refine lxv (num V) F (Jk (F.ev rfl) rfl) fun a F=>?_
 refine lxv (.int .i64 er) F (Jk (F.ev rfl) rfl) fun a F=>?_
 refine Jv F HM (Ja rfl _) rfl (k:=0) rfl (Jq (F.ev rfl) (F.ev rfl) (HM.get 0 rfl)) (M2:=[(go,24,ncs V),(gb,24,ncs B),(ga,24,ncs A),(gg,26,gcs P Q G H)]) rfl fun w HM=>?_
 refine lxv (.int .i64 er) F (Je (F.ev rfl)) fun a F=>?_
 refine Jc ?_
 refine Kgq ?_
 refine wp_ret ?_
 repeat (first | refine Jt ?_ | refine Jo ?_)
 exact Kp F HM (Wh F (s:=6) (t:=7) rfl rfl rfl (HM.get 0 rfl))

theorem r9_add (P Q G H A B V:Nat) (er:Int)
  (c1:∀ w,Calls Tryz.prog 193 #[num A,num B,num Q] w fun e w'=>e=.returned (.tuple #[num V,.int .i64 er])∧Below w.heap.size w w')
  (w:World):Calls Tryz.prog 166 #[grp P Q G H,num A,num B] w fun e w'=>e=.returned (.tuple #[num V,.int .i64 er])∧Below w.heap.size w w':=by
 refine Jx (args:=[grp P Q G H,num A,num B]) Tryz.func166 rfl Tryz.ntmps166 (by rfl) fun a F HM=>?_
 refine Kgr ?_
 refine Jn F HM (Ja rfl _) rfl (by rfl) (Km (F.ev rfl)) fun a w gg F HM=>?_
 refine Jn F HM (Ja rfl _) rfl (by rfl) (Kw (F.ev rfl)) fun a w ga F HM=>?_
 refine Jn F HM (Ja rfl _) rfl (by rfl) (Kw (F.ev rfl)) fun a w gb F HM=>?_
 refine Jn F HM (Ja rfl _) rfl (by rfl) (Jw) fun a w go F HM=>?_
 refine lxv (.int .i64 0) F (Je rfl) fun a F=>?_
 refine Jc ?_
 refine Kgr ?_
 refine lxv (num A) F (Jp (F.ev rfl) (HM.get 2 rfl)) fun a F=>?_
 refine lxv (num B) F (Jp (F.ev rfl) (HM.get 1 rfl)) fun a F=>?_
 refine lxv (.pointer (some ⟨gg,4,none⟩)) F (Ug (F.ev rfl)) fun a F=>?_
 refine lxv (num Q) F (Ur (F.ev rfl) (HM.get 3 rfl)) fun a F=>?_
 refine Jj F (Ja rfl _) rfl (by rfl) (Jh Tryz.func193 (by kernel_rfl) (by rfl) (.cons (F.ev rfl) (.cons (F.ev rfl) (.cons (F.ev rfl) .nil))) _) (c1 _) fun a w z F=>?_
 replace HM:=HM.on z
 clear z
 refine lxv (num V) F (Jk (F.ev rfl) rfl) fun a F=>?_
 refine lxv (.int .i64 er) F (Jk (F.ev rfl) rfl) fun a F=>?_
 refine Jv F HM (Ja rfl _) rfl (k:=0) rfl (Jq (F.ev rfl) (F.ev rfl) (HM.get 0 rfl)) (M2:=[(go,24,ncs V),(gb,24,ncs B),(ga,24,ncs A),(gg,26,gcs P Q G H)]) rfl fun w HM=>?_
 refine lxv (.int .i64 er) F (Je (F.ev rfl)) fun a F=>?_
 refine Jc ?_
 refine Kgq ?_
 refine wp_ret ?_
 repeat (first | refine Jt ?_ | refine Jo ?_)
 exact Kp F HM (Wh F (s:=6) (t:=7) rfl rfl rfl (HM.get 0 rfl))

theorem s_sub (P Q G H A B V:Nat) (er:Int)
  (c1:∀ w,Calls Tryz.prog 165 #[num A,num B,num Q] w fun e w'=>e=.returned (.tuple #[num V,.int .i64 er])∧Below w.heap.size w w')
  (w:World):Calls Tryz.prog 100 #[grp P Q G H,num A,num B] w fun e w'=>e=.returned (.tuple #[num V,.int .i64 er])∧Below w.heap.size w w':=by
 refine Jx (args:=[grp P Q G H,num A,num B]) Tryz.func100 rfl Tryz.ntmps100 (by rfl) fun a F HM=>?_
 refine Kgr ?_
 refine Jn F HM (Ja rfl _) rfl (by rfl) (Km (F.ev rfl)) fun a w gg F HM=>?_
 refine Jn F HM (Ja rfl _) rfl (by rfl) (Kw (F.ev rfl)) fun a w ga F HM=>?_
 refine Jn F HM (Ja rfl _) rfl (by rfl) (Kw (F.ev rfl)) fun a w gb F HM=>?_
 refine Jn F HM (Ja rfl _) rfl (by rfl) (Jw) fun a w go F HM=>?_
 refine lxv (.int .i64 0) F (Je rfl) fun a F=>?_
 refine Jc ?_
 refine Kgr ?_
 refine lxv (num A) F (Jp (F.ev rfl) (HM.get 2 rfl)) fun a F=>?_
 refine lxv (num B) F (Jp (F.ev rfl) (HM.get 1 rfl)) fun a F=>?_
 refine lxv (.pointer (some ⟨gg,4,none⟩)) F (Ug (F.ev rfl)) fun a F=>?_
 refine lxv (num Q) F (Ur (F.ev rfl) (HM.get 3 rfl)) fun a F=>?_
 refine Jj F (Ja rfl _) rfl (by rfl) (Jh Tryz.func165 (by kernel_rfl) (by rfl) (.cons (F.ev rfl) (.cons (F.ev rfl) (.cons (F.ev rfl) .nil))) _) (c1 _) fun a w z F=>?_
 replace HM:=HM.on z
 clear z
 refine lxv (num V) F (Jk (F.ev rfl) rfl) fun a F=>?_
 refine lxv (.int .i64 er) F (Jk (F.ev rfl) rfl) fun a F=>?_
 refine Jv F HM (Ja rfl _) rfl (k:=0) rfl (Jq (F.ev rfl) (F.ev rfl) (HM.get 0 rfl)) (M2:=[(go,24,ncs V),(gb,24,ncs B),(ga,24,ncs A),(gg,26,gcs P Q G H)]) rfl fun w HM=>?_
 refine lxv (.int .i64 er) F (Je (F.ev rfl)) fun a F=>?_
 refine Jc ?_
 refine Kgq ?_
 refine wp_ret ?_
 repeat (first | refine Jt ?_ | refine Jo ?_)
 exact Kp F HM (Wh F (s:=6) (t:=7) rfl rfl rfl (HM.get 0 rfl))

theorem r9_sub (P Q G H A B V:Nat) (er:Int)
  (c1:∀ w,Calls Tryz.prog 195 #[num A,num B,num Q] w fun e w'=>e=.returned (.tuple #[num V,.int .i64 er])∧Below w.heap.size w w')
  (w:World):Calls Tryz.prog 169 #[grp P Q G H,num A,num B] w fun e w'=>e=.returned (.tuple #[num V,.int .i64 er])∧Below w.heap.size w w':=by
 refine Jx (args:=[grp P Q G H,num A,num B]) Tryz.func169 rfl Tryz.ntmps169 (by rfl) fun a F HM=>?_
 refine Kgr ?_
 refine Jn F HM (Ja rfl _) rfl (by rfl) (Km (F.ev rfl)) fun a w gg F HM=>?_
 refine Jn F HM (Ja rfl _) rfl (by rfl) (Kw (F.ev rfl)) fun a w ga F HM=>?_
 refine Jn F HM (Ja rfl _) rfl (by rfl) (Kw (F.ev rfl)) fun a w gb F HM=>?_
 refine Jn F HM (Ja rfl _) rfl (by rfl) (Jw) fun a w go F HM=>?_
 refine lxv (.int .i64 0) F (Je rfl) fun a F=>?_
 refine Jc ?_
 refine Kgr ?_
 refine lxv (num A) F (Jp (F.ev rfl) (HM.get 2 rfl)) fun a F=>?_
 refine lxv (num B) F (Jp (F.ev rfl) (HM.get 1 rfl)) fun a F=>?_
 refine lxv (.pointer (some ⟨gg,4,none⟩)) F (Ug (F.ev rfl)) fun a F=>?_
 refine lxv (num Q) F (Ur (F.ev rfl) (HM.get 3 rfl)) fun a F=>?_
 refine Jj F (Ja rfl _) rfl (by rfl) (Jh Tryz.func195 (by kernel_rfl) (by rfl) (.cons (F.ev rfl) (.cons (F.ev rfl) (.cons (F.ev rfl) .nil))) _) (c1 _) fun a w z F=>?_
 replace HM:=HM.on z
 clear z
 refine lxv (num V) F (Jk (F.ev rfl) rfl) fun a F=>?_
 refine lxv (.int .i64 er) F (Jk (F.ev rfl) rfl) fun a F=>?_
 refine Jv F HM (Ja rfl _) rfl (k:=0) rfl (Jq (F.ev rfl) (F.ev rfl) (HM.get 0 rfl)) (M2:=[(go,24,ncs V),(gb,24,ncs B),(ga,24,ncs A),(gg,26,gcs P Q G H)]) rfl fun w HM=>?_
 refine lxv (.int .i64 er) F (Je (F.ev rfl)) fun a F=>?_
 refine Jc ?_
 refine Kgq ?_
 refine wp_ret ?_
 repeat (first | refine Jt ?_ | refine Jo ?_)
 exact Kp F HM (Wh F (s:=6) (t:=7) rfl rfl rfl (HM.get 0 rfl))

theorem s_mul (P Q G H A B V:Nat) (er:Int)
  (c1:∀ w,Calls Tryz.prog 118 #[num A,num B,num Q] w fun e w'=>e=.returned (.tuple #[num V,.int .i64 er])∧Below w.heap.size w w')
  (w:World):Calls Tryz.prog 163 #[grp P Q G H,num A,num B] w fun e w'=>e=.returned (.tuple #[num V,.int .i64 er])∧Below w.heap.size w w':=by
 refine Jx (args:=[grp P Q G H,num A,num B]) Tryz.func163 rfl Tryz.ntmps163 (by rfl) fun a F HM=>?_
 refine Kgr ?_
 refine Jn F HM (Ja rfl _) rfl (by rfl) (Km (F.ev rfl)) fun a w gg F HM=>?_
 refine Jn F HM (Ja rfl _) rfl (by rfl) (Kw (F.ev rfl)) fun a w ga F HM=>?_
 refine Jn F HM (Ja rfl _) rfl (by rfl) (Kw (F.ev rfl)) fun a w gb F HM=>?_
 refine Jn F HM (Ja rfl _) rfl (by rfl) (Jw) fun a w go F HM=>?_
 refine lxv (.int .i64 0) F (Je rfl) fun a F=>?_
 refine Jc ?_
 refine Kgr ?_
 refine lxv (num A) F (Jp (F.ev rfl) (HM.get 2 rfl)) fun a F=>?_
 refine lxv (num B) F (Jp (F.ev rfl) (HM.get 1 rfl)) fun a F=>?_
 refine lxv (.pointer (some ⟨gg,4,none⟩)) F (Ug (F.ev rfl)) fun a F=>?_
 refine lxv (num Q) F (Ur (F.ev rfl) (HM.get 3 rfl)) fun a F=>?_
 refine Jj F (Ja rfl _) rfl (by rfl) (Jh Tryz.func118 (by kernel_rfl) (by rfl) (.cons (F.ev rfl) (.cons (F.ev rfl) (.cons (F.ev rfl) .nil))) _) (c1 _) fun a w z F=>?_
 replace HM:=HM.on z
 clear z
 refine lxv (num V) F (Jk (F.ev rfl) rfl) fun a F=>?_
 refine lxv (.int .i64 er) F (Jk (F.ev rfl) rfl) fun a F=>?_
 refine Jv F HM (Ja rfl _) rfl (k:=0) rfl (Jq (F.ev rfl) (F.ev rfl) (HM.get 0 rfl)) (M2:=[(go,24,ncs V),(gb,24,ncs B),(ga,24,ncs A),(gg,26,gcs P Q G H)]) rfl fun w HM=>?_
 refine lxv (.int .i64 er) F (Je (F.ev rfl)) fun a F=>?_
 refine Jc ?_
 refine Kgq ?_
 refine wp_ret ?_
 repeat (first | refine Jt ?_ | refine Jo ?_)
 exact Kp F HM (Wh F (s:=6) (t:=7) rfl rfl rfl (HM.get 0 rfl))

theorem r9_mul (P Q G H A B V:Nat) (er:Int)
  (c1:∀ w,Calls Tryz.prog 125 #[num A,num B,num Q] w fun e w'=>e=.returned (.tuple #[num V,.int .i64 er])∧Below w.heap.size w w')
  (w:World):Calls Tryz.prog 167 #[grp P Q G H,num A,num B] w fun e w'=>e=.returned (.tuple #[num V,.int .i64 er])∧Below w.heap.size w w':=by
 refine Jx (args:=[grp P Q G H,num A,num B]) Tryz.func167 rfl Tryz.ntmps167 (by rfl) fun a F HM=>?_
 refine Kgr ?_
 refine Jn F HM (Ja rfl _) rfl (by rfl) (Km (F.ev rfl)) fun a w gg F HM=>?_
 refine Jn F HM (Ja rfl _) rfl (by rfl) (Kw (F.ev rfl)) fun a w ga F HM=>?_
 refine Jn F HM (Ja rfl _) rfl (by rfl) (Kw (F.ev rfl)) fun a w gb F HM=>?_
 refine Jn F HM (Ja rfl _) rfl (by rfl) (Jw) fun a w go F HM=>?_
 refine lxv (.int .i64 0) F (Je rfl) fun a F=>?_
 refine Jc ?_
 refine Kgr ?_
 refine lxv (num A) F (Jp (F.ev rfl) (HM.get 2 rfl)) fun a F=>?_
 refine lxv (num B) F (Jp (F.ev rfl) (HM.get 1 rfl)) fun a F=>?_
 refine lxv (.pointer (some ⟨gg,4,none⟩)) F (Ug (F.ev rfl)) fun a F=>?_
 refine lxv (num Q) F (Ur (F.ev rfl) (HM.get 3 rfl)) fun a F=>?_
 refine Jj F (Ja rfl _) rfl (by rfl) (Jh Tryz.func125 (by kernel_rfl) (by rfl) (.cons (F.ev rfl) (.cons (F.ev rfl) (.cons (F.ev rfl) .nil))) _) (c1 _) fun a w z F=>?_
 replace HM:=HM.on z
 clear z
 refine lxv (num V) F (Jk (F.ev rfl) rfl) fun a F=>?_
 refine lxv (.int .i64 er) F (Jk (F.ev rfl) rfl) fun a F=>?_
 refine Jv F HM (Ja rfl _) rfl (k:=0) rfl (Jq (F.ev rfl) (F.ev rfl) (HM.get 0 rfl)) (M2:=[(go,24,ncs V),(gb,24,ncs B),(ga,24,ncs A),(gg,26,gcs P Q G H)]) rfl fun w HM=>?_
 refine lxv (.int .i64 er) F (Je (F.ev rfl)) fun a F=>?_
 refine Jc ?_
 refine Kgq ?_
 refine wp_ret ?_
 repeat (first | refine Jt ?_ | refine Jo ?_)
 exact Kp F HM (Wh F (s:=6) (t:=7) rfl rfl rfl (HM.get 0 rfl))

theorem s_inv (P Q G H A V:Nat) (er:Int)
  (c1:∀ w,Calls Tryz.prog 191 #[num A,num Q] w fun e w'=>e=.returned (.tuple #[num V,.int .i64 er])∧Below w.heap.size w w')
  (w:World):Calls Tryz.prog 164 #[grp P Q G H,num A] w fun e w'=>e=.returned (.tuple #[num V,.int .i64 er])∧Below w.heap.size w w':=by
 refine Jx (args:=[grp P Q G H,num A]) Tryz.func164 rfl Tryz.ntmps164 (by rfl) fun a F HM=>?_
 refine Kgr ?_
 refine Jn F HM (Ja rfl _) rfl (by rfl) (Km (F.ev rfl)) fun a w gg F HM=>?_
 refine Jn F HM (Ja rfl _) rfl (by rfl) (Kw (F.ev rfl)) fun a w ga F HM=>?_
 refine Jn F HM (Ja rfl _) rfl (by rfl) (Jw) fun a w go F HM=>?_
 refine lxv (.int .i64 0) F (Je rfl) fun a F=>?_
 refine Jc ?_
 refine Kgr ?_
 refine lxv (num A) F (Jp (F.ev rfl) (HM.get 1 rfl)) fun a F=>?_
 refine lxv (.pointer (some ⟨gg,4,none⟩)) F (Ug (F.ev rfl)) fun a F=>?_
 refine lxv (num Q) F (Ur (F.ev rfl) (HM.get 2 rfl)) fun a F=>?_
 refine Jj F (Ja rfl _) rfl (by rfl) (Jh Tryz.func191 (by kernel_rfl) (by rfl) (.cons (F.ev rfl) (.cons (F.ev rfl) .nil)) _) (c1 _) fun a w z F=>?_
 replace HM:=HM.on z
 clear z
 refine lxv (num V) F (Jk (F.ev rfl) rfl) fun a F=>?_
 refine lxv (.int .i64 er) F (Jk (F.ev rfl) rfl) fun a F=>?_
 refine Jv F HM (Ja rfl _) rfl (k:=0) rfl (Jq (F.ev rfl) (F.ev rfl) (HM.get 0 rfl)) (M2:=[(go,24,ncs V),(ga,24,ncs A),(gg,26,gcs P Q G H)]) rfl fun w HM=>?_
 refine lxv (.int .i64 er) F (Je (F.ev rfl)) fun a F=>?_
 refine Jc ?_
 refine Kgq ?_
 refine wp_ret ?_
 repeat (first | refine Jt ?_ | refine Jo ?_)
 exact Kp F HM (Wh F (s:=4) (t:=5) rfl rfl rfl (HM.get 0 rfl))

theorem r9_inv (P Q G H A V:Nat) (er:Int)
  (c1:∀ w,Calls Tryz.prog 194 #[num A,num Q] w fun e w'=>e=.returned (.tuple #[num V,.int .i64 er])∧Below w.heap.size w w')
  (w:World):Calls Tryz.prog 168 #[grp P Q G H,num A] w fun e w'=>e=.returned (.tuple #[num V,.int .i64 er])∧Below w.heap.size w w':=by
 refine Jx (args:=[grp P Q G H,num A]) Tryz.func168 rfl Tryz.ntmps168 (by rfl) fun a F HM=>?_
 refine Kgr ?_
 refine Jn F HM (Ja rfl _) rfl (by rfl) (Km (F.ev rfl)) fun a w gg F HM=>?_
 refine Jn F HM (Ja rfl _) rfl (by rfl) (Kw (F.ev rfl)) fun a w ga F HM=>?_
 refine Jn F HM (Ja rfl _) rfl (by rfl) (Jw) fun a w go F HM=>?_
 refine lxv (.int .i64 0) F (Je rfl) fun a F=>?_
 refine Jc ?_
 refine Kgr ?_
 refine lxv (num A) F (Jp (F.ev rfl) (HM.get 1 rfl)) fun a F=>?_
 refine lxv (.pointer (some ⟨gg,4,none⟩)) F (Ug (F.ev rfl)) fun a F=>?_
 refine lxv (num Q) F (Ur (F.ev rfl) (HM.get 2 rfl)) fun a F=>?_
 refine Jj F (Ja rfl _) rfl (by rfl) (Jh Tryz.func194 (by kernel_rfl) (by rfl) (.cons (F.ev rfl) (.cons (F.ev rfl) .nil)) _) (c1 _) fun a w z F=>?_
 replace HM:=HM.on z
 clear z
 refine lxv (num V) F (Jk (F.ev rfl) rfl) fun a F=>?_
 refine lxv (.int .i64 er) F (Jk (F.ev rfl) rfl) fun a F=>?_
 refine Jv F HM (Ja rfl _) rfl (k:=0) rfl (Jq (F.ev rfl) (F.ev rfl) (HM.get 0 rfl)) (M2:=[(go,24,ncs V),(ga,24,ncs A),(gg,26,gcs P Q G H)]) rfl fun w HM=>?_
 refine lxv (.int .i64 er) F (Je (F.ev rfl)) fun a F=>?_
 refine Jc ?_
 refine Kgq ?_
 refine wp_ret ?_
 repeat (first | refine Jt ?_ | refine Jo ?_)
 exact Kp F HM (Wh F (s:=4) (t:=5) rfl rfl rfl (HM.get 0 rfl))

theorem Jds (P Q G H A B:Nat) (hQ:Q<2^256) (h1:1<Q) (hA:A<Q) (hB:B<Q):∀ w,Calls Tryz.prog 160 #[grp P Q G H,num A,num B] w fun e w'=>e=.returned (.tuple #[num ((A+B)%Q),.int .i64 0])∧Below w.heap.size w w':=fun w=>s_add P Q G H A B _ _ (madd_yes A B Q hQ h1 hA hB) w
theorem Jhc (P Q G H A B:Nat) (hQ:Q<2^256) (hA:A<2^256) (hB:B<2^256) (h:¬ (1<Q∧A<Q∧B<Q)):∀ w,Calls Tryz.prog 160 #[grp P Q G H,num A,num B] w fun e w'=>e=.returned (.tuple #[num 0,.int .i64 1])∧Below w.heap.size w w':=fun w=>s_add P Q G H A B _ _ (madd_no A B Q hA hB hQ h) w
theorem Jdq (P Q G H A B:Nat) (hQ:Q<2^256) (h1:1<Q) (hA:A<Q) (hB:B<Q):∀ w,Calls Tryz.prog 100 #[grp P Q G H,num A,num B] w fun e w'=>e=.returned (.tuple #[num ((A+Q-B)%Q),.int .i64 0])∧Below w.heap.size w w':=fun w=>s_sub P Q G H A B _ _ (msub_yes A B Q hQ h1 hA hB) w
theorem ssub_no (P Q G H A B:Nat) (hQ:Q<2^256) (hA:A<2^256) (hB:B<2^256) (h:¬ (1<Q∧A<Q∧B<Q)):∀ w,Calls Tryz.prog 100 #[grp P Q G H,num A,num B] w fun e w'=>e=.returned (.tuple #[num 0,.int .i64 1])∧Below w.heap.size w w':=fun w=>s_sub P Q G H A B _ _ (msub_no A B Q hA hB hQ h) w
theorem smul_yes (P Q G H A B:Nat) (hQ:Q<2^256) (h1:1<Q) (hA:A<Q) (hB:B<Q):∀ w,Calls Tryz.prog 163 #[grp P Q G H,num A,num B] w fun e w'=>e=.returned (.tuple #[num (A*B%Q),.int .i64 0])∧Below w.heap.size w w':=fun w=>s_mul P Q G H A B _ _ (mmul_yes A B Q hQ h1 hA hB) w
theorem sinv_yes (P Q G H A V:Nat) (hQ:Q<2^256) (h1:1<Q) (hA:A<Q) (hV:V<Q) (hAV:A*V%Q=1):∀ w,Calls Tryz.prog 164 #[grp P Q G H,num A] w fun e w'=>e=.returned (.tuple #[num V,.int .i64 0])∧Below w.heap.size w w':=fun w=>s_inv P Q G H A V _ (minv_yes A Q V hQ h1 hA hV hAV) w
theorem sinv_none (P Q G H A:Nat) (hQ:Q<2^256) (h1:1<Q) (hA:A<Q) (hg:Nat.gcd A Q≠1):∀ w,Calls Tryz.prog 164 #[grp P Q G H,num A] w fun e w'=>e=.returned (.tuple #[num 0,.int .i64 7])∧Below w.heap.size w w':=fun w=>s_inv P Q G H A 0 _ (minv_none A Q hQ h1 hA hg) w
end Go.Proofs.YtmmgmljkmmgjdaaGreatDoor
