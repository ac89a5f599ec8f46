import Derived.Laws.BitsAllLaws
import Derived.LoopN
import Derived.Deep.Cut
import Derived.Test.YtcbnmdkmfdjpiaaPBehN
import Derived.Test.YtcbnmdkmfdjpiaaPCell
import Derived.Test.YtcbnmdkmfdjpiaaPCommon
import Derived.Test.YtcbnmdkmfdjpiaaPCoreH
import Derived.Test.YtcbnmdkmfdjpiaaPMod11
import Derived.Test.YtcbnmdkmfdjpiaaPMod7
import Derived.Test.YtcbnmdkmfdjpiaaPRDiv
import Derived.Test.YtcbnmdkmfdjpiaaPShort
import Derived.Test.YtcbnmdkmfdjpiaaPSxS
namespace Go.Proofs.Ytcbnmdkmfdjpiaa
set_option maxRecDepth 100000
set_option maxHeartbeats 8000000
open Go.RowKit
set_option linter.unusedSimpArgs false
set_option linter.unusedVariables false

theorem bl_spec (X:Nat):X<2^Go.bitLen X∧(X≠0→2^(Go.bitLen X-1)≤X):=Go.bitLen_spec X
theorem s_add (P Q G H A B V:Nat) (er:Int)
  (c1:∀ w,Calls Try.prog 21 #[num A,num B,num Q] w fun e w'=>e=.returned (.tuple #[num V,.int .i64 er])∧Below w.heap.size w w')
  (w:World):Calls Try.prog 10 #[grp P Q G H,num A,num B] w fun e w'=>e=.returned (.tuple #[num V,.int .i64 er])∧Below w.heap.size w w':=by
 refine Kc (args:=[grp P Q G H,num A,num B]) Try.func10 rfl Try.ntmps10 (by rfl) fun a F HM=>?_
 refine Kgr ?_
 refine Jn F HM (Ja rfl _) rfl (by rfl) (Kn (F.ev rfl)) fun a w gg F HM=>?_
 refine Jn F HM (Ja rfl _) rfl (by rfl) (Wp (F.ev rfl)) fun a w ga F HM=>?_
 refine Jn F HM (Ja rfl _) rfl (by rfl) (Wp (F.ev rfl)) fun a w gb F HM=>?_
 refine Jn F HM (Ja rfl _) rfl (by rfl) (Kd) fun a w go F HM=>?_
 refine lxv (.int .i64 0) F (Jg rfl) fun a F=>?_
 refine Jf ?_
 refine Kgr ?_
 refine lxv (num A) F (Kg (F.ev rfl) (HM.get 2 rfl)) fun a F=>?_
 refine lxv (num B) F (Kg (F.ev rfl) (HM.get 1 rfl)) fun a F=>?_
 refine lxv (.pointer (some ⟨gg,4,none⟩)) F (Kh (F.ev rfl)) fun a F=>?_
 refine lxv (num Q) F (Va (F.ev rfl) (HM.get 3 rfl)) fun a F=>?_
 refine Jr F (Ja rfl _) rfl (by rfl) (Ji Try.func21 (by kernel_rfl) (by rfl) (.cons (F.ev rfl) (.cons (F.ev rfl) (.cons (F.ev rfl) .nil))) _) (c1 _) fun a w z F=>?_
 replace HM:=HM.on z
 clear z
 refine lxv (num V) F (Jk (F.ev rfl) rfl) fun a F=>?_
 refine lxv (.int .i64 er) F (Jk (F.ev rfl) rfl) fun a F=>?_
 refine Ju F HM (Ja rfl _) rfl (k:=0) rfl (Ka (F.ev rfl) (F.ev rfl) (HM.get 0 rfl)) (M2:=[(go,24,ncs V),(gb,24,ncs B),(ga,24,ncs A),(gg,26,gcs P Q G H)]) rfl fun w HM=>?_
 refine lxv (.int .i64 er) F (Jg (F.ev rfl)) fun a F=>?_
 refine Jf ?_
 refine Kgq ?_
 refine wp_ret ?_
 repeat (first | refine Jv ?_ | refine Jp ?_)
 exact Kv F HM (Jcj F (s:=6) (t:=7) rfl rfl rfl (HM.get 0 rfl))

theorem s_sub (P Q G H A B V:Nat) (er:Int)
  (c1:∀ w,Calls Try.prog 49 #[num A,num B,num Q] w fun e w'=>e=.returned (.tuple #[num V,.int .i64 er])∧Below w.heap.size w w')
  (w:World):Calls Try.prog 27 #[grp P Q G H,num A,num B] w fun e w'=>e=.returned (.tuple #[num V,.int .i64 er])∧Below w.heap.size w w':=by
 refine Kc (args:=[grp P Q G H,num A,num B]) Try.func27 rfl Try.ntmps27 (by rfl) fun a F HM=>?_
 refine Kgr ?_
 refine Jn F HM (Ja rfl _) rfl (by rfl) (Kn (F.ev rfl)) fun a w gg F HM=>?_
 refine Jn F HM (Ja rfl _) rfl (by rfl) (Wp (F.ev rfl)) fun a w ga F HM=>?_
 refine Jn F HM (Ja rfl _) rfl (by rfl) (Wp (F.ev rfl)) fun a w gb F HM=>?_
 refine Jn F HM (Ja rfl _) rfl (by rfl) (Kd) fun a w go F HM=>?_
 refine lxv (.int .i64 0) F (Jg rfl) fun a F=>?_
 refine Jf ?_
 refine Kgr ?_
 refine lxv (num A) F (Kg (F.ev rfl) (HM.get 2 rfl)) fun a F=>?_
 refine lxv (num B) F (Kg (F.ev rfl) (HM.get 1 rfl)) fun a F=>?_
 refine lxv (.pointer (some ⟨gg,4,none⟩)) F (Kh (F.ev rfl)) fun a F=>?_
 refine lxv (num Q) F (Va (F.ev rfl) (HM.get 3 rfl)) fun a F=>?_
 refine Jr F (Ja rfl _) rfl (by rfl) (Ji Try.func49 (by kernel_rfl) (by rfl) (.cons (F.ev rfl) (.cons (F.ev rfl) (.cons (F.ev rfl) .nil))) _) (c1 _) fun a w z F=>?_
 replace HM:=HM.on z
 clear z
 refine lxv (num V) F (Jk (F.ev rfl) rfl) fun a F=>?_
 refine lxv (.int .i64 er) F (Jk (F.ev rfl) rfl) fun a F=>?_
 refine Ju F HM (Ja rfl _) rfl (k:=0) rfl (Ka (F.ev rfl) (F.ev rfl) (HM.get 0 rfl)) (M2:=[(go,24,ncs V),(gb,24,ncs B),(ga,24,ncs A),(gg,26,gcs P Q G H)]) rfl fun w HM=>?_
 refine lxv (.int .i64 er) F (Jg (F.ev rfl)) fun a F=>?_
 refine Jf ?_
 refine Kgq ?_
 refine wp_ret ?_
 repeat (first | refine Jv ?_ | refine Jp ?_)
 exact Kv F HM (Jcj F (s:=6) (t:=7) rfl rfl rfl (HM.get 0 rfl))

theorem s_mul (P Q G H A B V:Nat) (er:Int)
  (c1:∀ w,Calls Try.prog 55 #[num A,num B,num Q] w fun e w'=>e=.returned (.tuple #[num V,.int .i64 er])∧Below w.heap.size w w')
  (w:World):Calls Try.prog 39 #[grp P Q G H,num A,num B] w fun e w'=>e=.returned (.tuple #[num V,.int .i64 er])∧Below w.heap.size w w':=by
 refine Kc (args:=[grp P Q G H,num A,num B]) Try.func39 rfl Try.ntmps39 (by rfl) fun a F HM=>?_
 refine Kgr ?_
 refine Jn F HM (Ja rfl _) rfl (by rfl) (Kn (F.ev rfl)) fun a w gg F HM=>?_
 refine Jn F HM (Ja rfl _) rfl (by rfl) (Wp (F.ev rfl)) fun a w ga F HM=>?_
 refine Jn F HM (Ja rfl _) rfl (by rfl) (Wp (F.ev rfl)) fun a w gb F HM=>?_
 refine Jn F HM (Ja rfl _) rfl (by rfl) (Kd) fun a w go F HM=>?_
 refine lxv (.int .i64 0) F (Jg rfl) fun a F=>?_
 refine Jf ?_
 refine Kgr ?_
 refine lxv (num A) F (Kg (F.ev rfl) (HM.get 2 rfl)) fun a F=>?_
 refine lxv (num B) F (Kg (F.ev rfl) (HM.get 1 rfl)) fun a F=>?_
 refine lxv (.pointer (some ⟨gg,4,none⟩)) F (Kh (F.ev rfl)) fun a F=>?_
 refine lxv (num Q) F (Va (F.ev rfl) (HM.get 3 rfl)) fun a F=>?_
 refine Jr F (Ja rfl _) rfl (by rfl) (Ji Try.func55 (by kernel_rfl) (by rfl) (.cons (F.ev rfl) (.cons (F.ev rfl) (.cons (F.ev rfl) .nil))) _) (c1 _) fun a w z F=>?_
 replace HM:=HM.on z
 clear z
 refine lxv (num V) F (Jk (F.ev rfl) rfl) fun a F=>?_
 refine lxv (.int .i64 er) F (Jk (F.ev rfl) rfl) fun a F=>?_
 refine Ju F HM (Ja rfl _) rfl (k:=0) rfl (Ka (F.ev rfl) (F.ev rfl) (HM.get 0 rfl)) (M2:=[(go,24,ncs V),(gb,24,ncs B),(ga,24,ncs A),(gg,26,gcs P Q G H)]) rfl fun w HM=>?_
 refine lxv (.int .i64 er) F (Jg (F.ev rfl)) fun a F=>?_
 refine Jf ?_
 refine Kgq ?_
 refine wp_ret ?_
 repeat (first | refine Jv ?_ | refine Jp ?_)
 exact Kv F HM (Jcj F (s:=6) (t:=7) rfl rfl rfl (HM.get 0 rfl))

theorem s_inv (P Q G H A V:Nat) (er:Int)
  (c1:∀ w,Calls Try.prog 54 #[num A,num Q] w fun e w'=>e=.returned (.tuple #[num V,.int .i64 er])∧Below w.heap.size w w')
  (w:World):Calls Try.prog 37 #[grp P Q G H,num A] w fun e w'=>e=.returned (.tuple #[num V,.int .i64 er])∧Below w.heap.size w w':=by
 refine Kc (args:=[grp P Q G H,num A]) Try.func37 rfl Try.ntmps37 (by rfl) fun a F HM=>?_
 refine Kgr ?_
 refine Jn F HM (Ja rfl _) rfl (by rfl) (Kn (F.ev rfl)) fun a w gg F HM=>?_
 refine Jn F HM (Ja rfl _) rfl (by rfl) (Wp (F.ev rfl)) fun a w ga F HM=>?_
 refine Jn F HM (Ja rfl _) rfl (by rfl) (Kd) fun a w go F HM=>?_
 refine lxv (.int .i64 0) F (Jg rfl) fun a F=>?_
 refine Jf ?_
 refine Kgr ?_
 refine lxv (num A) F (Kg (F.ev rfl) (HM.get 1 rfl)) fun a F=>?_
 refine lxv (.pointer (some ⟨gg,4,none⟩)) F (Kh (F.ev rfl)) fun a F=>?_
 refine lxv (num Q) F (Va (F.ev rfl) (HM.get 2 rfl)) fun a F=>?_
 refine Jr F (Ja rfl _) rfl (by rfl) (Ji Try.func54 (by kernel_rfl) (by rfl) (.cons (F.ev rfl) (.cons (F.ev rfl) .nil)) _) (c1 _) fun a w z F=>?_
 replace HM:=HM.on z
 clear z
 refine lxv (num V) F (Jk (F.ev rfl) rfl) fun a F=>?_
 refine lxv (.int .i64 er) F (Jk (F.ev rfl) rfl) fun a F=>?_
 refine Ju F HM (Ja rfl _) rfl (k:=0) rfl (Ka (F.ev rfl) (F.ev rfl) (HM.get 0 rfl)) (M2:=[(go,24,ncs V),(ga,24,ncs A),(gg,26,gcs P Q G H)]) rfl fun w HM=>?_
 refine lxv (.int .i64 er) F (Jg (F.ev rfl)) fun a F=>?_
 refine Jf ?_
 refine Kgq ?_
 refine wp_ret ?_
 repeat (first | refine Jv ?_ | refine Jp ?_)
 exact Kv F HM (Jcj F (s:=4) (t:=5) rfl rfl rfl (HM.get 0 rfl))

theorem Jau (P Q G H A B:Nat) (hQ:Q<2^256) (h1:1<Q) (hA:A<Q) (hB:B<Q):∀ w,Calls Try.prog 10 #[grp P Q G H,num A,num B] w fun e w'=>e=.returned (.tuple #[num ((A+B)%Q),.int .i64 0])∧Below w.heap.size w w':=fun w=>s_add P Q G H A B _ _ (madd_yes A B Q hQ h1 hA hB) w
theorem Jei (P Q G H A B:Nat) (hQ:Q<2^256) (hA:A<2^256) (hB:B<2^256) (h:¬ (1<Q∧A<Q∧B<Q)):∀ w,Calls Try.prog 10 #[grp P Q G H,num A,num B] w fun e w'=>e=.returned (.tuple #[num 0,.int .i64 1])∧Below w.heap.size w w':=fun w=>s_add P Q G H A B _ _ (madd_no A B Q hA hB hQ h) w
theorem ssub_yes (P Q G H A B:Nat) (hQ:Q<2^256) (h1:1<Q) (hA:A<Q) (hB:B<Q):∀ w,Calls Try.prog 27 #[grp P Q G H,num A,num B] w fun e w'=>e=.returned (.tuple #[num ((A+Q-B)%Q),.int .i64 0])∧Below w.heap.size w w':=fun w=>s_sub P Q G H A B _ _ (msub_yes A B Q hQ h1 hA hB) w
theorem ssub_no (P Q G H A B:Nat) (hQ:Q<2^256) (hA:A<2^256) (hB:B<2^256) (h:¬ (1<Q∧A<Q∧B<Q)):∀ w,Calls Try.prog 27 #[grp P Q G H,num A,num B] w fun e w'=>e=.returned (.tuple #[num 0,.int .i64 1])∧Below w.heap.size w w':=fun w=>s_sub P Q G H A B _ _ (msub_no A B Q hA hB hQ h) w
theorem Jdb (P Q G H A B:Nat) (hQ:Q<2^256) (h1:1<Q) (hA:A<Q) (hB:B<Q):∀ w,Calls Try.prog 39 #[grp P Q G H,num A,num B] w fun e w'=>e=.returned (.tuple #[num (A*B%Q),.int .i64 0])∧Below w.heap.size w w':=fun w=>s_mul P Q G H A B _ _ (mmul_yes A B Q hQ h1 hA hB) w
theorem sinv_yes (P Q G H A V:Nat) (hQ:Q<2^256) (h1:1<Q) (hA:A<Q) (hV:V<Q) (hAV:A*V%Q=1):∀ w,Calls Try.prog 37 #[grp P Q G H,num A] w fun e w'=>e=.returned (.tuple #[num V,.int .i64 0])∧Below w.heap.size w w':=fun w=>s_inv P Q G H A V _ (minv_yes A Q V hQ h1 hA hV hAV) w
theorem sinv_none (P Q G H A:Nat) (hQ:Q<2^256) (h1:1<Q) (hA:A<Q) (hg:Nat.gcd A Q≠1):∀ w,Calls Try.prog 37 #[grp P Q G H,num A] w fun e w'=>e=.returned (.tuple #[num 0,.int .i64 7])∧Below w.heap.size w w':=fun w=>s_inv P Q G H A 0 _ (minv_none A Q hQ h1 hA hg) w
end Go.Proofs.Ytcbnmdkmfdjpiaa
