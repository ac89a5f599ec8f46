/-
 SigsTwo,walked.
-/
import Derived.Deep.Cut
import Derived.Test.YtlphnfajhpkleaaDoorMSg7
import Derived.Test.YtlphnfajhpkleaaDoorMSmall
namespace Go.Proofs.YtlphnfajhpkleaaDoor
set_option maxRecDepth 100000
open Go.RowKit
set_option linter.unusedSimpArgs false
set_option linter.unusedVariables false
attribute [local go_sem ↓] Go.wp_at_zero Go.wp_at_succ

set_option maxRecDepth 100000 in
set_option maxHeartbeats 800000 in
theorem two_n (P Q G H A B K C S:Nat) (h:Nat→Nat) (hP:P<2^256) (hQ:Q<2^256) (hG:G<2^256) (hH:H<2^256) (hA:A<2^256) (hB:B<2^256) (hK:K<2^256) (hC:C<2^256) (hS:S<2^256) (hh:∀ i,h i<256) (k:Nat→Nat) (hk:∀ i,k i<256) (w0:World) (T:By.Tabs w0) (hf:(nzB Q [A,B] && goodB P Q G H)=false):Calls Tryd.prog 4 #[grp P Q G H,gvv A B K h C S,hsv k] w0 fun e w'=>e=.returned (.bool true)∧Below w0.heap.size w0 w':=by
 refine sx_enter (args:=[grp P Q G H,gvv A B K h C S,hsv k]) Tryd.func4 rfl Tryd.ntmps4 (by rfl) fun a F HM=>?_
 repeat first|refine et1 ?_|refine eb1 ?_|refine ws1 ?_|refine wb1 ?_|refine wk1 ?_
 refine wp_region_lit ?_
 refine lx_new F HM (wanted_none rfl _) rfl (by rfl) (o_boxG (F.ev rfl)) fun a w gg F HM=>?_
 refine lx_new F HM (wanted_none rfl _) rfl (by rfl) (o_boxV (F.ev rfl)) fun a w gz F HM=>?_
 refine lx_new F HM (wanted_none rfl _) rfl (by rfl) (o_boxH (F.ev rfl)) fun a w go F HM=>?_
 refine lxv (.bool false) F (o_assign rfl) fun a F=>?_
 refine lx_nil ?_
 repeat first|refine et1 ?_|refine eb1 ?_|refine ws1 ?_|refine wb1 ?_|refine wk1 ?_
 refine wp_region_lit ?_
 refine lxv (grp P Q G H) F (o_loadG (F.ev rfl) (HM.get 2 rfl)) fun a F=>?_
 refine lxv (.pointer (some ⟨gz,0,none⟩)) F (o_fldV0 (F.ev rfl)) fun a F=>?_
 refine lxv (num A) F (o_ldV0 (F.ev rfl) (HM.get 1 rfl)) fun a F=>?_
 refine lxv (.pointer (some ⟨gz,4,none⟩)) F (o_fldV1 (F.ev rfl)) fun a F=>?_
 refine lxv (num B) F (o_ldV4 (F.ev rfl) (HM.get 1 rfl)) fun a F=>?_
 refine lx_rowM F HM (wanted_none rfl _) rfl (by rfl) (o_slice2 (F.ev rfl) (F.ev rfl)) fun a w gr F HM=>?_
 refine lx_call F (wanted_none rfl _) rfl (by rfl) (run_callF Tryd.func7 (by kernel_rfl) (by rfl) (.cons (F.ev rfl) (.cons (F.ev rfl) .nil)) _) (fine13_is P Q G H 2 2 _ [A,B] hP hQ hG hH _ hf (rn_2 (HM.get 0 rfl) hA hB)) fun a w z F=>?_
 replace HM:=HM.on z
 clear z
 refine lxv (.bool true) F (o_not (b:=false) (r:=true) (F.ev rfl) rfl) fun a F=>?_
 refine lx_nil ?_
 repeat first|refine et1 ?_|refine eb1 ?_|refine ws1 ?_|refine wb1 ?_|refine wk1 ?_
 refine wp_cond_true (F.ev rfl) ?_
 repeat first|refine et1 ?_|refine eb1 ?_|refine ws1 ?_|refine wb1 ?_|refine wk1 ?_
 refine wp_region_lit ?_
 refine lx_call F (wanted_none rfl _) rfl (by rfl) (run_callF Tryd.func8 (by kernel_rfl) (by rfl) .nil _) (alive13_any _ (T.on HM.bel)) fun a w z F=>?_
 replace HM:=HM.on z
 clear z
 refine lxv (.bool true) F (o_assign (F.ev rfl)) fun a F=>?_
 refine lx_nil ?_
 repeat first|refine et1 ?_|refine eb1 ?_|refine ws1 ?_|refine wb1 ?_|refine wk1 ?_
 refine wp_ret ?_
 repeat (first | refine ex_thenR ?_ | refine ex_blockR ?_)
 exact sx_ret F HM (res_tmp F rfl (s:=6) rfl)

set_option maxRecDepth 100000 in
set_option maxHeartbeats 800000 in
theorem two_z (P Q G H A B K C S:Nat) (h:Nat→Nat) (hP:P<2^256) (hQ:Q<2^256) (hG:G<2^256) (hH:H<2^256) (hA:A<2^256) (hB:B<2^256) (hK:K<2^256) (hC:C<2^256) (hS:S<2^256) (hh:∀ i,h i<256) (k:Nat→Nat) (hk:∀ i,k i<256) (w0:World) (T:By.Tabs w0) (hf:(nzB Q [A,B] && goodB P Q G H)=true) (c x d y m q:Nat) (hm:m<Q) (hq:q<Q) (s1:∀ w,By.Tabs w→Calls Tryd.prog 10 #[grp P Q G H,num A,hsv h,num B] w fun e w'=>e=.returned (.tuple #[sgv c x,.int .i64 0])∧Below w.heap.size w w') (s2:∀ w,By.Tabs w→Calls Tryd.prog 10 #[grp P Q G H,num A,hsv k,num B] w fun e w'=>e=.returned (.tuple #[sgv d y,.int .i64 0])∧Below w.heap.size w w') (c1:∀ w,Calls Tryd.prog 13 #[grp P Q G H,num c,num d] w fun e w'=>e=.returned (.tuple #[num m,.int .i64 0])∧Below w.heap.size w w') (c2:∀ w,Calls Tryd.prog 13 #[grp P Q G H,num x,num y] w fun e w'=>e=.returned (.tuple #[num q,.int .i64 0])∧Below w.heap.size w w') (hz:decide (m=0)=true) (hqm:decide (q=m)=true):Calls Tryd.prog 4 #[grp P Q G H,gvv A B K h C S,hsv k] w0 fun e w'=>e=.returned (.bool true)∧Below w0.heap.size w0 w':=by
 refine sx_enter (args:=[grp P Q G H,gvv A B K h C S,hsv k]) Tryd.func4 rfl Tryd.ntmps4 (by rfl) fun a F HM=>?_
 repeat first|refine et1 ?_|refine eb1 ?_|refine ws1 ?_|refine wb1 ?_|refine wk1 ?_
 refine wp_region_lit ?_
 refine lx_new F HM (wanted_none rfl _) rfl (by rfl) (o_boxG (F.ev rfl)) fun a w gg F HM=>?_
 refine lx_new F HM (wanted_none rfl _) rfl (by rfl) (o_boxV (F.ev rfl)) fun a w gz F HM=>?_
 refine lx_new F HM (wanted_none rfl _) rfl (by rfl) (o_boxH (F.ev rfl)) fun a w go F HM=>?_
 refine lxv (.bool false) F (o_assign rfl) fun a F=>?_
 refine lx_nil ?_
 repeat first|refine et1 ?_|refine eb1 ?_|refine ws1 ?_|refine wb1 ?_|refine wk1 ?_
 refine wp_region_lit ?_
 refine lxv (grp P Q G H) F (o_loadG (F.ev rfl) (HM.get 2 rfl)) fun a F=>?_
 refine lxv (.pointer (some ⟨gz,0,none⟩)) F (o_fldV0 (F.ev rfl)) fun a F=>?_
 refine lxv (num A) F (o_ldV0 (F.ev rfl) (HM.get 1 rfl)) fun a F=>?_
 refine lxv (.pointer (some ⟨gz,4,none⟩)) F (o_fldV1 (F.ev rfl)) fun a F=>?_
 refine lxv (num B) F (o_ldV4 (F.ev rfl) (HM.get 1 rfl)) fun a F=>?_
 refine lx_rowM F HM (wanted_none rfl _) rfl (by rfl) (o_slice2 (F.ev rfl) (F.ev rfl)) fun a w gr F HM=>?_
 refine lx_call F (wanted_none rfl _) rfl (by rfl) (run_callF Tryd.func7 (by kernel_rfl) (by rfl) (.cons (F.ev rfl) (.cons (F.ev rfl) .nil)) _) (fine13_is P Q G H 2 2 _ [A,B] hP hQ hG hH _ hf (rn_2 (HM.get 0 rfl) hA hB)) fun a w z F=>?_
 replace HM:=HM.on z
 clear z
 refine lxv (.bool false) F (o_not (b:=true) (r:=false) (F.ev rfl) rfl) fun a F=>?_
 refine lx_nil ?_
 repeat first|refine et1 ?_|refine eb1 ?_|refine ws1 ?_|refine wb1 ?_|refine wk1 ?_
 refine wp_cond_false (F.ev rfl) ?_
 replace HM:=HM.erase 0 (M2:=[(go,28,hcs k),(gz,32,gvc A B K h C S),(gg,26,gcs P Q G H)]) rfl
 have hm2:m<2^256:=Nat.lt_trans hm hQ
 have hq2:q<2^256:=Nat.lt_trans hq hQ
 repeat first|refine et1 ?_|refine eb1 ?_|refine ws1 ?_|refine wb1 ?_|refine wk1 ?_
 refine wp_region_lit ?_
 refine lxv (grp P Q G H) F (o_loadG (F.ev rfl) (HM.get 2 rfl)) fun a F=>?_
 refine lxv (.pointer (some ⟨gz,0,none⟩)) F (o_fldV0 (F.ev rfl)) fun a F=>?_
 refine lxv (num A) F (o_ldV0 (F.ev rfl) (HM.get 1 rfl)) fun a F=>?_
 refine lxv (.pointer (some ⟨gz,12,none⟩)) F (o_fldV3 (F.ev rfl)) fun a F=>?_
 refine lxv (hsv h) F (o_ldV12 (F.ev rfl) (HM.get 1 rfl)) fun a F=>?_
 refine lxv (.pointer (some ⟨gz,4,none⟩)) F (o_fldV1 (F.ev rfl)) fun a F=>?_
 refine lxv (num B) F (o_ldV4 (F.ev rfl) (HM.get 1 rfl)) fun a F=>?_
 refine lx_call F (wanted_none rfl _) rfl (by rfl) (run_callF Tryd.func10 (by kernel_rfl) (by rfl) (.cons (F.ev rfl) (.cons (F.ev rfl) (.cons (F.ev rfl) (.cons (F.ev rfl) .nil)))) _) (s1 _ (T.on HM.bel)) fun a w z F=>?_
 replace HM:=HM.on z
 clear z
 refine lxv (.tuple #[sgv c x,.int .i64 0]) F (o_move (F.ev rfl)) fun a F=>?_
 refine lxv (sgv c x) F (o_extract (F.ev rfl) rfl) fun a F=>?_
 refine lxv (.int .i64 0) F (o_extract (F.ev rfl) rfl) fun a F=>?_
 refine lx_new F HM (wanted_none rfl _) rfl (by rfl) (o_allocS) fun a w gs F HM=>?_
 refine lx_store F HM (wanted_none rfl _) rfl (k:=0) rfl (o_stS (F.ev rfl) (F.ev rfl) (HM.get 0 rfl)) (M2:=[(gs,30,sgc c x),(go,28,hcs k),(gz,32,gvc A B K h C S),(gg,26,gcs P Q G H)]) (by rw [sets_sg];rfl) fun w HM=>?_
 refine lxv (.int .i64 0) F (o_assign (F.ev rfl)) fun a F=>?_
 refine lx_nil ?_
 repeat first|refine et1 ?_|refine eb1 ?_|refine ws1 ?_|refine wb1 ?_|refine wk1 ?_
 refine wp_region_lit ?_
 refine lxv (grp P Q G H) F (o_loadG (F.ev rfl) (HM.get 3 rfl)) fun a F=>?_
 refine lxv (.pointer (some ⟨gz,0,none⟩)) F (o_fldV0 (F.ev rfl)) fun a F=>?_
 refine lxv (num A) F (o_ldV0 (F.ev rfl) (HM.get 2 rfl)) fun a F=>?_
 refine lxv (hsv k) F (o_ldH (F.ev rfl) (HM.get 1 rfl)) fun a F=>?_
 refine lxv (.pointer (some ⟨gz,4,none⟩)) F (o_fldV1 (F.ev rfl)) fun a F=>?_
 refine lxv (num B) F (o_ldV4 (F.ev rfl) (HM.get 2 rfl)) fun a F=>?_
 refine lx_call F (wanted_none rfl _) rfl (by rfl) (run_callF Tryd.func10 (by kernel_rfl) (by rfl) (.cons (F.ev rfl) (.cons (F.ev rfl) (.cons (F.ev rfl) (.cons (F.ev rfl) .nil)))) _) (s2 _ (T.on HM.bel)) fun a w z F=>?_
 replace HM:=HM.on z
 clear z
 refine lxv (.tuple #[sgv d y,.int .i64 0]) F (o_move (F.ev rfl)) fun a F=>?_
 refine lxv (sgv d y) F (o_extract (F.ev rfl) rfl) fun a F=>?_
 refine lxv (.int .i64 0) F (o_extract (F.ev rfl) rfl) fun a F=>?_
 refine lx_new F HM (wanted_none rfl _) rfl (by rfl) (o_allocS) fun a w gt F HM=>?_
 refine lx_store F HM (wanted_none rfl _) rfl (k:=0) rfl (o_stS (F.ev rfl) (F.ev rfl) (HM.get 0 rfl)) (M2:=[(gt,30,sgc d y),(gs,30,sgc c x),(go,28,hcs k),(gz,32,gvc A B K h C S),(gg,26,gcs P Q G H)]) (by rw [sets_sg];rfl) fun w HM=>?_
 refine lxv (.int .i64 0) F (o_assign (F.ev rfl)) fun a F=>?_
 refine lx_nil ?_
 repeat first|refine et1 ?_|refine eb1 ?_|refine ws1 ?_|refine wb1 ?_|refine wk1 ?_
 refine wp_region_lit ?_
 refine lxv (grp P Q G H) F (o_loadG (F.ev rfl) (HM.get 4 rfl)) fun a F=>?_
 refine lxv (.pointer (some ⟨gs,0,none⟩)) F (o_fldS0 (F.ev rfl)) fun a F=>?_
 refine lxv (num c) F (o_ldS0 (F.ev rfl) (HM.get 1 rfl)) fun a F=>?_
 refine lxv (.pointer (some ⟨gt,0,none⟩)) F (o_fldS0 (F.ev rfl)) fun a F=>?_
 refine lxv (num d) F (o_ldS0 (F.ev rfl) (HM.get 0 rfl)) fun a F=>?_
 refine lx_call F (wanted_none rfl _) rfl (by rfl) (run_callF Tryd.func13 (by kernel_rfl) (by rfl) (.cons (F.ev rfl) (.cons (F.ev rfl) (.cons (F.ev rfl) .nil))) _) (c1 _) fun a w z F=>?_
 replace HM:=HM.on z
 clear z
 refine lxv (.tuple #[num m,.int .i64 0]) F (o_move (F.ev rfl)) fun a F=>?_
 refine lxv (num m) F (o_extract (F.ev rfl) rfl) fun a F=>?_
 refine lxv (.int .i64 0) F (o_extract (F.ev rfl) rfl) fun a F=>?_
 refine lx_new F HM (wanted_none rfl _) rfl (by rfl) (o_allocN) fun a w gm F HM=>?_
 refine lx_store F HM (wanted_none rfl _) rfl (k:=0) rfl (o_storeN (F.ev rfl) (F.ev rfl) (HM.get 0 rfl)) (M2:=[(gm,24,ncs m),(gt,30,sgc d y),(gs,30,sgc c x),(go,28,hcs k),(gz,32,gvc A B K h C S),(gg,26,gcs P Q G H)]) (rfl) fun w HM=>?_
 refine lxv (.int .i64 0) F (o_assign (F.ev rfl)) fun a F=>?_
 refine lx_nil ?_
 repeat first|refine et1 ?_|refine eb1 ?_|refine ws1 ?_|refine wb1 ?_|refine wk1 ?_
 refine wp_region_lit ?_
 refine lxv (grp P Q G H) F (o_loadG (F.ev rfl) (HM.get 5 rfl)) fun a F=>?_
 refine lxv (.pointer (some ⟨gs,4,none⟩)) F (o_fldS1 (F.ev rfl)) fun a F=>?_
 refine lxv (num x) F (o_ldS4 (F.ev rfl) (HM.get 2 rfl)) fun a F=>?_
 refine lxv (.pointer (some ⟨gt,4,none⟩)) F (o_fldS1 (F.ev rfl)) fun a F=>?_
 refine lxv (num y) F (o_ldS4 (F.ev rfl) (HM.get 1 rfl)) fun a F=>?_
 refine lx_call F (wanted_none rfl _) rfl (by rfl) (run_callF Tryd.func13 (by kernel_rfl) (by rfl) (.cons (F.ev rfl) (.cons (F.ev rfl) (.cons (F.ev rfl) .nil))) _) (c2 _) fun a w z F=>?_
 replace HM:=HM.on z
 clear z
 refine lxv (.tuple #[num q,.int .i64 0]) F (o_move (F.ev rfl)) fun a F=>?_
 refine lxv (num q) F (o_extract (F.ev rfl) rfl) fun a F=>?_
 refine lxv (.int .i64 0) F (o_extract (F.ev rfl) rfl) fun a F=>?_
 refine lx_new F HM (wanted_none rfl _) rfl (by rfl) (o_allocN) fun a w gq F HM=>?_
 refine lx_store F HM (wanted_none rfl _) rfl (k:=0) rfl (o_storeN (F.ev rfl) (F.ev rfl) (HM.get 0 rfl)) (M2:=[(gq,24,ncs q),(gm,24,ncs m),(gt,30,sgc d y),(gs,30,sgc c x),(go,28,hcs k),(gz,32,gvc A B K h C S),(gg,26,gcs P Q G H)]) (rfl) fun w HM=>?_
 refine lxv (.int .i64 0) F (o_assign (F.ev rfl)) fun a F=>?_
 refine lx_nil ?_
 repeat first|refine et1 ?_|refine eb1 ?_|refine ws1 ?_|refine wb1 ?_|refine wk1 ?_
 refine wp_region_lit ?_
 refine lxv (.int .i64 0) F (o_move (F.ev rfl)) fun a F=>?_
 refine lxv (.bool false) F (o_bin (u:=.int .i64 0) (v:=.int .i64 0) (fun ρ hx hy=>by simp only [execOp,hx,hy];simp [go_sem]) (F.ev rfl) rfl) fun a F=>?_
 refine lxv (.bool false) F (o_move (F.ev rfl)) fun a F=>?_
 refine lxw 69 false (.int .i64 0) F (o_move (F.ev rfl)) fun a F=>?_
 refine lxw 69 false (.bool false) F (o_bin (u:=.int .i64 0) (v:=.int .i64 0) (fun ρ hx hy=>by simp only [execOp,hx,hy];simp [go_sem]) (F.ev rfl) rfl) fun a F=>?_
 refine lxv (.bool false) F (o_pick (b:=false) (r:=.bool false) (F.ev rfl) rfl (F.ev rfl) rfl) fun a F=>?_
 refine lxv (.bool false) F (o_move (F.ev rfl)) fun a F=>?_
 refine lxw 73 false (.int .i64 0) F (o_move (F.ev rfl)) fun a F=>?_
 refine lxw 73 false (.bool false) F (o_bin (u:=.int .i64 0) (v:=.int .i64 0) (fun ρ hx hy=>by simp only [execOp,hx,hy];simp [go_sem]) (F.ev rfl) rfl) fun a F=>?_
 refine lxv (.bool false) F (o_pick (b:=false) (r:=.bool false) (F.ev rfl) rfl (F.ev rfl) rfl) fun a F=>?_
 refine lxv (.bool false) F (o_move (F.ev rfl)) fun a F=>?_
 refine lxw 77 false (.int .i64 0) F (o_move (F.ev rfl)) fun a F=>?_
 refine lxw 77 false (.bool false) F (o_bin (u:=.int .i64 0) (v:=.int .i64 0) (fun ρ hx hy=>by simp only [execOp,hx,hy];simp [go_sem]) (F.ev rfl) rfl) fun a F=>?_
 refine lxv (.bool false) F (o_pick (b:=false) (r:=.bool false) (F.ev rfl) rfl (F.ev rfl) rfl) fun a F=>?_
 refine lx_nil ?_
 repeat first|refine et1 ?_|refine eb1 ?_|refine ws1 ?_|refine wb1 ?_|refine wk1 ?_
 refine wp_cond_false (F.ev rfl) ?_
 repeat first|refine et1 ?_|refine eb1 ?_|refine ws1 ?_|refine wb1 ?_|refine wk1 ?_
 refine wp_region_lit ?_
 refine lxv (num m) F (o_loadN (F.ev rfl) (HM.get 1 rfl)) fun a F=>?_
 refine lxv (num 0) F (o_build0) fun a F=>?_
 refine lxv (.bool true) F (o_eqlN hm2 n0_256 hz (F.ev rfl) (F.ev rfl)) fun a F=>?_
 refine lx_nil ?_
 repeat first|refine et1 ?_|refine eb1 ?_|refine ws1 ?_|refine wb1 ?_|refine wk1 ?_
 refine wp_cond_true (F.ev rfl) ?_
 repeat first|refine et1 ?_|refine eb1 ?_|refine ws1 ?_|refine wb1 ?_|refine wk1 ?_
 refine wp_region_lit ?_
 refine lx_call F (wanted_none rfl _) rfl (by rfl) (run_callF Tryd.func8 (by kernel_rfl) (by rfl) .nil _) (alive13_any _ (T.on HM.bel)) fun a w z F=>?_
 replace HM:=HM.on z
 clear z
 refine lxv (.bool true) F (o_move (F.ev rfl)) fun a F=>?_
 refine lxw 85 true (num q) F (o_loadN (F.ev rfl) (HM.get 0 rfl)) fun a F=>?_
 refine lxw 85 true (num m) F (o_loadN (F.ev rfl) (HM.get 1 rfl)) fun a F=>?_
 refine lxw 85 true (.bool true) F (o_eqlN hq2 hm2 hqm (F.ev rfl) (F.ev rfl)) fun a F=>?_
 refine lxv (.bool true) F (o_pick (b:=true) (r:=.bool true) (F.ev rfl) (F.ev rfl) rfl rfl) fun a F=>?_
 refine lxv (.bool true) F (o_assign (F.ev rfl)) fun a F=>?_
 refine lx_nil ?_
 repeat first|refine et1 ?_|refine eb1 ?_|refine ws1 ?_|refine wb1 ?_|refine wk1 ?_
 refine wp_ret ?_
 repeat (first | refine ex_thenR ?_ | refine ex_blockR ?_)
 exact sx_ret F HM (res_tmp F rfl (s:=6) rfl)

set_option maxRecDepth 100000 in
set_option maxHeartbeats 800000 in
theorem two_y (P Q G H A B K C S:Nat) (h:Nat→Nat) (hP:P<2^256) (hQ:Q<2^256) (hG:G<2^256) (hH:H<2^256) (hA:A<2^256) (hB:B<2^256) (hK:K<2^256) (hC:C<2^256) (hS:S<2^256) (hh:∀ i,h i<256) (k:Nat→Nat) (hk:∀ i,k i<256) (w0:World) (T:By.Tabs w0) (hf:(nzB Q [A,B] && goodB P Q G H)=true) (c x d y m q:Nat) (hm:m<Q) (hq:q<Q) (s1:∀ w,By.Tabs w→Calls Tryd.prog 10 #[grp P Q G H,num A,hsv h,num B] w fun e w'=>e=.returned (.tuple #[sgv c x,.int .i64 0])∧Below w.heap.size w w') (s2:∀ w,By.Tabs w→Calls Tryd.prog 10 #[grp P Q G H,num A,hsv k,num B] w fun e w'=>e=.returned (.tuple #[sgv d y,.int .i64 0])∧Below w.heap.size w w') (c1:∀ w,Calls Tryd.prog 13 #[grp P Q G H,num c,num d] w fun e w'=>e=.returned (.tuple #[num m,.int .i64 0])∧Below w.heap.size w w') (c2:∀ w,Calls Tryd.prog 13 #[grp P Q G H,num x,num y] w fun e w'=>e=.returned (.tuple #[num q,.int .i64 0])∧Below w.heap.size w w') (hz:decide (m=0)=false) (v:Nat) (c3:∀ w,Calls Tryd.prog 14 #[grp P Q G H,num m] w fun e w'=>e=.returned (.tuple #[num v,.int .i64 0])∧Below w.heap.size w w') (c4:∀ w,Calls Tryd.prog 15 #[grp P Q G H,num q,num v] w fun e w'=>e=.returned (.tuple #[num A,.int .i64 0])∧Below w.heap.size w w')  : Calls Tryd.prog 4 #[grp P Q G H,gvv A B K h C S,hsv k] w0 fun e w'=>e=.returned (.bool true)∧Below w0.heap.size w0 w':=by
 refine sx_enter (args:=[grp P Q G H,gvv A B K h C S,hsv k]) Tryd.func4 rfl Tryd.ntmps4 (by rfl) fun a F HM=>?_
 repeat first|refine et1 ?_|refine eb1 ?_|refine ws1 ?_|refine wb1 ?_|refine wk1 ?_
 refine wp_region_lit ?_
 refine lx_new F HM (wanted_none rfl _) rfl (by rfl) (o_boxG (F.ev rfl)) fun a w gg F HM=>?_
 refine lx_new F HM (wanted_none rfl _) rfl (by rfl) (o_boxV (F.ev rfl)) fun a w gz F HM=>?_
 refine lx_new F HM (wanted_none rfl _) rfl (by rfl) (o_boxH (F.ev rfl)) fun a w go F HM=>?_
 refine lxv (.bool false) F (o_assign rfl) fun a F=>?_
 refine lx_nil ?_
 repeat first|refine et1 ?_|refine eb1 ?_|refine ws1 ?_|refine wb1 ?_|refine wk1 ?_
 refine wp_region_lit ?_
 refine lxv (grp P Q G H) F (o_loadG (F.ev rfl) (HM.get 2 rfl)) fun a F=>?_
 refine lxv (.pointer (some ⟨gz,0,none⟩)) F (o_fldV0 (F.ev rfl)) fun a F=>?_
 refine lxv (num A) F (o_ldV0 (F.ev rfl) (HM.get 1 rfl)) fun a F=>?_
 refine lxv (.pointer (some ⟨gz,4,none⟩)) F (o_fldV1 (F.ev rfl)) fun a F=>?_
 refine lxv (num B) F (o_ldV4 (F.ev rfl) (HM.get 1 rfl)) fun a F=>?_
 refine lx_rowM F HM (wanted_none rfl _) rfl (by rfl) (o_slice2 (F.ev rfl) (F.ev rfl)) fun a w gr F HM=>?_
 refine lx_call F (wanted_none rfl _) rfl (by rfl) (run_callF Tryd.func7 (by kernel_rfl) (by rfl) (.cons (F.ev rfl) (.cons (F.ev rfl) .nil)) _) (fine13_is P Q G H 2 2 _ [A,B] hP hQ hG hH _ hf (rn_2 (HM.get 0 rfl) hA hB)) fun a w z F=>?_
 replace HM:=HM.on z
 clear z
 refine lxv (.bool false) F (o_not (b:=true) (r:=false) (F.ev rfl) rfl) fun a F=>?_
 refine lx_nil ?_
 repeat first|refine et1 ?_|refine eb1 ?_|refine ws1 ?_|refine wb1 ?_|refine wk1 ?_
 refine wp_cond_false (F.ev rfl) ?_
 replace HM:=HM.erase 0 (M2:=[(go,28,hcs k),(gz,32,gvc A B K h C S),(gg,26,gcs P Q G H)]) rfl
 have hm2:m<2^256:=Nat.lt_trans hm hQ
 have hq2:q<2^256:=Nat.lt_trans hq hQ
 repeat first|refine et1 ?_|refine eb1 ?_|refine ws1 ?_|refine wb1 ?_|refine wk1 ?_
 refine wp_region_lit ?_
 refine lxv (grp P Q G H) F (o_loadG (F.ev rfl) (HM.get 2 rfl)) fun a F=>?_
 refine lxv (.pointer (some ⟨gz,0,none⟩)) F (o_fldV0 (F.ev rfl)) fun a F=>?_
 refine lxv (num A) F (o_ldV0 (F.ev rfl) (HM.get 1 rfl)) fun a F=>?_
 refine lxv (.pointer (some ⟨gz,12,none⟩)) F (o_fldV3 (F.ev rfl)) fun a F=>?_
 refine lxv (hsv h) F (o_ldV12 (F.ev rfl) (HM.get 1 rfl)) fun a F=>?_
 refine lxv (.pointer (some ⟨gz,4,none⟩)) F (o_fldV1 (F.ev rfl)) fun a F=>?_
 refine lxv (num B) F (o_ldV4 (F.ev rfl) (HM.get 1 rfl)) fun a F=>?_
 refine lx_call F (wanted_none rfl _) rfl (by rfl) (run_callF Tryd.func10 (by kernel_rfl) (by rfl) (.cons (F.ev rfl) (.cons (F.ev rfl) (.cons (F.ev rfl) (.cons (F.ev rfl) .nil)))) _) (s1 _ (T.on HM.bel)) fun a w z F=>?_
 replace HM:=HM.on z
 clear z
 refine lxv (.tuple #[sgv c x,.int .i64 0]) F (o_move (F.ev rfl)) fun a F=>?_
 refine lxv (sgv c x) F (o_extract (F.ev rfl) rfl) fun a F=>?_
 refine lxv (.int .i64 0) F (o_extract (F.ev rfl) rfl) fun a F=>?_
 refine lx_new F HM (wanted_none rfl _) rfl (by rfl) (o_allocS) fun a w gs F HM=>?_
 refine lx_store F HM (wanted_none rfl _) rfl (k:=0) rfl (o_stS (F.ev rfl) (F.ev rfl) (HM.get 0 rfl)) (M2:=[(gs,30,sgc c x),(go,28,hcs k),(gz,32,gvc A B K h C S),(gg,26,gcs P Q G H)]) (by rw [sets_sg];rfl) fun w HM=>?_
 refine lxv (.int .i64 0) F (o_assign (F.ev rfl)) fun a F=>?_
 refine lx_nil ?_
 repeat first|refine et1 ?_|refine eb1 ?_|refine ws1 ?_|refine wb1 ?_|refine wk1 ?_
 refine wp_region_lit ?_
 refine lxv (grp P Q G H) F (o_loadG (F.ev rfl) (HM.get 3 rfl)) fun a F=>?_
 refine lxv (.pointer (some ⟨gz,0,none⟩)) F (o_fldV0 (F.ev rfl)) fun a F=>?_
 refine lxv (num A) F (o_ldV0 (F.ev rfl) (HM.get 2 rfl)) fun a F=>?_
 refine lxv (hsv k) F (o_ldH (F.ev rfl) (HM.get 1 rfl)) fun a F=>?_
 refine lxv (.pointer (some ⟨gz,4,none⟩)) F (o_fldV1 (F.ev rfl)) fun a F=>?_
 refine lxv (num B) F (o_ldV4 (F.ev rfl) (HM.get 2 rfl)) fun a F=>?_
 refine lx_call F (wanted_none rfl _) rfl (by rfl) (run_callF Tryd.func10 (by kernel_rfl) (by rfl) (.cons (F.ev rfl) (.cons (F.ev rfl) (.cons (F.ev rfl) (.cons (F.ev rfl) .nil)))) _) (s2 _ (T.on HM.bel)) fun a w z F=>?_
 replace HM:=HM.on z
 clear z
 refine lxv (.tuple #[sgv d y,.int .i64 0]) F (o_move (F.ev rfl)) fun a F=>?_
 refine lxv (sgv d y) F (o_extract (F.ev rfl) rfl) fun a F=>?_
 refine lxv (.int .i64 0) F (o_extract (F.ev rfl) rfl) fun a F=>?_
 refine lx_new F HM (wanted_none rfl _) rfl (by rfl) (o_allocS) fun a w gt F HM=>?_
 refine lx_store F HM (wanted_none rfl _) rfl (k:=0) rfl (o_stS (F.ev rfl) (F.ev rfl) (HM.get 0 rfl)) (M2:=[(gt,30,sgc d y),(gs,30,sgc c x),(go,28,hcs k),(gz,32,gvc A B K h C S),(gg,26,gcs P Q G H)]) (by rw [sets_sg];rfl) fun w HM=>?_
 refine lxv (.int .i64 0) F (o_assign (F.ev rfl)) fun a F=>?_
 refine lx_nil ?_
 repeat first|refine et1 ?_|refine eb1 ?_|refine ws1 ?_|refine wb1 ?_|refine wk1 ?_
 refine wp_region_lit ?_
 refine lxv (grp P Q G H) F (o_loadG (F.ev rfl) (HM.get 4 rfl)) fun a F=>?_
 refine lxv (.pointer (some ⟨gs,0,none⟩)) F (o_fldS0 (F.ev rfl)) fun a F=>?_
 refine lxv (num c) F (o_ldS0 (F.ev rfl) (HM.get 1 rfl)) fun a F=>?_
 refine lxv (.pointer (some ⟨gt,0,none⟩)) F (o_fldS0 (F.ev rfl)) fun a F=>?_
 refine lxv (num d) F (o_ldS0 (F.ev rfl) (HM.get 0 rfl)) fun a F=>?_
 refine lx_call F (wanted_none rfl _) rfl (by rfl) (run_callF Tryd.func13 (by kernel_rfl) (by rfl) (.cons (F.ev rfl) (.cons (F.ev rfl) (.cons (F.ev rfl) .nil))) _) (c1 _) fun a w z F=>?_
 replace HM:=HM.on z
 clear z
 refine lxv (.tuple #[num m,.int .i64 0]) F (o_move (F.ev rfl)) fun a F=>?_
 refine lxv (num m) F (o_extract (F.ev rfl) rfl) fun a F=>?_
 refine lxv (.int .i64 0) F (o_extract (F.ev rfl) rfl) fun a F=>?_
 refine lx_new F HM (wanted_none rfl _) rfl (by rfl) (o_allocN) fun a w gm F HM=>?_
 refine lx_store F HM (wanted_none rfl _) rfl (k:=0) rfl (o_storeN (F.ev rfl) (F.ev rfl) (HM.get 0 rfl)) (M2:=[(gm,24,ncs m),(gt,30,sgc d y),(gs,30,sgc c x),(go,28,hcs k),(gz,32,gvc A B K h C S),(gg,26,gcs P Q G H)]) (rfl) fun w HM=>?_
 refine lxv (.int .i64 0) F (o_assign (F.ev rfl)) fun a F=>?_
 refine lx_nil ?_
 repeat first|refine et1 ?_|refine eb1 ?_|refine ws1 ?_|refine wb1 ?_|refine wk1 ?_
 refine wp_region_lit ?_
 refine lxv (grp P Q G H) F (o_loadG (F.ev rfl) (HM.get 5 rfl)) fun a F=>?_
 refine lxv (.pointer (some ⟨gs,4,none⟩)) F (o_fldS1 (F.ev rfl)) fun a F=>?_
 refine lxv (num x) F (o_ldS4 (F.ev rfl) (HM.get 2 rfl)) fun a F=>?_
 refine lxv (.pointer (some ⟨gt,4,none⟩)) F (o_fldS1 (F.ev rfl)) fun a F=>?_
 refine lxv (num y) F (o_ldS4 (F.ev rfl) (HM.get 1 rfl)) fun a F=>?_
 refine lx_call F (wanted_none rfl _) rfl (by rfl) (run_callF Tryd.func13 (by kernel_rfl) (by rfl) (.cons (F.ev rfl) (.cons (F.ev rfl) (.cons (F.ev rfl) .nil))) _) (c2 _) fun a w z F=>?_
 replace HM:=HM.on z
 clear z
 refine lxv (.tuple #[num q,.int .i64 0]) F (o_move (F.ev rfl)) fun a F=>?_
 refine lxv (num q) F (o_extract (F.ev rfl) rfl) fun a F=>?_
 refine lxv (.int .i64 0) F (o_extract (F.ev rfl) rfl) fun a F=>?_
 refine lx_new F HM (wanted_none rfl _) rfl (by rfl) (o_allocN) fun a w gq F HM=>?_
 refine lx_store F HM (wanted_none rfl _) rfl (k:=0) rfl (o_storeN (F.ev rfl) (F.ev rfl) (HM.get 0 rfl)) (M2:=[(gq,24,ncs q),(gm,24,ncs m),(gt,30,sgc d y),(gs,30,sgc c x),(go,28,hcs k),(gz,32,gvc A B K h C S),(gg,26,gcs P Q G H)]) (rfl) fun w HM=>?_
 refine lxv (.int .i64 0) F (o_assign (F.ev rfl)) fun a F=>?_
 refine lx_nil ?_
 repeat first|refine et1 ?_|refine eb1 ?_|refine ws1 ?_|refine wb1 ?_|refine wk1 ?_
 refine wp_region_lit ?_
 refine lxv (.int .i64 0) F (o_move (F.ev rfl)) fun a F=>?_
 refine lxv (.bool false) F (o_bin (u:=.int .i64 0) (v:=.int .i64 0) (fun ρ hx hy=>by simp only [execOp,hx,hy];simp [go_sem]) (F.ev rfl) rfl) fun a F=>?_
 refine lxv (.bool false) F (o_move (F.ev rfl)) fun a F=>?_
 refine lxw 69 false (.int .i64 0) F (o_move (F.ev rfl)) fun a F=>?_
 refine lxw 69 false (.bool false) F (o_bin (u:=.int .i64 0) (v:=.int .i64 0) (fun ρ hx hy=>by simp only [execOp,hx,hy];simp [go_sem]) (F.ev rfl) rfl) fun a F=>?_
 refine lxv (.bool false) F (o_pick (b:=false) (r:=.bool false) (F.ev rfl) rfl (F.ev rfl) rfl) fun a F=>?_
 refine lxv (.bool false) F (o_move (F.ev rfl)) fun a F=>?_
 refine lxw 73 false (.int .i64 0) F (o_move (F.ev rfl)) fun a F=>?_
 refine lxw 73 false (.bool false) F (o_bin (u:=.int .i64 0) (v:=.int .i64 0) (fun ρ hx hy=>by simp only [execOp,hx,hy];simp [go_sem]) (F.ev rfl) rfl) fun a F=>?_
 refine lxv (.bool false) F (o_pick (b:=false) (r:=.bool false) (F.ev rfl) rfl (F.ev rfl) rfl) fun a F=>?_
 refine lxv (.bool false) F (o_move (F.ev rfl)) fun a F=>?_
 refine lxw 77 false (.int .i64 0) F (o_move (F.ev rfl)) fun a F=>?_
 refine lxw 77 false (.bool false) F (o_bin (u:=.int .i64 0) (v:=.int .i64 0) (fun ρ hx hy=>by simp only [execOp,hx,hy];simp [go_sem]) (F.ev rfl) rfl) fun a F=>?_
 refine lxv (.bool false) F (o_pick (b:=false) (r:=.bool false) (F.ev rfl) rfl (F.ev rfl) rfl) fun a F=>?_
 refine lx_nil ?_
 repeat first|refine et1 ?_|refine eb1 ?_|refine ws1 ?_|refine wb1 ?_|refine wk1 ?_
 refine wp_cond_false (F.ev rfl) ?_
 repeat first|refine et1 ?_|refine eb1 ?_|refine ws1 ?_|refine wb1 ?_|refine wk1 ?_
 refine wp_region_lit ?_
 refine lxv (num m) F (o_loadN (F.ev rfl) (HM.get 1 rfl)) fun a F=>?_
 refine lxv (num 0) F (o_build0) fun a F=>?_
 refine lxv (.bool false) F (o_eqlN hm2 n0_256 hz (F.ev rfl) (F.ev rfl)) fun a F=>?_
 refine lx_nil ?_
 repeat first|refine et1 ?_|refine eb1 ?_|refine ws1 ?_|refine wb1 ?_|refine wk1 ?_
 refine wp_cond_false (F.ev rfl) ?_
 repeat first|refine et1 ?_|refine eb1 ?_|refine ws1 ?_|refine wb1 ?_|refine wk1 ?_
 refine wp_region_lit ?_
 refine lxv (grp P Q G H) F (o_loadG (F.ev rfl) (HM.get 6 rfl)) fun a F=>?_
 refine lxv (num m) F (o_loadN (F.ev rfl) (HM.get 1 rfl)) fun a F=>?_
 refine lx_call F (wanted_none rfl _) rfl (by rfl) (run_callF Tryd.func14 (by kernel_rfl) (by rfl) (.cons (F.ev rfl) (.cons (F.ev rfl) .nil)) _) (c3 _) fun a w z F=>?_
 replace HM:=HM.on z
 clear z
 refine lxv (.tuple #[num v,.int .i64 0]) F (o_move (F.ev rfl)) fun a F=>?_
 refine lxv (num v) F (o_extract (F.ev rfl) rfl) fun a F=>?_
 refine lxv (.int .i64 0) F (o_extract (F.ev rfl) rfl) fun a F=>?_
 refine lx_new F HM (wanted_none rfl _) rfl (by rfl) (o_allocN) fun a w gv F HM=>?_
 refine lx_store F HM (wanted_none rfl _) rfl (k:=0) rfl (o_storeN (F.ev rfl) (F.ev rfl) (HM.get 0 rfl)) (M2:=[(gv,24,ncs v),(gq,24,ncs q),(gm,24,ncs m),(gt,30,sgc d y),(gs,30,sgc c x),(go,28,hcs k),(gz,32,gvc A B K h C S),(gg,26,gcs P Q G H)]) (rfl) fun w HM=>?_
 refine lxv (.int .i64 0) F (o_assign (F.ev rfl)) fun a F=>?_
 refine lx_nil ?_
 repeat first|refine et1 ?_|refine eb1 ?_|refine ws1 ?_|refine wb1 ?_|refine wk1 ?_
 refine wp_region_lit ?_
 refine lxv (grp P Q G H) F (o_loadG (F.ev rfl) (HM.get 7 rfl)) fun a F=>?_
 refine lxv (num q) F (o_loadN (F.ev rfl) (HM.get 1 rfl)) fun a F=>?_
 refine lxv (num v) F (o_loadN (F.ev rfl) (HM.get 0 rfl)) fun a F=>?_
 refine lx_call F (wanted_none rfl _) rfl (by rfl) (run_callF Tryd.func15 (by kernel_rfl) (by rfl) (.cons (F.ev rfl) (.cons (F.ev rfl) (.cons (F.ev rfl) .nil))) _) (c4 _) fun a w z F=>?_
 replace HM:=HM.on z
 clear z
 refine lxv (.tuple #[num A,.int .i64 0]) F (o_move (F.ev rfl)) fun a F=>?_
 refine lxv (num A) F (o_extract (F.ev rfl) rfl) fun a F=>?_
 refine lxv (.int .i64 0) F (o_extract (F.ev rfl) rfl) fun a F=>?_
 refine lx_new F HM (wanted_none rfl _) rfl (by rfl) (o_allocN) fun a w gx F HM=>?_
 refine lx_store F HM (wanted_none rfl _) rfl (k:=0) rfl (o_storeN (F.ev rfl) (F.ev rfl) (HM.get 0 rfl)) (M2:=[(gx,24,ncs A),(gv,24,ncs v),(gq,24,ncs q),(gm,24,ncs m),(gt,30,sgc d y),(gs,30,sgc c x),(go,28,hcs k),(gz,32,gvc A B K h C S),(gg,26,gcs P Q G H)]) (rfl) fun w HM=>?_
 refine lxv (.int .i64 0) F (o_assign (F.ev rfl)) fun a F=>?_
 refine lx_nil ?_
 repeat first|refine et1 ?_|refine eb1 ?_|refine ws1 ?_|refine wb1 ?_|refine wk1 ?_
 refine wp_region_lit ?_
 refine lx_call F (wanted_none rfl _) rfl (by rfl) (run_callF Tryd.func8 (by kernel_rfl) (by rfl) .nil _) (alive13_any _ (T.on HM.bel)) fun a w z F=>?_
 replace HM:=HM.on z
 clear z
 refine lxv (.bool true) F (o_move (F.ev rfl)) fun a F=>?_
 refine lxw 104 true (.int .i64 0) F (o_move (F.ev rfl)) fun a F=>?_
 refine lxw 104 true (.bool true) F (o_bin (u:=.int .i64 0) (v:=.int .i64 0) (fun ρ hx hy=>by simp only [execOp,hx,hy];simp [go_sem]) (F.ev rfl) rfl) fun a F=>?_
 refine lxv (.bool true) F (o_pick (b:=true) (r:=.bool true) (F.ev rfl) (F.ev rfl) rfl rfl) fun a F=>?_
 refine lxv (.bool true) F (o_move (F.ev rfl)) fun a F=>?_
 refine lxw 108 true (.int .i64 0) F (o_move (F.ev rfl)) fun a F=>?_
 refine lxw 108 true (.bool true) F (o_bin (u:=.int .i64 0) (v:=.int .i64 0) (fun ρ hx hy=>by simp only [execOp,hx,hy];simp [go_sem]) (F.ev rfl) rfl) fun a F=>?_
 refine lxv (.bool true) F (o_pick (b:=true) (r:=.bool true) (F.ev rfl) (F.ev rfl) rfl rfl) fun a F=>?_
 refine lxv (.bool true) F (o_move (F.ev rfl)) fun a F=>?_
 refine lxw 112 true (num A) F (o_loadN (F.ev rfl) (HM.get 0 rfl)) fun a F=>?_
 refine lxw 112 true (.pointer (some ⟨gz,0,none⟩)) F (o_fldV0 (F.ev rfl)) fun a F=>?_
 refine lxw 112 true (num A) F (o_ldV0 (F.ev rfl) (HM.get 7 rfl)) fun a F=>?_
 refine lxw 112 true (.bool true) F (o_eqlS (F.ev rfl) (F.ev rfl)) fun a F=>?_
 refine lxv (.bool true) F (o_pick (b:=true) (r:=.bool true) (F.ev rfl) (F.ev rfl) rfl rfl) fun a F=>?_
 refine lxv (.bool true) F (o_assign (F.ev rfl)) fun a F=>?_
 refine lx_nil ?_
 repeat first|refine et1 ?_|refine eb1 ?_|refine ws1 ?_|refine wb1 ?_|refine wk1 ?_
 refine wp_ret ?_
 repeat (first | refine ex_thenR ?_ | refine ex_blockR ?_)
 exact sx_ret F HM (res_tmp F rfl (s:=6) rfl)

theorem two_sum {Q A B c d:Nat} (h1:1<Q) (hd:d<Q):((B+A*c%Q)%Q+Q-(B+A*d%Q)%Q)%Q=A*((c+Q-d)%Q)%Q:=by
 have hy:(B+A*d%Q)%Q<Q:=Nat.mod_lt _ (by omega)
 refine Cg.eq (Nat.mod_lt _ (by omega)) (Nat.mod_lt _ (by omega)) ?_
 have n1:∀ X:Nat,Cg Q ((X%Q:Nat):Int) (X:Int):=fun X=>by rw [Int.natCast_emod];exact Cg.emod Q _
 have q0:Cg Q (Q:Int) 0:=⟨1,by omega⟩
 have a1:Cg Q (((B+A*c%Q)%Q:Nat):Int) ((B:Int)+A*c):=(n1 _).trans (by rw [Int.natCast_add];exact (Cg.refl Q _).add ((n1 _).trans (Cg.of_eq (by rw [Int.natCast_mul]))))
 have a2:Cg Q (((B+A*d%Q)%Q:Nat):Int) ((B:Int)+A*d):=(n1 _).trans (by rw [Int.natCast_add];exact (Cg.refl Q _).add ((n1 _).trans (Cg.of_eq (by rw [Int.natCast_mul]))))
 have l:Cg Q ((((B+A*c%Q)%Q+Q-(B+A*d%Q)%Q)%Q:Nat):Int) ((A:Int)*c-A*d):=(n1 _).trans (by
  rw [Int.natCast_sub (by omega),Int.natCast_add]
  exact ((a1.add q0).sub a2).trans (Cg.of_eq (by omega)))
 have r:Cg Q ((A*((c+Q-d)%Q)%Q:Nat):Int) ((A:Int)*c-A*d):=(n1 _).trans (by
  rw [Int.natCast_mul]
  refine ((Cg.refl Q (A:Int)).mul ((n1 _).trans (by rw [Int.natCast_sub (by omega),Int.natCast_add];exact ((Cg.refl Q _).add q0).sub (Cg.refl Q _)))).trans (Cg.of_eq ?_)
  rw [Int.add_zero,Int.mul_sub])
 exact l.trans r.symm
theorem stwo_any (P Q G H A B K C S:Nat) (h:Nat→Nat) (hP:P<2^256) (hQ:Q<2^256) (hG:G<2^256) (hH:H<2^256) (hA:A<2^256) (hB:B<2^256) (hK:K<2^256) (hC:C<2^256) (hS:S<2^256) (hh:∀ i,h i<256) (k:Nat→Nat) (hk:∀ i,k i<256) (w0:World) (T:By.Tabs w0):Calls Tryd.prog 4 #[grp P Q G H,gvv A B K h C S,hsv k] w0 fun e w'=>e=.returned (.bool true)∧Below w0.heap.size w0 w':=by
 rcases hf:(nzB Q [A,B] && goodB P Q G H) with _ | _
 ·exact two_n P Q G H A B K C S h hP hQ hG hH hA hB hK hC hS hh k hk w0 T hf
 ·obtain ⟨hn,hg⟩:=Bool.and_eq_true_iff.1 hf
  obtain ⟨gd,_,_⟩:=gd_of hP hQ hG hg
  have h1:=gd.pri.1
  obtain ⟨a1,a2⟩:=nz_of hn (x:=A) (by simp)
  obtain ⟨b1,b2⟩:=nz_of hn (x:=B) (by simp)
  have s1:=sign_gd gd H h hh a2 b2 a1 b1
  have s2:=sign_gd gd H k hk a2 b2 a1 b1
  have hc:=sgC_lt (S:=A) (D:=B) gd h
  have hd:=sgC_lt (S:=A) (D:=B) gd k
  have hx:=sgS_lt (S:=A) (D:=B) gd h
  have hy:=sgS_lt (S:=A) (D:=B) gd k
  have e:(sgS P Q G h A B+Q-sgS P Q G k A B)%Q=A*((sgC P Q G h A B+Q-sgC P Q G k A B)%Q)%Q:=two_sum (by omega) hd
  generalize sgC P Q G h A B=c at *
  generalize sgC P Q G k A B=d at *
  generalize sgS P Q G h A B=x at *
  generalize sgS P Q G k A B=y at *
  have c1:=ssub_yes P Q G H c d hQ (by omega) hc hd
  have c2:=ssub_yes P Q G H x y hQ (by omega) hx hy
  have hm:(c+Q-d)%Q<Q:=Nat.mod_lt _ (by omega)
  have hq:(x+Q-y)%Q<Q:=Nat.mod_lt _ (by omega)
  generalize (c+Q-d)%Q=m at *
  generalize (x+Q-y)%Q=q at *
  by_cases hz:m=0
  ·exact two_z P Q G H A B K C S h hP hQ hG hH hA hB hK hC hS hh k hk w0 T hf c x d y m q hm hq s1 s2 c1 c2 (decide_eq_true hz) (decide_eq_true (by rw [e,hz,Nat.mul_zero,Nat.zero_mod]))
  ·have hg1:Nat.gcd m Q=1:=by rw [Nat.gcd_comm];exact gd.pri.cop fun hd=>hz (Nat.eq_zero_of_dvd_of_lt hd hm)
   obtain ⟨v,hv,hmv⟩:=inv_ex (by omega) hg1
   have c3:=sinv_yes P Q G H m v hQ (by omega) hm hv hmv
   have c4:=smul_yes P Q G H q v hQ (by omega) hq hv
   have e2:q*v%Q=A:=by rw [e,Nat.mod_mul_mod,Nat.mul_assoc,Nat.mul_mod,hmv,Nat.mul_one,Nat.mod_mod,Nat.mod_eq_of_lt a1]
   rw [e2] at c4
   exact two_y P Q G H A B K C S h hP hQ hG hH hA hB hK hC hS hh k hk w0 T hf c x d y m q hm hq s1 s2 c1 c2 (decide_eq_false hz) v c3 c4
end Go.Proofs.YtlphnfajhpkleaaDoor
