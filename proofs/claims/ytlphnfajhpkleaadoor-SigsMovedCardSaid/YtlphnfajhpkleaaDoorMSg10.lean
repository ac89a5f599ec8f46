/-
 SigsMoved,walked.
-/
import Derived.Deep.Cut
import Derived.Test.YtlphnfajhpkleaaDoorMSg7
import Derived.Test.YtlphnfajhpkleaaDoorMSmall
namespace Go.Proofs.YtlphnfajhpkleaaDoor
set_option maxRecDepth 100000
open Go.RowKit
set_option linter.unusedSimpArgs false
set_option linter.unusedVariables false
attribute [local go_sem ↓] Go.wp_at_zero Go.wp_at_succ

set_option maxRecDepth 100000 in
set_option maxHeartbeats 800000 in
theorem mov_n (P Q G H A B K C S:Nat) (h:Nat→Nat) (hP:P<2^256) (hQ:Q<2^256) (hG:G<2^256) (hH:H<2^256) (hA:A<2^256) (hB:B<2^256) (hK:K<2^256) (hC:C<2^256) (hS:S<2^256) (hh:∀ i,h i<256) (O:Nat) (hO:O<2^256) (w0:World) (T:By.Tabs w0) (hf:(nzB Q [A,B] && goodB P Q G H)=false)  : Calls Tryd.prog 6 #[grp P Q G H,gvv A B K h C S,num O] w0 fun e w'=>e=.returned (.bool true)∧Below w0.heap.size w0 w':=by
 refine sx_enter (args:=[grp P Q G H,gvv A B K h C S,num O]) Tryd.func6 rfl Tryd.ntmps6 (by rfl) fun a F HM=>?_
 repeat first|refine et1 ?_|refine eb1 ?_|refine ws1 ?_|refine wb1 ?_|refine wk1 ?_
 refine wp_region_lit ?_
 refine lx_new F HM (wanted_none rfl _) rfl (by rfl) (o_boxG (F.ev rfl)) fun a w gg F HM=>?_
 refine lx_new F HM (wanted_none rfl _) rfl (by rfl) (o_boxV (F.ev rfl)) fun a w gz F HM=>?_
 refine lx_new F HM (wanted_none rfl _) rfl (by rfl) (o_boxN (F.ev rfl)) fun a w go F HM=>?_
 refine lxv (.bool false) F (o_assign rfl) fun a F=>?_
 refine lx_nil ?_
 repeat first|refine et1 ?_|refine eb1 ?_|refine ws1 ?_|refine wb1 ?_|refine wk1 ?_
 refine wp_region_lit ?_
 refine lxv (grp P Q G H) F (o_loadG (F.ev rfl) (HM.get 2 rfl)) fun a F=>?_
 refine lxv (.pointer (some ⟨gz,0,none⟩)) F (o_fldV0 (F.ev rfl)) fun a F=>?_
 refine lxv (num A) F (o_ldV0 (F.ev rfl) (HM.get 1 rfl)) fun a F=>?_
 refine lxv (.pointer (some ⟨gz,4,none⟩)) F (o_fldV1 (F.ev rfl)) fun a F=>?_
 refine lxv (num B) F (o_ldV4 (F.ev rfl) (HM.get 1 rfl)) fun a F=>?_
 refine lx_rowM F HM (wanted_none rfl _) rfl (by rfl) (o_slice2 (F.ev rfl) (F.ev rfl)) fun a w gr F HM=>?_
 refine lx_call F (wanted_none rfl _) rfl (by rfl) (run_callF Tryd.func7 (by kernel_rfl) (by rfl) (.cons (F.ev rfl) (.cons (F.ev rfl) .nil)) _) (fine13_is P Q G H 2 2 _ [A,B] hP hQ hG hH _ hf (rn_2 (HM.get 0 rfl) hA hB)) fun a w z F=>?_
 replace HM:=HM.on z
 clear z
 refine lxv (.bool true) F (o_not (b:=false) (r:=true) (F.ev rfl) rfl) fun a F=>?_
 refine lxv (.bool true) F (o_move (F.ev rfl)) fun a F=>?_
 refine lxp 24 true F fun a F=>?_
 refine lxp 24 true F fun a F=>?_
 refine lxp 24 true F fun a F=>?_
 refine lxp 24 true F fun a F=>?_
 refine lxp 24 true F fun a F=>?_
 refine lxv (.bool true) F (o_pick (b:=true) (r:=.bool true) (F.ev rfl) rfl (F.ev rfl) rfl) fun a F=>?_
 refine lx_nil ?_
 repeat first|refine et1 ?_|refine eb1 ?_|refine ws1 ?_|refine wb1 ?_|refine wk1 ?_
 refine wp_cond_true (F.ev rfl) ?_
 repeat first|refine et1 ?_|refine eb1 ?_|refine ws1 ?_|refine wb1 ?_|refine wk1 ?_
 refine wp_region_lit ?_
 refine lx_call F (wanted_none rfl _) rfl (by rfl) (run_callF Tryd.func8 (by kernel_rfl) (by rfl) .nil _) (alive13_any _ (T.on HM.bel)) fun a w z F=>?_
 replace HM:=HM.on z
 clear z
 refine lxv (.bool true) F (o_assign (F.ev rfl)) fun a F=>?_
 refine lx_nil ?_
 repeat first|refine et1 ?_|refine eb1 ?_|refine ws1 ?_|refine wb1 ?_|refine wk1 ?_
 refine wp_ret ?_
 repeat (first | refine ex_thenR ?_ | refine ex_blockR ?_)
 exact sx_ret F HM (res_tmp F rfl (s:=6) rfl)

set_option maxRecDepth 100000 in
set_option maxHeartbeats 800000 in
theorem mov_g (P Q G H A B K C S:Nat) (h:Nat→Nat) (hP:P<2^256) (hQ:Q<2^256) (hG:G<2^256) (hH:H<2^256) (hA:A<2^256) (hB:B<2^256) (hK:K<2^256) (hC:C<2^256) (hS:S<2^256) (hh:∀ i,h i<256) (O:Nat) (hO:O<2^256) (w0:World) (T:By.Tabs w0) (hf:(nzB Q [A,B] && goodB P Q G H)=true) (hge:decide ((0:Int)≤cmpN O Q)=true)  : Calls Tryd.prog 6 #[grp P Q G H,gvv A B K h C S,num O] w0 fun e w'=>e=.returned (.bool true)∧Below w0.heap.size w0 w':=by
 refine sx_enter (args:=[grp P Q G H,gvv A B K h C S,num O]) Tryd.func6 rfl Tryd.ntmps6 (by rfl) fun a F HM=>?_
 repeat first|refine et1 ?_|refine eb1 ?_|refine ws1 ?_|refine wb1 ?_|refine wk1 ?_
 refine wp_region_lit ?_
 refine lx_new F HM (wanted_none rfl _) rfl (by rfl) (o_boxG (F.ev rfl)) fun a w gg F HM=>?_
 refine lx_new F HM (wanted_none rfl _) rfl (by rfl) (o_boxV (F.ev rfl)) fun a w gz F HM=>?_
 refine lx_new F HM (wanted_none rfl _) rfl (by rfl) (o_boxN (F.ev rfl)) fun a w go F HM=>?_
 refine lxv (.bool false) F (o_assign rfl) fun a F=>?_
 refine lx_nil ?_
 repeat first|refine et1 ?_|refine eb1 ?_|refine ws1 ?_|refine wb1 ?_|refine wk1 ?_
 refine wp_region_lit ?_
 refine lxv (grp P Q G H) F (o_loadG (F.ev rfl) (HM.get 2 rfl)) fun a F=>?_
 refine lxv (.pointer (some ⟨gz,0,none⟩)) F (o_fldV0 (F.ev rfl)) fun a F=>?_
 refine lxv (num A) F (o_ldV0 (F.ev rfl) (HM.get 1 rfl)) fun a F=>?_
 refine lxv (.pointer (some ⟨gz,4,none⟩)) F (o_fldV1 (F.ev rfl)) fun a F=>?_
 refine lxv (num B) F (o_ldV4 (F.ev rfl) (HM.get 1 rfl)) fun a F=>?_
 refine lx_rowM F HM (wanted_none rfl _) rfl (by rfl) (o_slice2 (F.ev rfl) (F.ev rfl)) fun a w gr F HM=>?_
 refine lx_call F (wanted_none rfl _) rfl (by rfl) (run_callF Tryd.func7 (by kernel_rfl) (by rfl) (.cons (F.ev rfl) (.cons (F.ev rfl) .nil)) _) (fine13_is P Q G H 2 2 _ [A,B] hP hQ hG hH _ hf (rn_2 (HM.get 0 rfl) hA hB)) fun a w z F=>?_
 replace HM:=HM.on z
 clear z
 refine lxv (.bool false) F (o_not (b:=true) (r:=false) (F.ev rfl) rfl) fun a F=>?_
 refine lxv (.bool false) F (o_move (F.ev rfl)) fun a F=>?_
 refine lxw 24 false (num O) F (o_loadN (F.ev rfl) (HM.get 1 rfl)) fun a F=>?_
 refine lxw 24 false (.pointer (some ⟨gg,4,none⟩)) F (o_fieldG1 (F.ev rfl)) fun a F=>?_
 refine lxw 24 false (num Q) F (o_loadG1 (F.ev rfl) (HM.get 3 rfl)) fun a F=>?_
 refine lx_call F (F.want (t:=24) (c:=false) rfl rfl rfl (by rfl) rfl) rfl (by rfl) (run_callF Tryd.func12 (by kernel_rfl) (by rfl) (.cons (F.ev rfl) (.cons (F.ev rfl) .nil)) _) ((fun w=>cmp_any O Q hO hQ w) _) fun a w z F=>?_
 replace HM:=HM.on z
 clear z
 refine lxw 24 false (.bool true) F (o_geqI hge (F.ev rfl) rfl) fun a F=>?_
 refine lxv (.bool true) F (o_pick (b:=false) (r:=.bool true) (F.ev rfl) rfl (F.ev rfl) rfl) fun a F=>?_
 refine lx_nil ?_
 repeat first|refine et1 ?_|refine eb1 ?_|refine ws1 ?_|refine wb1 ?_|refine wk1 ?_
 refine wp_cond_true (F.ev rfl) ?_
 repeat first|refine et1 ?_|refine eb1 ?_|refine ws1 ?_|refine wb1 ?_|refine wk1 ?_
 refine wp_region_lit ?_
 refine lx_call F (wanted_none rfl _) rfl (by rfl) (run_callF Tryd.func8 (by kernel_rfl) (by rfl) .nil _) (alive13_any _ (T.on HM.bel)) fun a w z F=>?_
 replace HM:=HM.on z
 clear z
 refine lxv (.bool true) F (o_assign (F.ev rfl)) fun a F=>?_
 refine lx_nil ?_
 repeat first|refine et1 ?_|refine eb1 ?_|refine ws1 ?_|refine wb1 ?_|refine wk1 ?_
 refine wp_ret ?_
 repeat (first | refine ex_thenR ?_ | refine ex_blockR ?_)
 exact sx_ret F HM (res_tmp F rfl (s:=6) rfl)

set_option maxRecDepth 100000 in
set_option maxHeartbeats 800000 in
theorem mov_z (P Q G H A B K C S:Nat) (h:Nat→Nat) (hP:P<2^256) (hQ:Q<2^256) (hG:G<2^256) (hH:H<2^256) (hA:A<2^256) (hB:B<2^256) (hK:K<2^256) (hC:C<2^256) (hS:S<2^256) (hh:∀ i,h i<256) (O:Nat) (hO:O<2^256) (w0:World) (T:By.Tabs w0) (hf:(nzB Q [A,B] && goodB P Q G H)=true) (hge:decide ((0:Int)≤cmpN O Q)=false) (k:Nat) (hk:k<2^256) (ck:∀ w,Calls Tryd.prog 9 #[grp P Q G H,num G,num A] w fun e w'=>e=.returned (.tuple #[num k,.int .i64 0])∧Below w.heap.size w w') (c x m:Nat) (hm:m<Q) (s1:∀ w,By.Tabs w→Calls Tryd.prog 10 #[grp P Q G H,num A,hsv h,num B] w fun e w'=>e=.returned (.tuple #[sgv c x,.int .i64 0])∧Below w.heap.size w w') (c1:∀ w,Calls Tryd.prog 17 #[grp P Q G H,num B,num O] w fun e w'=>e=.returned (.tuple #[num m,.int .i64 0])∧Below w.heap.size w w') (hz:decide (m=0)=true):Calls Tryd.prog 6 #[grp P Q G H,gvv A B K h C S,num O] w0 fun e w'=>e=.returned (.bool true)∧Below w0.heap.size w0 w':=by
 refine sx_enter (args:=[grp P Q G H,gvv A B K h C S,num O]) Tryd.func6 rfl Tryd.ntmps6 (by rfl) fun a F HM=>?_
 repeat first|refine et1 ?_|refine eb1 ?_|refine ws1 ?_|refine wb1 ?_|refine wk1 ?_
 refine wp_region_lit ?_
 refine lx_new F HM (wanted_none rfl _) rfl (by rfl) (o_boxG (F.ev rfl)) fun a w gg F HM=>?_
 refine lx_new F HM (wanted_none rfl _) rfl (by rfl) (o_boxV (F.ev rfl)) fun a w gz F HM=>?_
 refine lx_new F HM (wanted_none rfl _) rfl (by rfl) (o_boxN (F.ev rfl)) fun a w go F HM=>?_
 refine lxv (.bool false) F (o_assign rfl) fun a F=>?_
 refine lx_nil ?_
 repeat first|refine et1 ?_|refine eb1 ?_|refine ws1 ?_|refine wb1 ?_|refine wk1 ?_
 refine wp_region_lit ?_
 refine lxv (grp P Q G H) F (o_loadG (F.ev rfl) (HM.get 2 rfl)) fun a F=>?_
 refine lxv (.pointer (some ⟨gz,0,none⟩)) F (o_fldV0 (F.ev rfl)) fun a F=>?_
 refine lxv (num A) F (o_ldV0 (F.ev rfl) (HM.get 1 rfl)) fun a F=>?_
 refine lxv (.pointer (some ⟨gz,4,none⟩)) F (o_fldV1 (F.ev rfl)) fun a F=>?_
 refine lxv (num B) F (o_ldV4 (F.ev rfl) (HM.get 1 rfl)) fun a F=>?_
 refine lx_rowM F HM (wanted_none rfl _) rfl (by rfl) (o_slice2 (F.ev rfl) (F.ev rfl)) fun a w gr F HM=>?_
 refine lx_call F (wanted_none rfl _) rfl (by rfl) (run_callF Tryd.func7 (by kernel_rfl) (by rfl) (.cons (F.ev rfl) (.cons (F.ev rfl) .nil)) _) (fine13_is P Q G H 2 2 _ [A,B] hP hQ hG hH _ hf (rn_2 (HM.get 0 rfl) hA hB)) fun a w z F=>?_
 replace HM:=HM.on z
 clear z
 refine lxv (.bool false) F (o_not (b:=true) (r:=false) (F.ev rfl) rfl) fun a F=>?_
 refine lxv (.bool false) F (o_move (F.ev rfl)) fun a F=>?_
 refine lxw 24 false (num O) F (o_loadN (F.ev rfl) (HM.get 1 rfl)) fun a F=>?_
 refine lxw 24 false (.pointer (some ⟨gg,4,none⟩)) F (o_fieldG1 (F.ev rfl)) fun a F=>?_
 refine lxw 24 false (num Q) F (o_loadG1 (F.ev rfl) (HM.get 3 rfl)) fun a F=>?_
 refine lx_call F (F.want (t:=24) (c:=false) rfl rfl rfl (by rfl) rfl) rfl (by rfl) (run_callF Tryd.func12 (by kernel_rfl) (by rfl) (.cons (F.ev rfl) (.cons (F.ev rfl) .nil)) _) ((fun w=>cmp_any O Q hO hQ w) _) fun a w z F=>?_
 replace HM:=HM.on z
 clear z
 refine lxw 24 false (.bool false) F (o_geqI hge (F.ev rfl) rfl) fun a F=>?_
 refine lxv (.bool false) F (o_pick (b:=false) (r:=.bool false) (F.ev rfl) rfl (F.ev rfl) rfl) fun a F=>?_
 refine lx_nil ?_
 repeat first|refine et1 ?_|refine eb1 ?_|refine ws1 ?_|refine wb1 ?_|refine wk1 ?_
 refine wp_cond_false (F.ev rfl) ?_
 replace HM:=HM.erase 0 (M2:=[(go,24,ncs O),(gz,32,gvc A B K h C S),(gg,26,gcs P Q G H)]) rfl
 have hm2:m<2^256:=Nat.lt_trans hm hQ
 repeat first|refine et1 ?_|refine eb1 ?_|refine ws1 ?_|refine wb1 ?_|refine wk1 ?_
 refine wp_region_lit ?_
 refine lxv (grp P Q G H) F (o_loadG (F.ev rfl) (HM.get 2 rfl)) fun a F=>?_
 refine lxv (.pointer (some ⟨gg,8,none⟩)) F (o_fieldG2 (F.ev rfl)) fun a F=>?_
 refine lxv (num G) F (o_loadG2 (F.ev rfl) (HM.get 2 rfl)) fun a F=>?_
 refine lxv (.pointer (some ⟨gz,0,none⟩)) F (o_fldV0 (F.ev rfl)) fun a F=>?_
 refine lxv (num A) F (o_ldV0 (F.ev rfl) (HM.get 1 rfl)) fun a F=>?_
 refine lx_call F (wanted_none rfl _) rfl (by rfl) (run_callF Tryd.func9 (by kernel_rfl) (by rfl) (.cons (F.ev rfl) (.cons (F.ev rfl) (.cons (F.ev rfl) .nil))) _) (ck _) fun a w z F=>?_
 replace HM:=HM.on z
 clear z
 refine lxv (.tuple #[num k,.int .i64 0]) F (o_move (F.ev rfl)) fun a F=>?_
 refine lxv (num k) F (o_extract (F.ev rfl) rfl) fun a F=>?_
 refine lxv (.int .i64 0) F (o_extract (F.ev rfl) rfl) fun a F=>?_
 refine lx_new F HM (wanted_none rfl _) rfl (by rfl) (o_allocN) fun a w gk F HM=>?_
 refine lx_store F HM (wanted_none rfl _) rfl (k:=0) rfl (o_storeN (F.ev rfl) (F.ev rfl) (HM.get 0 rfl)) (M2:=[(gk,24,ncs k),(go,24,ncs O),(gz,32,gvc A B K h C S),(gg,26,gcs P Q G H)]) (rfl) fun w HM=>?_
 refine lxv (.int .i64 0) F (o_assign (F.ev rfl)) fun a F=>?_
 refine lx_nil ?_
 repeat first|refine et1 ?_|refine eb1 ?_|refine ws1 ?_|refine wb1 ?_|refine wk1 ?_
 refine wp_region_lit ?_
 refine lxv (grp P Q G H) F (o_loadG (F.ev rfl) (HM.get 3 rfl)) fun a F=>?_
 refine lxv (.pointer (some ⟨gz,0,none⟩)) F (o_fldV0 (F.ev rfl)) fun a F=>?_
 refine lxv (num A) F (o_ldV0 (F.ev rfl) (HM.get 2 rfl)) fun a F=>?_
 refine lxv (.pointer (some ⟨gz,12,none⟩)) F (o_fldV3 (F.ev rfl)) fun a F=>?_
 refine lxv (hsv h) F (o_ldV12 (F.ev rfl) (HM.get 2 rfl)) fun a F=>?_
 refine lxv (.pointer (some ⟨gz,4,none⟩)) F (o_fldV1 (F.ev rfl)) fun a F=>?_
 refine lxv (num B) F (o_ldV4 (F.ev rfl) (HM.get 2 rfl)) fun a F=>?_
 refine lx_call F (wanted_none rfl _) rfl (by rfl) (run_callF Tryd.func10 (by kernel_rfl) (by rfl) (.cons (F.ev rfl) (.cons (F.ev rfl) (.cons (F.ev rfl) (.cons (F.ev rfl) .nil)))) _) (s1 _ (T.on HM.bel)) fun a w z F=>?_
 replace HM:=HM.on z
 clear z
 refine lxv (.tuple #[sgv c x,.int .i64 0]) F (o_move (F.ev rfl)) fun a F=>?_
 refine lxv (sgv c x) F (o_extract (F.ev rfl) rfl) fun a F=>?_
 refine lxv (.int .i64 0) F (o_extract (F.ev rfl) rfl) fun a F=>?_
 refine lx_new F HM (wanted_none rfl _) rfl (by rfl) (o_allocS) fun a w gs F HM=>?_
 refine lx_store F HM (wanted_none rfl _) rfl (k:=0) rfl (o_stS (F.ev rfl) (F.ev rfl) (HM.get 0 rfl)) (M2:=[(gs,30,sgc c x),(gk,24,ncs k),(go,24,ncs O),(gz,32,gvc A B K h C S),(gg,26,gcs P Q G H)]) (by rw [sets_sg];rfl) fun w HM=>?_
 refine lxv (.int .i64 0) F (o_assign (F.ev rfl)) fun a F=>?_
 refine lx_nil ?_
 repeat first|refine et1 ?_|refine eb1 ?_|refine ws1 ?_|refine wb1 ?_|refine wk1 ?_
 refine wp_region_lit ?_
 refine lxv (grp P Q G H) F (o_loadG (F.ev rfl) (HM.get 4 rfl)) fun a F=>?_
 refine lxv (.pointer (some ⟨gz,4,none⟩)) F (o_fldV1 (F.ev rfl)) fun a F=>?_
 refine lxv (num B) F (o_ldV4 (F.ev rfl) (HM.get 3 rfl)) fun a F=>?_
 refine lxv (num O) F (o_loadN (F.ev rfl) (HM.get 2 rfl)) fun a F=>?_
 refine lx_call F (wanted_none rfl _) rfl (by rfl) (run_callF Tryd.func17 (by kernel_rfl) (by rfl) (.cons (F.ev rfl) (.cons (F.ev rfl) (.cons (F.ev rfl) .nil))) _) (c1 _) fun a w z F=>?_
 replace HM:=HM.on z
 clear z
 refine lxv (.tuple #[num m,.int .i64 0]) F (o_move (F.ev rfl)) fun a F=>?_
 refine lxv (num m) F (o_extract (F.ev rfl) rfl) fun a F=>?_
 refine lxv (.int .i64 0) F (o_extract (F.ev rfl) rfl) fun a F=>?_
 refine lx_new F HM (wanted_none rfl _) rfl (by rfl) (o_allocN) fun a w gm F HM=>?_
 refine lx_store F HM (wanted_none rfl _) rfl (k:=0) rfl (o_storeN (F.ev rfl) (F.ev rfl) (HM.get 0 rfl)) (M2:=[(gm,24,ncs m),(gs,30,sgc c x),(gk,24,ncs k),(go,24,ncs O),(gz,32,gvc A B K h C S),(gg,26,gcs P Q G H)]) (rfl) fun w HM=>?_
 refine lxv (.int .i64 0) F (o_assign (F.ev rfl)) fun a F=>?_
 refine lx_nil ?_
 repeat first|refine et1 ?_|refine eb1 ?_|refine ws1 ?_|refine wb1 ?_|refine wk1 ?_
 refine wp_region_lit ?_
 refine lxv (.int .i64 0) F (o_move (F.ev rfl)) fun a F=>?_
 refine lxv (.bool false) F (o_bin (u:=.int .i64 0) (v:=.int .i64 0) (fun ρ hx hy=>by simp only [execOp,hx,hy];simp [go_sem]) (F.ev rfl) rfl) fun a F=>?_
 refine lxv (.bool false) F (o_move (F.ev rfl)) fun a F=>?_
 refine lxw 62 false (.int .i64 0) F (o_move (F.ev rfl)) fun a F=>?_
 refine lxw 62 false (.bool false) F (o_bin (u:=.int .i64 0) (v:=.int .i64 0) (fun ρ hx hy=>by simp only [execOp,hx,hy];simp [go_sem]) (F.ev rfl) rfl) fun a F=>?_
 refine lxv (.bool false) F (o_pick (b:=false) (r:=.bool false) (F.ev rfl) rfl (F.ev rfl) rfl) fun a F=>?_
 refine lxv (.bool false) F (o_move (F.ev rfl)) fun a F=>?_
 refine lxw 66 false (.int .i64 0) F (o_move (F.ev rfl)) fun a F=>?_
 refine lxw 66 false (.bool false) F (o_bin (u:=.int .i64 0) (v:=.int .i64 0) (fun ρ hx hy=>by simp only [execOp,hx,hy];simp [go_sem]) (F.ev rfl) rfl) fun a F=>?_
 refine lxv (.bool false) F (o_pick (b:=false) (r:=.bool false) (F.ev rfl) rfl (F.ev rfl) rfl) fun a F=>?_
 refine lx_nil ?_
 repeat first|refine et1 ?_|refine eb1 ?_|refine ws1 ?_|refine wb1 ?_|refine wk1 ?_
 refine wp_cond_false (F.ev rfl) ?_
 repeat first|refine et1 ?_|refine eb1 ?_|refine ws1 ?_|refine wb1 ?_|refine wk1 ?_
 refine wp_region_lit ?_
 refine lxv (num m) F (o_loadN (F.ev rfl) (HM.get 0 rfl)) fun a F=>?_
 refine lxv (num 0) F (o_build0) fun a F=>?_
 refine lxv (.bool true) F (o_eqlN hm2 n0_256 hz (F.ev rfl) (F.ev rfl)) fun a F=>?_
 refine lx_nil ?_
 repeat first|refine et1 ?_|refine eb1 ?_|refine ws1 ?_|refine wb1 ?_|refine wk1 ?_
 refine wp_cond_true (F.ev rfl) ?_
 repeat first|refine et1 ?_|refine eb1 ?_|refine ws1 ?_|refine wb1 ?_|refine wk1 ?_
 refine wp_region_lit ?_
 refine lx_call F (wanted_none rfl _) rfl (by rfl) (run_callF Tryd.func8 (by kernel_rfl) (by rfl) .nil _) (alive13_any _ (T.on HM.bel)) fun a w z F=>?_
 replace HM:=HM.on z
 clear z
 refine lxv (.bool true) F (o_assign (F.ev rfl)) fun a F=>?_
 refine lx_nil ?_
 repeat first|refine et1 ?_|refine eb1 ?_|refine ws1 ?_|refine wb1 ?_|refine wk1 ?_
 refine wp_ret ?_
 repeat (first | refine ex_thenR ?_ | refine ex_blockR ?_)
 exact sx_ret F HM (res_tmp F rfl (s:=6) rfl)

set_option maxRecDepth 100000 in
set_option maxHeartbeats 800000 in
theorem mov_y (P Q G H A B K C S:Nat) (h:Nat→Nat) (hP:P<2^256) (hQ:Q<2^256) (hG:G<2^256) (hH:H<2^256) (hA:A<2^256) (hB:B<2^256) (hK:K<2^256) (hC:C<2^256) (hS:S<2^256) (hh:∀ i,h i<256) (O:Nat) (hO:O<2^256) (w0:World) (T:By.Tabs w0) (hf:(nzB Q [A,B] && goodB P Q G H)=true) (hge:decide ((0:Int)≤cmpN O Q)=false) (k:Nat) (hk:k<2^256) (ck:∀ w,Calls Tryd.prog 9 #[grp P Q G H,num G,num A] w fun e w'=>e=.returned (.tuple #[num k,.int .i64 0])∧Below w.heap.size w w') (c x m:Nat) (hm:m<Q) (s1:∀ w,By.Tabs w→Calls Tryd.prog 10 #[grp P Q G H,num A,hsv h,num B] w fun e w'=>e=.returned (.tuple #[sgv c x,.int .i64 0])∧Below w.heap.size w w') (c1:∀ w,Calls Tryd.prog 17 #[grp P Q G H,num B,num O] w fun e w'=>e=.returned (.tuple #[num m,.int .i64 0])∧Below w.heap.size w w') (hz:decide (m=0)=false) (d y q:Nat) (hc:c<Q) (hd:d<Q) (hq:q<Q) (s2:∀ w,By.Tabs w→Calls Tryd.prog 10 #[grp P Q G H,num A,hsv h,num m] w fun e w'=>e=.returned (.tuple #[sgv d y,.int .i64 0])∧Below w.heap.size w w') (c2:∀ w,Calls Tryd.prog 17 #[grp P Q G H,num x,num O] w fun e w'=>e=.returned (.tuple #[num q,.int .i64 0])∧Below w.heap.size w w') (b:Bool) (hb1:chkB P Q G k h c q=b) (hb2:decide (d=c)=b):Calls Tryd.prog 6 #[grp P Q G H,gvv A B K h C S,num O] w0 fun e w'=>e=.returned (.bool true)∧Below w0.heap.size w0 w':=by
 refine sx_enter (args:=[grp P Q G H,gvv A B K h C S,num O]) Tryd.func6 rfl Tryd.ntmps6 (by rfl) fun a F HM=>?_
 repeat first|refine et1 ?_|refine eb1 ?_|refine ws1 ?_|refine wb1 ?_|refine wk1 ?_
 refine wp_region_lit ?_
 refine lx_new F HM (wanted_none rfl _) rfl (by rfl) (o_boxG (F.ev rfl)) fun a w gg F HM=>?_
 refine lx_new F HM (wanted_none rfl _) rfl (by rfl) (o_boxV (F.ev rfl)) fun a w gz F HM=>?_
 refine lx_new F HM (wanted_none rfl _) rfl (by rfl) (o_boxN (F.ev rfl)) fun a w go F HM=>?_
 refine lxv (.bool false) F (o_assign rfl) fun a F=>?_
 refine lx_nil ?_
 repeat first|refine et1 ?_|refine eb1 ?_|refine ws1 ?_|refine wb1 ?_|refine wk1 ?_
 refine wp_region_lit ?_
 refine lxv (grp P Q G H) F (o_loadG (F.ev rfl) (HM.get 2 rfl)) fun a F=>?_
 refine lxv (.pointer (some ⟨gz,0,none⟩)) F (o_fldV0 (F.ev rfl)) fun a F=>?_
 refine lxv (num A) F (o_ldV0 (F.ev rfl) (HM.get 1 rfl)) fun a F=>?_
 refine lxv (.pointer (some ⟨gz,4,none⟩)) F (o_fldV1 (F.ev rfl)) fun a F=>?_
 refine lxv (num B) F (o_ldV4 (F.ev rfl) (HM.get 1 rfl)) fun a F=>?_
 refine lx_rowM F HM (wanted_none rfl _) rfl (by rfl) (o_slice2 (F.ev rfl) (F.ev rfl)) fun a w gr F HM=>?_
 refine lx_call F (wanted_none rfl _) rfl (by rfl) (run_callF Tryd.func7 (by kernel_rfl) (by rfl) (.cons (F.ev rfl) (.cons (F.ev rfl) .nil)) _) (fine13_is P Q G H 2 2 _ [A,B] hP hQ hG hH _ hf (rn_2 (HM.get 0 rfl) hA hB)) fun a w z F=>?_
 replace HM:=HM.on z
 clear z
 refine lxv (.bool false) F (o_not (b:=true) (r:=false) (F.ev rfl) rfl) fun a F=>?_
 refine lxv (.bool false) F (o_move (F.ev rfl)) fun a F=>?_
 refine lxw 24 false (num O) F (o_loadN (F.ev rfl) (HM.get 1 rfl)) fun a F=>?_
 refine lxw 24 false (.pointer (some ⟨gg,4,none⟩)) F (o_fieldG1 (F.ev rfl)) fun a F=>?_
 refine lxw 24 false (num Q) F (o_loadG1 (F.ev rfl) (HM.get 3 rfl)) fun a F=>?_
 refine lx_call F (F.want (t:=24) (c:=false) rfl rfl rfl (by rfl) rfl) rfl (by rfl) (run_callF Tryd.func12 (by kernel_rfl) (by rfl) (.cons (F.ev rfl) (.cons (F.ev rfl) .nil)) _) ((fun w=>cmp_any O Q hO hQ w) _) fun a w z F=>?_
 replace HM:=HM.on z
 clear z
 refine lxw 24 false (.bool false) F (o_geqI hge (F.ev rfl) rfl) fun a F=>?_
 refine lxv (.bool false) F (o_pick (b:=false) (r:=.bool false) (F.ev rfl) rfl (F.ev rfl) rfl) fun a F=>?_
 refine lx_nil ?_
 repeat first|refine et1 ?_|refine eb1 ?_|refine ws1 ?_|refine wb1 ?_|refine wk1 ?_
 refine wp_cond_false (F.ev rfl) ?_
 replace HM:=HM.erase 0 (M2:=[(go,24,ncs O),(gz,32,gvc A B K h C S),(gg,26,gcs P Q G H)]) rfl
 have hm2:m<2^256:=Nat.lt_trans hm hQ
 have hc2:c<2^256:=Nat.lt_trans hc hQ
 have hd2:d<2^256:=Nat.lt_trans hd hQ
 have hq2:q<2^256:=Nat.lt_trans hq hQ
 repeat first|refine et1 ?_|refine eb1 ?_|refine ws1 ?_|refine wb1 ?_|refine wk1 ?_
 refine wp_region_lit ?_
 refine lxv (grp P Q G H) F (o_loadG (F.ev rfl) (HM.get 2 rfl)) fun a F=>?_
 refine lxv (.pointer (some ⟨gg,8,none⟩)) F (o_fieldG2 (F.ev rfl)) fun a F=>?_
 refine lxv (num G) F (o_loadG2 (F.ev rfl) (HM.get 2 rfl)) fun a F=>?_
 refine lxv (.pointer (some ⟨gz,0,none⟩)) F (o_fldV0 (F.ev rfl)) fun a F=>?_
 refine lxv (num A) F (o_ldV0 (F.ev rfl) (HM.get 1 rfl)) fun a F=>?_
 refine lx_call F (wanted_none rfl _) rfl (by rfl) (run_callF Tryd.func9 (by kernel_rfl) (by rfl) (.cons (F.ev rfl) (.cons (F.ev rfl) (.cons (F.ev rfl) .nil))) _) (ck _) fun a w z F=>?_
 replace HM:=HM.on z
 clear z
 refine lxv (.tuple #[num k,.int .i64 0]) F (o_move (F.ev rfl)) fun a F=>?_
 refine lxv (num k) F (o_extract (F.ev rfl) rfl) fun a F=>?_
 refine lxv (.int .i64 0) F (o_extract (F.ev rfl) rfl) fun a F=>?_
 refine lx_new F HM (wanted_none rfl _) rfl (by rfl) (o_allocN) fun a w gk F HM=>?_
 refine lx_store F HM (wanted_none rfl _) rfl (k:=0) rfl (o_storeN (F.ev rfl) (F.ev rfl) (HM.get 0 rfl)) (M2:=[(gk,24,ncs k),(go,24,ncs O),(gz,32,gvc A B K h C S),(gg,26,gcs P Q G H)]) (rfl) fun w HM=>?_
 refine lxv (.int .i64 0) F (o_assign (F.ev rfl)) fun a F=>?_
 refine lx_nil ?_
 repeat first|refine et1 ?_|refine eb1 ?_|refine ws1 ?_|refine wb1 ?_|refine wk1 ?_
 refine wp_region_lit ?_
 refine lxv (grp P Q G H) F (o_loadG (F.ev rfl) (HM.get 3 rfl)) fun a F=>?_
 refine lxv (.pointer (some ⟨gz,0,none⟩)) F (o_fldV0 (F.ev rfl)) fun a F=>?_
 refine lxv (num A) F (o_ldV0 (F.ev rfl) (HM.get 2 rfl)) fun a F=>?_
 refine lxv (.pointer (some ⟨gz,12,none⟩)) F (o_fldV3 (F.ev rfl)) fun a F=>?_
 refine lxv (hsv h) F (o_ldV12 (F.ev rfl) (HM.get 2 rfl)) fun a F=>?_
 refine lxv (.pointer (some ⟨gz,4,none⟩)) F (o_fldV1 (F.ev rfl)) fun a F=>?_
 refine lxv (num B) F (o_ldV4 (F.ev rfl) (HM.get 2 rfl)) fun a F=>?_
 refine lx_call F (wanted_none rfl _) rfl (by rfl) (run_callF Tryd.func10 (by kernel_rfl) (by rfl) (.cons (F.ev rfl) (.cons (F.ev rfl) (.cons (F.ev rfl) (.cons (F.ev rfl) .nil)))) _) (s1 _ (T.on HM.bel)) fun a w z F=>?_
 replace HM:=HM.on z
 clear z
 refine lxv (.tuple #[sgv c x,.int .i64 0]) F (o_move (F.ev rfl)) fun a F=>?_
 refine lxv (sgv c x) F (o_extract (F.ev rfl) rfl) fun a F=>?_
 refine lxv (.int .i64 0) F (o_extract (F.ev rfl) rfl) fun a F=>?_
 refine lx_new F HM (wanted_none rfl _) rfl (by rfl) (o_allocS) fun a w gs F HM=>?_
 refine lx_store F HM (wanted_none rfl _) rfl (k:=0) rfl (o_stS (F.ev rfl) (F.ev rfl) (HM.get 0 rfl)) (M2:=[(gs,30,sgc c x),(gk,24,ncs k),(go,24,ncs O),(gz,32,gvc A B K h C S),(gg,26,gcs P Q G H)]) (by rw [sets_sg];rfl) fun w HM=>?_
 refine lxv (.int .i64 0) F (o_assign (F.ev rfl)) fun a F=>?_
 refine lx_nil ?_
 repeat first|refine et1 ?_|refine eb1 ?_|refine ws1 ?_|refine wb1 ?_|refine wk1 ?_
 refine wp_region_lit ?_
 refine lxv (grp P Q G H) F (o_loadG (F.ev rfl) (HM.get 4 rfl)) fun a F=>?_
 refine lxv (.pointer (some ⟨gz,4,none⟩)) F (o_fldV1 (F.ev rfl)) fun a F=>?_
 refine lxv (num B) F (o_ldV4 (F.ev rfl) (HM.get 3 rfl)) fun a F=>?_
 refine lxv (num O) F (o_loadN (F.ev rfl) (HM.get 2 rfl)) fun a F=>?_
 refine lx_call F (wanted_none rfl _) rfl (by rfl) (run_callF Tryd.func17 (by kernel_rfl) (by rfl) (.cons (F.ev rfl) (.cons (F.ev rfl) (.cons (F.ev rfl) .nil))) _) (c1 _) fun a w z F=>?_
 replace HM:=HM.on z
 clear z
 refine lxv (.tuple #[num m,.int .i64 0]) F (o_move (F.ev rfl)) fun a F=>?_
 refine lxv (num m) F (o_extract (F.ev rfl) rfl) fun a F=>?_
 refine lxv (.int .i64 0) F (o_extract (F.ev rfl) rfl) fun a F=>?_
 refine lx_new F HM (wanted_none rfl _) rfl (by rfl) (o_allocN) fun a w gm F HM=>?_
 refine lx_store F HM (wanted_none rfl _) rfl (k:=0) rfl (o_storeN (F.ev rfl) (F.ev rfl) (HM.get 0 rfl)) (M2:=[(gm,24,ncs m),(gs,30,sgc c x),(gk,24,ncs k),(go,24,ncs O),(gz,32,gvc A B K h C S),(gg,26,gcs P Q G H)]) (rfl) fun w HM=>?_
 refine lxv (.int .i64 0) F (o_assign (F.ev rfl)) fun a F=>?_
 refine lx_nil ?_
 repeat first|refine et1 ?_|refine eb1 ?_|refine ws1 ?_|refine wb1 ?_|refine wk1 ?_
 refine wp_region_lit ?_
 refine lxv (.int .i64 0) F (o_move (F.ev rfl)) fun a F=>?_
 refine lxv (.bool false) F (o_bin (u:=.int .i64 0) (v:=.int .i64 0) (fun ρ hx hy=>by simp only [execOp,hx,hy];simp [go_sem]) (F.ev rfl) rfl) fun a F=>?_
 refine lxv (.bool false) F (o_move (F.ev rfl)) fun a F=>?_
 refine lxw 62 false (.int .i64 0) F (o_move (F.ev rfl)) fun a F=>?_
 refine lxw 62 false (.bool false) F (o_bin (u:=.int .i64 0) (v:=.int .i64 0) (fun ρ hx hy=>by simp only [execOp,hx,hy];simp [go_sem]) (F.ev rfl) rfl) fun a F=>?_
 refine lxv (.bool false) F (o_pick (b:=false) (r:=.bool false) (F.ev rfl) rfl (F.ev rfl) rfl) fun a F=>?_
 refine lxv (.bool false) F (o_move (F.ev rfl)) fun a F=>?_
 refine lxw 66 false (.int .i64 0) F (o_move (F.ev rfl)) fun a F=>?_
 refine lxw 66 false (.bool false) F (o_bin (u:=.int .i64 0) (v:=.int .i64 0) (fun ρ hx hy=>by simp only [execOp,hx,hy];simp [go_sem]) (F.ev rfl) rfl) fun a F=>?_
 refine lxv (.bool false) F (o_pick (b:=false) (r:=.bool false) (F.ev rfl) rfl (F.ev rfl) rfl) fun a F=>?_
 refine lx_nil ?_
 repeat first|refine et1 ?_|refine eb1 ?_|refine ws1 ?_|refine wb1 ?_|refine wk1 ?_
 refine wp_cond_false (F.ev rfl) ?_
 repeat first|refine et1 ?_|refine eb1 ?_|refine ws1 ?_|refine wb1 ?_|refine wk1 ?_
 refine wp_region_lit ?_
 refine lxv (num m) F (o_loadN (F.ev rfl) (HM.get 0 rfl)) fun a F=>?_
 refine lxv (num 0) F (o_build0) fun a F=>?_
 refine lxv (.bool false) F (o_eqlN hm2 n0_256 hz (F.ev rfl) (F.ev rfl)) fun a F=>?_
 refine lx_nil ?_
 repeat first|refine et1 ?_|refine eb1 ?_|refine ws1 ?_|refine wb1 ?_|refine wk1 ?_
 refine wp_cond_false (F.ev rfl) ?_
 repeat first|refine et1 ?_|refine eb1 ?_|refine ws1 ?_|refine wb1 ?_|refine wk1 ?_
 refine wp_region_lit ?_
 refine lxv (grp P Q G H) F (o_loadG (F.ev rfl) (HM.get 5 rfl)) fun a F=>?_
 refine lxv (.pointer (some ⟨gz,0,none⟩)) F (o_fldV0 (F.ev rfl)) fun a F=>?_
 refine lxv (num A) F (o_ldV0 (F.ev rfl) (HM.get 4 rfl)) fun a F=>?_
 refine lxv (.pointer (some ⟨gz,12,none⟩)) F (o_fldV3 (F.ev rfl)) fun a F=>?_
 refine lxv (hsv h) F (o_ldV12 (F.ev rfl) (HM.get 4 rfl)) fun a F=>?_
 refine lxv (num m) F (o_loadN (F.ev rfl) (HM.get 0 rfl)) fun a F=>?_
 refine lx_call F (wanted_none rfl _) rfl (by rfl) (run_callF Tryd.func10 (by kernel_rfl) (by rfl) (.cons (F.ev rfl) (.cons (F.ev rfl) (.cons (F.ev rfl) (.cons (F.ev rfl) .nil)))) _) (s2 _ (T.on HM.bel)) fun a w z F=>?_
 replace HM:=HM.on z
 clear z
 refine lxv (.tuple #[sgv d y,.int .i64 0]) F (o_move (F.ev rfl)) fun a F=>?_
 refine lxv (sgv d y) F (o_extract (F.ev rfl) rfl) fun a F=>?_
 refine lxv (.int .i64 0) F (o_extract (F.ev rfl) rfl) fun a F=>?_
 refine lx_new F HM (wanted_none rfl _) rfl (by rfl) (o_allocS) fun a w gt F HM=>?_
 refine lx_store F HM (wanted_none rfl _) rfl (k:=0) rfl (o_stS (F.ev rfl) (F.ev rfl) (HM.get 0 rfl)) (M2:=[(gt,30,sgc d y),(gm,24,ncs m),(gs,30,sgc c x),(gk,24,ncs k),(go,24,ncs O),(gz,32,gvc A B K h C S),(gg,26,gcs P Q G H)]) (by rw [sets_sg];rfl) fun w HM=>?_
 refine lxv (.int .i64 0) F (o_assign (F.ev rfl)) fun a F=>?_
 refine lx_nil ?_
 repeat first|refine et1 ?_|refine eb1 ?_|refine ws1 ?_|refine wb1 ?_|refine wk1 ?_
 refine wp_region_lit ?_
 refine lxv (sgv c x) F (o_ldS (F.ev rfl) (HM.get 2 rfl)) fun a F=>?_
 refine lx_new F HM (wanted_none rfl _) rfl (by rfl) (o_allocS) fun a w gv F HM=>?_
 refine lx_store F HM (wanted_none rfl _) rfl (k:=0) rfl (o_stS (F.ev rfl) (F.ev rfl) (HM.get 0 rfl)) (M2:=[(gv,30,sgc c x),(gt,30,sgc d y),(gm,24,ncs m),(gs,30,sgc c x),(gk,24,ncs k),(go,24,ncs O),(gz,32,gvc A B K h C S),(gg,26,gcs P Q G H)]) (by rw [sets_sg];rfl) fun w HM=>?_
 refine lx_nil ?_
 repeat first|refine et1 ?_|refine eb1 ?_|refine ws1 ?_|refine wb1 ?_|refine wk1 ?_
 refine wp_region_lit ?_
 refine lxv (grp P Q G H) F (o_loadG (F.ev rfl) (HM.get 7 rfl)) fun a F=>?_
 refine lxv (.pointer (some ⟨gs,4,none⟩)) F (o_fldS1 (F.ev rfl)) fun a F=>?_
 refine lxv (num x) F (o_ldS4 (F.ev rfl) (HM.get 3 rfl)) fun a F=>?_
 refine lxv (num O) F (o_loadN (F.ev rfl) (HM.get 5 rfl)) fun a F=>?_
 refine lx_call F (wanted_none rfl _) rfl (by rfl) (run_callF Tryd.func17 (by kernel_rfl) (by rfl) (.cons (F.ev rfl) (.cons (F.ev rfl) (.cons (F.ev rfl) .nil))) _) (c2 _) fun a w z F=>?_
 replace HM:=HM.on z
 clear z
 refine lxv (.tuple #[num q,.int .i64 0]) F (o_move (F.ev rfl)) fun a F=>?_
 refine lxv (num q) F (o_extract (F.ev rfl) rfl) fun a F=>?_
 refine lxv (.int .i64 0) F (o_extract (F.ev rfl) rfl) fun a F=>?_
 refine lxv (.pointer (some ⟨gv,4,none⟩)) F (o_fldS1 (F.ev rfl)) fun a F=>?_
 refine lx_store F HM (wanted_none rfl _) rfl (k:=0) rfl (o_stS4 (F.ev rfl) (F.ev rfl) (HM.get 0 rfl)) (M2:=[(gv,30,sgc c q),(gt,30,sgc d y),(gm,24,ncs m),(gs,30,sgc c x),(gk,24,ncs k),(go,24,ncs O),(gz,32,gvc A B K h C S),(gg,26,gcs P Q G H)]) (by rw [sets_sg1];rfl) fun w HM=>?_
 refine lxv (.int .i64 0) F (o_assign (F.ev rfl)) fun a F=>?_
 refine lx_nil ?_
 repeat first|refine et1 ?_|refine eb1 ?_|refine ws1 ?_|refine wb1 ?_|refine wk1 ?_
 refine sx_enterR (S:=fun w'=>Mem _ _ w' [(gv,30,sgc c q),(gt,30,sgc d y),(gm,24,ncs m),(gs,30,sgc c x),(gk,24,ncs k),(go,24,ncs O),(gz,32,gvc A B K h C S),(gg,26,gcs P Q G H)]) HM (fun _ h=>h) (by kernel_rfl) fun w HM HBW=>?_
 clear HBW
 try simp only [List.append_eq,List.cons_append,List.nil_append]
 refine sx_batch [⟨0,94,[],.val (.bool true),false⟩,
   ⟨1,95,[0],.val (.bool true),true⟩,
   ⟨2,96,[1],.val (.int .i64 0),true⟩,
   ⟨3,97,[1,2],.val (.bool true),true⟩,
   ⟨4,98,[1,3],.val (.bool true),true⟩,
   ⟨5,99,[4],.val (.bool true),true⟩,
   ⟨6,100,[5],.val (.int .i64 0),true⟩,
   ⟨7,101,[5,6],.val (.bool true),true⟩,
   ⟨8,102,[5,7],.val (.bool true),true⟩,
   ⟨9,103,[8],.val (.bool true),true⟩,
   ⟨10,104,[9],.val (grp P Q G H),true⟩,
   ⟨11,105,[9,10],.val (num k),true⟩,
   ⟨12,106,[9,11],.val (.pointer (some ⟨gz,12,none⟩)),true⟩,
   ⟨13,107,[9,12],.val (hsv h),true⟩,
   ⟨14,108,[9,13],.val (sgv c q),true⟩,
   ⟨16,110,[9,14],.val (.pointer (some ⟨gt,0,none⟩)),true⟩,
   ⟨17,111,[9,15],.val (num d),true⟩,
   ⟨18,112,[9,16],.val (.pointer (some ⟨gs,0,none⟩)),true⟩,
   ⟨19,113,[9,17],.val (num c),true⟩,
   ⟨20,114,[9,16,18],.val (.bool b),true⟩,
   ⟨15,109,[9,10,11,13,14,19],.val (.bool b),false⟩,
   ⟨21,115,[9,19,20],.val (.bool true),true⟩,
   ⟨22,116,[9,21],.val (.bool true),true⟩] 1 _ F HM (fun _ h=>h.subl (by first | exact List.Sublist.refl _ | (repeat (first | exact List.Sublist.refl _ | refine List.Sublist.cons_cons _ ?_ | refine List.Sublist.cons _ ?_)))) (by kernel_rfl) (by rfl) ?_ ?_ ?_ ?_ ?_ ?_ ?_
 ·kernel_rfl
 ·exact of_decide_eq_true (by kernel_rfl)
 ·(repeat refine all_cons ⟨_,by rfl,by rfl⟩ ?_);exact all_nil
 ·kernel_rfl
 ·(repeat (refine all_cons ?_ ?_;rotate_left));exact all_nil
  ·exact core_pureAs _ (by rfl)
  ·exact crS (fun ρ w kn hs=>o_move (kn _ _ (kc 0 94)))
  ·exact coreS _ _ _ _ _ _ _ (by rfl) (by rfl) (wc 1 95 1 (kc 1 95)) (fun ρ w kn hs=>o_move (kn _ _ (F.old (by rfl) rfl)))
  ·exact coreS _ _ _ _ _ _ _ (by rfl) (by rfl) (wc 1 95 1 (kc 1 95)) (fun ρ w kn hs=>o_bin (u:=.int .i64 0) (v:=.int .i64 0) (fun ρ hx hy=>by simp only [execOp,hx,hy];simp [go_sem]) (kn _ _ (kc 2 96)) (kn _ _ (known_const _)))
  ·exact crS (fun ρ w kn hs=>o_pick (b:=true) (r:=.bool true) (kn _ _ (kc 1 95)) (kn _ _ (kc 3 97)) (kn _ _ (known_const _)) rfl)
  ·exact crS (fun ρ w kn hs=>o_move (kn _ _ (kc 4 98)))
  ·exact coreS _ _ _ _ _ _ _ (by rfl) (by rfl) (wc 5 99 5 (kc 5 99)) (fun ρ w kn hs=>o_move (kn _ _ (F.old (by rfl) rfl)))
  ·exact coreS _ _ _ _ _ _ _ (by rfl) (by rfl) (wc 5 99 5 (kc 5 99)) (fun ρ w kn hs=>o_bin (u:=.int .i64 0) (v:=.int .i64 0) (fun ρ hx hy=>by simp only [execOp,hx,hy];simp [go_sem]) (kn _ _ (kc 6 100)) (kn _ _ (known_const _)))
  ·exact crS (fun ρ w kn hs=>o_pick (b:=true) (r:=.bool true) (kn _ _ (kc 5 99)) (kn _ _ (kc 7 101)) (kn _ _ (known_const _)) rfl)
  ·exact crS (fun ρ w kn hs=>o_move (kn _ _ (kc 8 102)))
  ·exact coreS _ _ _ _ _ _ _ (by rfl) (by rfl) (wc 9 103 9 (kc 9 103)) (fun ρ w kn hs=>o_loadG (kn _ _ (F.old (by rfl) rfl)) (hs.get 7 rfl))
  ·exact coreS _ _ _ _ _ _ _ (by rfl) (by rfl) (wc 9 103 9 (kc 9 103)) (fun ρ w kn hs=>o_loadN (kn _ _ (F.old (by rfl) rfl)) (hs.get 4 rfl))
  ·exact coreS _ _ _ _ _ _ _ (by rfl) (by rfl) (wc 9 103 9 (kc 9 103)) (fun ρ w kn hs=>o_fldV3 (kn _ _ (F.old (by rfl) rfl)))
  ·exact coreS _ _ _ _ _ _ _ (by rfl) (by rfl) (wc 9 103 9 (kc 9 103)) (fun ρ w kn hs=>o_ldV12 (kn _ _ (kc 12 106)) (hs.get 6 rfl))
  ·exact coreS _ _ _ _ _ _ _ (by rfl) (by rfl) (wc 9 103 9 (kc 9 103)) (fun ρ w kn hs=>o_ldS (kn _ _ (F.old (by rfl) rfl)) (hs.get 0 rfl))
  ·exact coreS _ _ _ _ _ _ _ (by rfl) (by rfl) (wc 9 103 9 (kc 9 103)) (fun ρ w kn hs=>o_fldS0 (kn _ _ (F.old (by rfl) rfl)))
  ·exact coreS _ _ _ _ _ _ _ (by rfl) (by rfl) (wc 9 103 9 (kc 9 103)) (fun ρ w kn hs=>o_ldS0 (kn _ _ (kc 15 110)) (hs.get 1 rfl))
  ·exact coreS _ _ _ _ _ _ _ (by rfl) (by rfl) (wc 9 103 9 (kc 9 103)) (fun ρ w kn hs=>o_fldS0 (kn _ _ (F.old (by rfl) rfl)))
  ·exact coreS _ _ _ _ _ _ _ (by rfl) (by rfl) (wc 9 103 9 (kc 9 103)) (fun ρ w kn hs=>o_ldS0 (kn _ _ (kc 17 112)) (hs.get 3 rfl))
  ·exact coreS _ _ _ _ _ _ _ (by rfl) (by rfl) (wc 9 103 9 (kc 9 103)) (fun ρ w kn hs=>o_eqlN hd2 hc2 hb2 (kn _ _ (kc 16 111)) (kn _ _ (kc 18 113)))
  ·exact core_pureAs _ (by rfl)
  ·exact coreS _ _ _ _ _ _ _ (by rfl) (by rfl) (wc 9 103 9 (kc 9 103)) (fun ρ w kn hs=>o_eqBb (kn _ _ (kc 20 109)) (kn _ _ (kc 19 114)))
  ·exact crS (fun ρ w kn hs=>o_pick (b:=true) (r:=.bool true) (kn _ _ (kc 9 103)) (kn _ _ (kc 21 115)) (kn _ _ (known_const _)) rfl)
 ·(repeat (refine all_cons ?_ ?_;rotate_left));exact all_nil
  all_goals try exact sA
  ·exact fun _=>coreG_callB _ 8 _ _ [] _ _ _ _ _ _ _ (by rfl) Tryd.func8 (by kernel_rfl) (by rfl) (by rfl) (wants_none) .nil (fun u hb=>(fun u hu=>alive13_any u hu) u ((T.on HM.bel).on hb))
  ·exact fun _=>coreG_callB _ 11 _ _ [.tmp 104,.tmp 105,.tmp 107,.tmp 108] _ _ _ _ _ _ _ (by rfl) Tryd.func11 (by kernel_rfl) (by rfl) (by rfl) (wc 9 103 9 (kc 9 103)) (.cons (kc 10 104) (.cons (kc 11 105) (.cons (kc 13 107) (.cons (kc 14 108) .nil)))) (fun u hb=>(fun u hu=>chk_is P Q G H k c q h hP hQ hG hk hc2 hq2 u hb1 hh hu) u ((T.on HM.bel).on hb))
 intro gs rs a w hgs hrs F HM HBW HR HO HT
 obtain rfl:=nl0 rs hrs
 obtain rfl:=nl0 gs hgs
 clear hrs hgs HR HBW HO
 clear HT
 refine sx_assign (i:=23) (d:=6) (x:=.tmp 116) (v:=.bool true) F ((HM.subl (by first | exact List.Sublist.refl _ | (repeat (first | exact List.Sublist.refl _ | refine List.Sublist.cons_cons _ ?_ | refine List.Sublist.cons _ ?_))))) (by kernel_rfl) (by rfl) (by rfl) (F.ev rfl) fun a F=>?_
 refine sx_done (by kernel_rfl) ?_ _
 repeat first|refine et1 ?_|refine eb1 ?_|refine ws1 ?_|refine wb1 ?_|refine wk1 ?_
 refine wp_ret ?_
 repeat (first | refine ex_thenR ?_ | refine ex_blockR ?_)
 exact sx_ret F HM (res_tmp F rfl (s:=6) rfl)

theorem smoved_any (P Q G H A B K C S:Nat) (h:Nat→Nat) (hP:P<2^256) (hQ:Q<2^256) (hG:G<2^256) (hH:H<2^256) (hA:A<2^256) (hB:B<2^256) (hK:K<2^256) (hC:C<2^256) (hS:S<2^256) (hh:∀ i,h i<256) (O:Nat) (hO:O<2^256) (w0:World) (T:By.Tabs w0):Calls Tryd.prog 6 #[grp P Q G H,gvv A B K h C S,num O] w0 fun e w'=>e=.returned (.bool true)∧Below w0.heap.size w0 w':=by
 rcases hf:(nzB Q [A,B] && goodB P Q G H) with _ | _
 ·exact mov_n P Q G H A B K C S h hP hQ hG hH hA hB hK hC hS hh O hO w0 T hf
 ·by_cases ho:O<Q
  ·have hge:decide ((0:Int)≤cmpN O Q)=false:=cmp_ge.trans (by simp [ho])
   obtain ⟨hn,hg⟩:=Bool.and_eq_true_iff.1 hf
   obtain ⟨gd,_,_⟩:=gd_of hP hQ hG hg
   have h1:=gd.pri.1
   obtain ⟨a1,a2⟩:=nz_of hn (x:=A) (by simp)
   obtain ⟨b1,b2⟩:=nz_of hn (x:=B) (by simp)
   have s1:=sign_gd gd H h hh a2 b2 a1 b1
   have c1:=sadd_yes P Q G H B O hQ (by omega) b1 ho
   have hm:(B+O)%Q<Q:=Nat.mod_lt _ (by omega)
   have c2:=sadd_yes P Q G H _ O hQ (by omega) (sgS_lt (S:=A) (D:=B) gd h) ho
   by_cases hz:(B+O)%Q=0
   ·exact mov_z P Q G H A B K C S h hP hQ hG hH hA hB hK hC hS hh O hO w0 T hf hge _ (pow_256 gd A) (exp_pow gd H A hA) _ _ _ hm s1 c1 (decide_eq_true hz)
   ·have s2:=sign_gd gd H h hh a2 hz a1 hm
    have hk:=chk_moved (D:=B) (b:=O) gd h a2 a1
    exact mov_y P Q G H A B K C S h hP hQ hG hH hA hB hK hC hS hh O hO w0 T hf hge _ (pow_256 gd A) (exp_pow gd H A hA) _ _ _ hm s1 c1 (decide_eq_false hz) _ _ _ (sgC_lt gd h) (sgC_lt gd h) (Nat.mod_lt _ (by omega)) s2 c2 _ hk (decide_eq_decide.2 eq_comm)
  ·exact mov_g P Q G H A B K C S h hP hQ hG hH hA hB hK hC hS hh O hO w0 T hf (cmp_ge.trans (by simp [ho]))
end Go.Proofs.YtlphnfajhpkleaaDoor
