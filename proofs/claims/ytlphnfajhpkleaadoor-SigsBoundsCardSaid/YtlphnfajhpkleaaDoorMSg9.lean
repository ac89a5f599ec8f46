/-
 SigsBounds,walked.
-/
import Derived.Deep.Cut
import Derived.Test.YtlphnfajhpkleaaDoorMSg7
import Derived.Test.YtlphnfajhpkleaaDoorMSmall
namespace Go.Proofs.YtlphnfajhpkleaaDoor
set_option maxRecDepth 100000
open Go.RowKit
set_option linter.unusedSimpArgs false
set_option linter.unusedVariables false
attribute [local go_sem ↓] Go.wp_at_zero Go.wp_at_succ

theorem n1_256:1<2^256:=by decide
set_option maxRecDepth 100000 in
set_option maxHeartbeats 800000 in
theorem bnd_0ff (P Q G H A B K C S:Nat) (h:Nat→Nat) (hP:P<2^256) (hQ:Q<2^256) (hG:G<2^256) (hH:H<2^256) (hA:A<2^256) (hB:B<2^256) (hK:K<2^256) (hC:C<2^256) (hS:S<2^256) (hh:∀ i,h i<256) (w0:World) (T:By.Tabs w0) (b0 b1 b2 b3:Bool) (hb0:decide ((0:Int)≤cmpN A Q)=b0) (hb1:decide ((0:Int)≤cmpN B Q)=b1) (hb2:decide (A=0)=b2) (hb3:decide (B=0)=b3) (c x:Nat) (s1:∀ w,By.Tabs w→Calls Tryd.prog 10 #[grp P Q G H,num A,hsv h,num B] w fun e w'=>e=.returned (.tuple #[sgv c x,.int .i64 0])∧Below w.heap.size w w') (ho:(((b0 || b1) || b2) || b3)=false) (hc:chkB P Q G K h C S=false):Calls Tryd.prog 5 #[grp P Q G H,gvv A B K h C S] w0 fun e w'=>e=.returned (.bool true)∧Below w0.heap.size w0 w':=by
 refine sx_enter (args:=[grp P Q G H,gvv A B K h C S]) Tryd.func5 rfl Tryd.ntmps5 (by rfl) fun a F HM=>?_
 repeat first|refine et1 ?_|refine eb1 ?_|refine ws1 ?_|refine wb1 ?_|refine wk1 ?_
 refine wp_region_lit ?_
 refine lx_new F HM (wanted_none rfl _) rfl (by rfl) (o_boxG (F.ev rfl)) fun a w gg F HM=>?_
 refine lx_new F HM (wanted_none rfl _) rfl (by rfl) (o_boxV (F.ev rfl)) fun a w gz F HM=>?_
 refine lxv (.bool false) F (o_assign rfl) fun a F=>?_
 refine lx_nil ?_
 repeat first|refine et1 ?_|refine eb1 ?_|refine ws1 ?_|refine wb1 ?_|refine wk1 ?_
 refine wp_region_lit ?_
 refine lxv (grp P Q G H) F (o_loadG (F.ev rfl) (HM.get 1 rfl)) fun a F=>?_
 refine lxv (.pointer (some ⟨gz,0,none⟩)) F (o_fldV0 (F.ev rfl)) fun a F=>?_
 refine lxv (num A) F (o_ldV0 (F.ev rfl) (HM.get 0 rfl)) fun a F=>?_
 refine lxv (.pointer (some ⟨gz,12,none⟩)) F (o_fldV3 (F.ev rfl)) fun a F=>?_
 refine lxv (hsv h) F (o_ldV12 (F.ev rfl) (HM.get 0 rfl)) fun a F=>?_
 refine lxv (.pointer (some ⟨gz,4,none⟩)) F (o_fldV1 (F.ev rfl)) fun a F=>?_
 refine lxv (num B) F (o_ldV4 (F.ev rfl) (HM.get 0 rfl)) fun a F=>?_
 refine lx_call F (wanted_none rfl _) rfl (by rfl) (run_callF Tryd.func10 (by kernel_rfl) (by rfl) (.cons (F.ev rfl) (.cons (F.ev rfl) (.cons (F.ev rfl) (.cons (F.ev rfl) .nil)))) _) (s1 _ (T.on HM.bel)) fun a w z F=>?_
 replace HM:=HM.on z
 clear z
 refine lxv (.tuple #[sgv c x,.int .i64 0]) F (o_move (F.ev rfl)) fun a F=>?_
 refine lxv (sgv c x) F (o_extract (F.ev rfl) rfl) fun a F=>?_
 refine lxv (.int .i64 0) F (o_extract (F.ev rfl) rfl) fun a F=>?_
 refine lx_new F HM (wanted_none rfl _) rfl (by rfl) (o_allocS) fun a w gs F HM=>?_
 refine lx_store F HM (wanted_none rfl _) rfl (k:=0) rfl (o_stS (F.ev rfl) (F.ev rfl) (HM.get 0 rfl)) (M2:=[(gs,30,sgc c x),(gz,32,gvc A B K h C S),(gg,26,gcs P Q G H)]) (by rw [sets_sg];rfl) fun w HM=>?_
 refine lxv (.int .i64 0) F (o_assign (F.ev rfl)) fun a F=>?_
 refine lx_nil ?_
 repeat first|refine et1 ?_|refine eb1 ?_|refine ws1 ?_|refine wb1 ?_|refine wk1 ?_
 refine wp_region_lit ?_
 refine lxv (.pointer (some ⟨gz,0,none⟩)) F (o_fldV0 (F.ev rfl)) fun a F=>?_
 refine lxv (num A) F (o_ldV0 (F.ev rfl) (HM.get 1 rfl)) fun a F=>?_
 refine lxv (.pointer (some ⟨gg,4,none⟩)) F (o_fieldG1 (F.ev rfl)) fun a F=>?_
 refine lxv (num Q) F (o_loadG1 (F.ev rfl) (HM.get 2 rfl)) fun a F=>?_
 refine lx_call F (wanted_none rfl _) rfl (by rfl) (run_callF Tryd.func12 (by kernel_rfl) (by rfl) (.cons (F.ev rfl) (.cons (F.ev rfl) .nil)) _) ((fun w=>cmp_any A Q hA hQ w) _) fun a w z F=>?_
 replace HM:=HM.on z
 clear z
 refine lxv (.bool b0) F (o_geqI hb0 (F.ev rfl) rfl) fun a F=>?_
 refine lxv (.bool b0) F (o_move (F.ev rfl)) fun a F=>?_
 refine lx_valG (v:=.pointer (some ⟨gz,4,none⟩)) F rfl rfl (t:=26) (c:=b0) (e:=(!b0)) rfl rfl (by simp) rfl (by rfl) (fun he=>o_fldV1 (F.ev rfl)) fun a F=>?_
 refine lx_valG (v:=num B) F rfl rfl (t:=26) (c:=b0) (e:=(!b0)) rfl rfl (by simp) rfl (by rfl) (fun he=>o_ldV4 (F.evg rfl he) (HM.get 1 rfl)) fun a F=>?_
 refine lx_valG (v:=.pointer (some ⟨gg,4,none⟩)) F rfl rfl (t:=26) (c:=b0) (e:=(!b0)) rfl rfl (by simp) rfl (by rfl) (fun he=>o_fieldG1 (F.ev rfl)) fun a F=>?_
 refine lx_valG (v:=num Q) F rfl rfl (t:=26) (c:=b0) (e:=(!b0)) rfl rfl (by simp) rfl (by rfl) (fun he=>o_loadG1 (F.evg rfl he) (HM.get 2 rfl)) fun a F=>?_
 refine lx_callG (v:=.int .i64 (cmpN B Q)) F rfl rfl (t:=26) (c:=b0) (e:=(!b0)) rfl rfl (by simp) rfl (by rfl) (fun he=>run_callF Tryd.func12 (by kernel_rfl) (by rfl) (.cons (F.evg rfl he) (.cons (F.evg rfl he) .nil)) _) (fun he=>(fun w=>cmp_any B Q hB hQ w) _) fun a w z F=>?_
 replace HM:=HM.on z
 clear z
 refine lx_valG (v:=.bool b1) F rfl rfl (t:=26) (c:=b0) (e:=(!b0)) rfl rfl (by simp) rfl (by rfl) (fun he=>o_geqI hb1 (F.evg rfl he) rfl) fun a F=>?_
 refine lxv (.bool ((b0 || b1))) F (o_pickO (F.ev rfl) rfl (F.ev rfl)) fun a F=>?_
 refine lxv (.bool ((b0 || b1))) F (o_move (F.ev rfl)) fun a F=>?_
 refine lx_valG (v:=.pointer (some ⟨gz,0,none⟩)) F rfl rfl (t:=34) (c:=(b0 || b1)) (e:=(!((b0 || b1)))) rfl rfl (by simp) rfl (by rfl) (fun he=>o_fldV0 (F.ev rfl)) fun a F=>?_
 refine lx_valG (v:=num A) F rfl rfl (t:=34) (c:=(b0 || b1)) (e:=(!((b0 || b1)))) rfl rfl (by simp) rfl (by rfl) (fun he=>o_ldV0 (F.evg rfl he) (HM.get 1 rfl)) fun a F=>?_
 refine lx_valG (v:=num 0) F rfl rfl (t:=34) (c:=(b0 || b1)) (e:=(!((b0 || b1)))) rfl rfl (by simp) rfl (by rfl) (fun he=>o_build0) fun a F=>?_
 refine lx_valG (v:=.bool b2) F rfl rfl (t:=34) (c:=(b0 || b1)) (e:=(!((b0 || b1)))) rfl rfl (by simp) rfl (by rfl) (fun he=>o_eqlN hA n0_256 hb2 (F.evg rfl he) (F.evg rfl he)) fun a F=>?_
 refine lxv (.bool (((b0 || b1) || b2))) F (o_pickO (F.ev rfl) rfl (F.ev rfl)) fun a F=>?_
 refine lxv (.bool (((b0 || b1) || b2))) F (o_move (F.ev rfl)) fun a F=>?_
 refine lx_valG (v:=.pointer (some ⟨gz,4,none⟩)) F rfl rfl (t:=40) (c:=((b0 || b1) || b2)) (e:=(!(((b0 || b1) || b2)))) rfl rfl (by simp) rfl (by rfl) (fun he=>o_fldV1 (F.ev rfl)) fun a F=>?_
 refine lx_valG (v:=num B) F rfl rfl (t:=40) (c:=((b0 || b1) || b2)) (e:=(!(((b0 || b1) || b2)))) rfl rfl (by simp) rfl (by rfl) (fun he=>o_ldV4 (F.evg rfl he) (HM.get 1 rfl)) fun a F=>?_
 refine lx_valG (v:=num 0) F rfl rfl (t:=40) (c:=((b0 || b1) || b2)) (e:=(!(((b0 || b1) || b2)))) rfl rfl (by simp) rfl (by rfl) (fun he=>o_build0) fun a F=>?_
 refine lx_valG (v:=.bool b3) F rfl rfl (t:=40) (c:=((b0 || b1) || b2)) (e:=(!(((b0 || b1) || b2)))) rfl rfl (by simp) rfl (by rfl) (fun he=>o_eqlN hB n0_256 hb3 (F.evg rfl he) (F.evg rfl he)) fun a F=>?_
 refine lxv (.bool ((((b0 || b1) || b2) || b3))) F (o_pickO (F.ev rfl) rfl (F.ev rfl)) fun a F=>?_
 refine lxv (.bool ((((b0 || b1) || b2) || b3))) F (o_assign (F.ev rfl)) fun a F=>?_
 refine lx_nil ?_
 rw [ho] at F
 repeat first|refine et1 ?_|refine eb1 ?_|refine ws1 ?_|refine wb1 ?_|refine wk1 ?_
 refine wp_region_lit ?_
 refine lxv (.bool false) F (o_move (F.ev rfl)) fun a F=>?_
 refine lxv (.bool false) F (o_move (F.ev rfl)) fun a F=>?_
 refine lxp 47 false F fun a F=>?_
 refine lxp 47 false F fun a F=>?_
 refine lxv (.bool false) F (o_pick (b:=false) (r:=.bool false) (F.ev rfl) (F.ev rfl) rfl rfl) fun a F=>?_
 refine lxv (.bool false) F (o_move (F.ev rfl)) fun a F=>?_
 refine lxw 51 false (.int .i64 0) F (o_move (F.ev rfl)) fun a F=>?_
 refine lxw 51 false (.bool false) F (o_bin (u:=.int .i64 0) (v:=.int .i64 0) (fun ρ hx hy=>by simp only [execOp,hx,hy];simp [go_sem]) (F.ev rfl) rfl) fun a F=>?_
 refine lxw 51 false (.bool false) F (o_move (F.ev rfl)) fun a F=>?_
 refine lxp 54 false F fun a F=>?_
 refine lxp 54 false F fun a F=>?_
 refine lxw 51 false (.bool false) F (o_pick (b:=false) (r:=.bool false) (F.ev rfl) (F.ev rfl) rfl rfl) fun a F=>?_
 refine lxv (.bool false) F (o_pick (b:=false) (r:=.bool false) (F.ev rfl) rfl (F.ev rfl) rfl) fun a F=>?_
 refine lx_nil ?_
 repeat first|refine et1 ?_|refine eb1 ?_|refine ws1 ?_|refine wb1 ?_|refine wk1 ?_
 refine wp_cond_false (F.ev rfl) ?_
 repeat first|refine et1 ?_|refine eb1 ?_|refine ws1 ?_|refine wb1 ?_|refine wk1 ?_
 refine wp_region_lit ?_
 refine lxv (grp P Q G H) F (o_loadG (F.ev rfl) (HM.get 2 rfl)) fun a F=>?_
 refine lxv (.pointer (some ⟨gz,8,none⟩)) F (o_fldV2 (F.ev rfl)) fun a F=>?_
 refine lxv (num K) F (o_ldV8 (F.ev rfl) (HM.get 1 rfl)) fun a F=>?_
 refine lxv (.pointer (some ⟨gz,12,none⟩)) F (o_fldV3 (F.ev rfl)) fun a F=>?_
 refine lxv (hsv h) F (o_ldV12 (F.ev rfl) (HM.get 1 rfl)) fun a F=>?_
 refine lxv (.pointer (some ⟨gz,44,none⟩)) F (o_fldV4 (F.ev rfl)) fun a F=>?_
 refine lxv (sgv C S) F (o_ldV44 (F.ev rfl) (HM.get 1 rfl)) fun a F=>?_
 refine lx_call F (wanted_none rfl _) rfl (by rfl) (run_callF Tryd.func11 (by kernel_rfl) (by rfl) (.cons (F.ev rfl) (.cons (F.ev rfl) (.cons (F.ev rfl) (.cons (F.ev rfl) .nil)))) _) (chk_is P Q G H K C S h hP hQ hG hK hC hS _ hc hh (T.on HM.bel)) fun a w z F=>?_
 replace HM:=HM.on z
 clear z
 refine lxv (.bool false) F (o_assign (F.ev rfl)) fun a F=>?_
 refine lx_nil ?_
 repeat first|refine et1 ?_|refine eb1 ?_|refine ws1 ?_|refine wb1 ?_|refine wk1 ?_
 refine wp_region_lit ?_
 refine lx_call F (wanted_none rfl _) rfl (by rfl) (run_callF Tryd.func8 (by kernel_rfl) (by rfl) .nil _) (alive13_any _ (T.on HM.bel)) fun a w z F=>?_
 replace HM:=HM.on z
 clear z
 refine lxv (.bool true) F (o_move (F.ev rfl)) fun a F=>?_
 refine lxw 68 true (.bool false) F (o_move (F.ev rfl)) fun a F=>?_
 refine lxw 68 true (.bool true) F (o_not (b:=false) (r:=true) (F.ev rfl) rfl) fun a F=>?_
 refine lxw 68 true (.bool true) F (o_move (F.ev rfl)) fun a F=>?_
 refine lxp 71 true F fun a F=>?_
 refine lxp 71 true F fun a F=>?_
 refine lxp 71 true F fun a F=>?_
 refine lxp 71 true F fun a F=>?_
 refine lxp 71 true F fun a F=>?_
 refine lxp 71 true F fun a F=>?_
 refine lxp 71 true F fun a F=>?_
 refine lxp 71 true F fun a F=>?_
 refine lx_pass F (F.unwanted (t:=79) rfl rfl rfl (by rfl)) rfl (by rfl) fun a F=>?_
 refine lx_pass F (F.unwanted (t:=79) rfl rfl rfl (by rfl)) rfl (by rfl) fun a F=>?_
 refine lx_pass F (F.unwanted (t:=79) rfl rfl rfl (by rfl)) rfl (by rfl) fun a F=>?_
 refine lx_pass F (F.unwanted (t:=79) rfl rfl rfl (by rfl)) rfl (by rfl) fun a F=>?_
 refine lx_pass F (F.unwanted (t:=79) rfl rfl rfl (by rfl)) rfl (by rfl) fun a F=>?_
 refine lx_pass F (F.unwanted (t:=79) rfl rfl rfl (by rfl)) rfl (by rfl) fun a F=>?_
 refine lx_pass F (F.unwanted (t:=79) rfl rfl rfl (by rfl)) rfl (by rfl) fun a F=>?_
 refine lxp 71 true F fun a F=>?_
 refine lxp 71 true F fun a F=>?_
 refine lx_pass F (F.unwanted (t:=88) rfl rfl rfl (by rfl)) rfl (by rfl) fun a F=>?_
 refine lx_pass F (F.unwanted (t:=88) rfl rfl rfl (by rfl)) rfl (by rfl) fun a F=>?_
 refine lx_pass F (F.unwanted (t:=88) rfl rfl rfl (by rfl)) rfl (by rfl) fun a F=>?_
 refine lx_pass F (F.unwanted (t:=88) rfl rfl rfl (by rfl)) rfl (by rfl) fun a F=>?_
 refine lxp 71 true F fun a F=>?_
 refine lxp 71 true F fun a F=>?_
 refine lx_pass F (F.unwanted (t:=94) rfl rfl rfl (by rfl)) rfl (by rfl) fun a F=>?_
 refine lx_pass F (F.unwanted (t:=94) rfl rfl rfl (by rfl)) rfl (by rfl) fun a F=>?_
 refine lx_pass F (F.unwanted (t:=94) rfl rfl rfl (by rfl)) rfl (by rfl) fun a F=>?_
 refine lx_pass F (F.unwanted (t:=94) rfl rfl rfl (by rfl)) rfl (by rfl) fun a F=>?_
 refine lxp 71 true F fun a F=>?_
 refine lxw 68 true (.bool true) F (o_pick (b:=true) (r:=.bool true) (F.ev rfl) rfl (F.ev rfl) rfl) fun a F=>?_
 refine lxv (.bool true) F (o_pick (b:=true) (r:=.bool true) (F.ev rfl) (F.ev rfl) rfl rfl) fun a F=>?_
 refine lxv (.bool true) F (o_assign (F.ev rfl)) fun a F=>?_
 refine lx_nil ?_
 repeat first|refine et1 ?_|refine eb1 ?_|refine ws1 ?_|refine wb1 ?_|refine wk1 ?_
 refine wp_ret ?_
 repeat (first | refine ex_thenR ?_ | refine ex_blockR ?_)
 exact sx_ret F HM (res_tmp F rfl (s:=4) rfl)

set_option maxRecDepth 100000 in
set_option maxHeartbeats 800000 in
theorem bnd_0ft (P Q G H A B K C S:Nat) (h:Nat→Nat) (hP:P<2^256) (hQ:Q<2^256) (hG:G<2^256) (hH:H<2^256) (hA:A<2^256) (hB:B<2^256) (hK:K<2^256) (hC:C<2^256) (hS:S<2^256) (hh:∀ i,h i<256) (w0:World) (T:By.Tabs w0) (b0 b1 b2 b3:Bool) (hb0:decide ((0:Int)≤cmpN A Q)=b0) (hb1:decide ((0:Int)≤cmpN B Q)=b1) (hb2:decide (A=0)=b2) (hb3:decide (B=0)=b3) (c x:Nat) (s1:∀ w,By.Tabs w→Calls Tryd.prog 10 #[grp P Q G H,num A,hsv h,num B] w fun e w'=>e=.returned (.tuple #[sgv c x,.int .i64 0])∧Below w.heap.size w w') (ho:(((b0 || b1) || b2) || b3)=false) (hc:chkB P Q G K h C S=true) (l1:decide (cmpN C Q<(0:Int))=true) (l2:decide (cmpN S Q<(0:Int))=true) (hin:inB P Q K=true) (hk1:decide (K=1)=false):Calls Tryd.prog 5 #[grp P Q G H,gvv A B K h C S] w0 fun e w'=>e=.returned (.bool true)∧Below w0.heap.size w0 w':=by
 refine sx_enter (args:=[grp P Q G H,gvv A B K h C S]) Tryd.func5 rfl Tryd.ntmps5 (by rfl) fun a F HM=>?_
 repeat first|refine et1 ?_|refine eb1 ?_|refine ws1 ?_|refine wb1 ?_|refine wk1 ?_
 refine wp_region_lit ?_
 refine lx_new F HM (wanted_none rfl _) rfl (by rfl) (o_boxG (F.ev rfl)) fun a w gg F HM=>?_
 refine lx_new F HM (wanted_none rfl _) rfl (by rfl) (o_boxV (F.ev rfl)) fun a w gz F HM=>?_
 refine lxv (.bool false) F (o_assign rfl) fun a F=>?_
 refine lx_nil ?_
 repeat first|refine et1 ?_|refine eb1 ?_|refine ws1 ?_|refine wb1 ?_|refine wk1 ?_
 refine wp_region_lit ?_
 refine lxv (grp P Q G H) F (o_loadG (F.ev rfl) (HM.get 1 rfl)) fun a F=>?_
 refine lxv (.pointer (some ⟨gz,0,none⟩)) F (o_fldV0 (F.ev rfl)) fun a F=>?_
 refine lxv (num A) F (o_ldV0 (F.ev rfl) (HM.get 0 rfl)) fun a F=>?_
 refine lxv (.pointer (some ⟨gz,12,none⟩)) F (o_fldV3 (F.ev rfl)) fun a F=>?_
 refine lxv (hsv h) F (o_ldV12 (F.ev rfl) (HM.get 0 rfl)) fun a F=>?_
 refine lxv (.pointer (some ⟨gz,4,none⟩)) F (o_fldV1 (F.ev rfl)) fun a F=>?_
 refine lxv (num B) F (o_ldV4 (F.ev rfl) (HM.get 0 rfl)) fun a F=>?_
 refine lx_call F (wanted_none rfl _) rfl (by rfl) (run_callF Tryd.func10 (by kernel_rfl) (by rfl) (.cons (F.ev rfl) (.cons (F.ev rfl) (.cons (F.ev rfl) (.cons (F.ev rfl) .nil)))) _) (s1 _ (T.on HM.bel)) fun a w z F=>?_
 replace HM:=HM.on z
 clear z
 refine lxv (.tuple #[sgv c x,.int .i64 0]) F (o_move (F.ev rfl)) fun a F=>?_
 refine lxv (sgv c x) F (o_extract (F.ev rfl) rfl) fun a F=>?_
 refine lxv (.int .i64 0) F (o_extract (F.ev rfl) rfl) fun a F=>?_
 refine lx_new F HM (wanted_none rfl _) rfl (by rfl) (o_allocS) fun a w gs F HM=>?_
 refine lx_store F HM (wanted_none rfl _) rfl (k:=0) rfl (o_stS (F.ev rfl) (F.ev rfl) (HM.get 0 rfl)) (M2:=[(gs,30,sgc c x),(gz,32,gvc A B K h C S),(gg,26,gcs P Q G H)]) (by rw [sets_sg];rfl) fun w HM=>?_
 refine lxv (.int .i64 0) F (o_assign (F.ev rfl)) fun a F=>?_
 refine lx_nil ?_
 repeat first|refine et1 ?_|refine eb1 ?_|refine ws1 ?_|refine wb1 ?_|refine wk1 ?_
 refine wp_region_lit ?_
 refine lxv (.pointer (some ⟨gz,0,none⟩)) F (o_fldV0 (F.ev rfl)) fun a F=>?_
 refine lxv (num A) F (o_ldV0 (F.ev rfl) (HM.get 1 rfl)) fun a F=>?_
 refine lxv (.pointer (some ⟨gg,4,none⟩)) F (o_fieldG1 (F.ev rfl)) fun a F=>?_
 refine lxv (num Q) F (o_loadG1 (F.ev rfl) (HM.get 2 rfl)) fun a F=>?_
 refine lx_call F (wanted_none rfl _) rfl (by rfl) (run_callF Tryd.func12 (by kernel_rfl) (by rfl) (.cons (F.ev rfl) (.cons (F.ev rfl) .nil)) _) ((fun w=>cmp_any A Q hA hQ w) _) fun a w z F=>?_
 replace HM:=HM.on z
 clear z
 refine lxv (.bool b0) F (o_geqI hb0 (F.ev rfl) rfl) fun a F=>?_
 refine lxv (.bool b0) F (o_move (F.ev rfl)) fun a F=>?_
 refine lx_valG (v:=.pointer (some ⟨gz,4,none⟩)) F rfl rfl (t:=26) (c:=b0) (e:=(!b0)) rfl rfl (by simp) rfl (by rfl) (fun he=>o_fldV1 (F.ev rfl)) fun a F=>?_
 refine lx_valG (v:=num B) F rfl rfl (t:=26) (c:=b0) (e:=(!b0)) rfl rfl (by simp) rfl (by rfl) (fun he=>o_ldV4 (F.evg rfl he) (HM.get 1 rfl)) fun a F=>?_
 refine lx_valG (v:=.pointer (some ⟨gg,4,none⟩)) F rfl rfl (t:=26) (c:=b0) (e:=(!b0)) rfl rfl (by simp) rfl (by rfl) (fun he=>o_fieldG1 (F.ev rfl)) fun a F=>?_
 refine lx_valG (v:=num Q) F rfl rfl (t:=26) (c:=b0) (e:=(!b0)) rfl rfl (by simp) rfl (by rfl) (fun he=>o_loadG1 (F.evg rfl he) (HM.get 2 rfl)) fun a F=>?_
 refine lx_callG (v:=.int .i64 (cmpN B Q)) F rfl rfl (t:=26) (c:=b0) (e:=(!b0)) rfl rfl (by simp) rfl (by rfl) (fun he=>run_callF Tryd.func12 (by kernel_rfl) (by rfl) (.cons (F.evg rfl he) (.cons (F.evg rfl he) .nil)) _) (fun he=>(fun w=>cmp_any B Q hB hQ w) _) fun a w z F=>?_
 replace HM:=HM.on z
 clear z
 refine lx_valG (v:=.bool b1) F rfl rfl (t:=26) (c:=b0) (e:=(!b0)) rfl rfl (by simp) rfl (by rfl) (fun he=>o_geqI hb1 (F.evg rfl he) rfl) fun a F=>?_
 refine lxv (.bool ((b0 || b1))) F (o_pickO (F.ev rfl) rfl (F.ev rfl)) fun a F=>?_
 refine lxv (.bool ((b0 || b1))) F (o_move (F.ev rfl)) fun a F=>?_
 refine lx_valG (v:=.pointer (some ⟨gz,0,none⟩)) F rfl rfl (t:=34) (c:=(b0 || b1)) (e:=(!((b0 || b1)))) rfl rfl (by simp) rfl (by rfl) (fun he=>o_fldV0 (F.ev rfl)) fun a F=>?_
 refine lx_valG (v:=num A) F rfl rfl (t:=34) (c:=(b0 || b1)) (e:=(!((b0 || b1)))) rfl rfl (by simp) rfl (by rfl) (fun he=>o_ldV0 (F.evg rfl he) (HM.get 1 rfl)) fun a F=>?_
 refine lx_valG (v:=num 0) F rfl rfl (t:=34) (c:=(b0 || b1)) (e:=(!((b0 || b1)))) rfl rfl (by simp) rfl (by rfl) (fun he=>o_build0) fun a F=>?_
 refine lx_valG (v:=.bool b2) F rfl rfl (t:=34) (c:=(b0 || b1)) (e:=(!((b0 || b1)))) rfl rfl (by simp) rfl (by rfl) (fun he=>o_eqlN hA n0_256 hb2 (F.evg rfl he) (F.evg rfl he)) fun a F=>?_
 refine lxv (.bool (((b0 || b1) || b2))) F (o_pickO (F.ev rfl) rfl (F.ev rfl)) fun a F=>?_
 refine lxv (.bool (((b0 || b1) || b2))) F (o_move (F.ev rfl)) fun a F=>?_
 refine lx_valG (v:=.pointer (some ⟨gz,4,none⟩)) F rfl rfl (t:=40) (c:=((b0 || b1) || b2)) (e:=(!(((b0 || b1) || b2)))) rfl rfl (by simp) rfl (by rfl) (fun he=>o_fldV1 (F.ev rfl)) fun a F=>?_
 refine lx_valG (v:=num B) F rfl rfl (t:=40) (c:=((b0 || b1) || b2)) (e:=(!(((b0 || b1) || b2)))) rfl rfl (by simp) rfl (by rfl) (fun he=>o_ldV4 (F.evg rfl he) (HM.get 1 rfl)) fun a F=>?_
 refine lx_valG (v:=num 0) F rfl rfl (t:=40) (c:=((b0 || b1) || b2)) (e:=(!(((b0 || b1) || b2)))) rfl rfl (by simp) rfl (by rfl) (fun he=>o_build0) fun a F=>?_
 refine lx_valG (v:=.bool b3) F rfl rfl (t:=40) (c:=((b0 || b1) || b2)) (e:=(!(((b0 || b1) || b2)))) rfl rfl (by simp) rfl (by rfl) (fun he=>o_eqlN hB n0_256 hb3 (F.evg rfl he) (F.evg rfl he)) fun a F=>?_
 refine lxv (.bool ((((b0 || b1) || b2) || b3))) F (o_pickO (F.ev rfl) rfl (F.ev rfl)) fun a F=>?_
 refine lxv (.bool ((((b0 || b1) || b2) || b3))) F (o_assign (F.ev rfl)) fun a F=>?_
 refine lx_nil ?_
 rw [ho] at F
 repeat first|refine et1 ?_|refine eb1 ?_|refine ws1 ?_|refine wb1 ?_|refine wk1 ?_
 refine wp_region_lit ?_
 refine lxv (.bool false) F (o_move (F.ev rfl)) fun a F=>?_
 refine lxv (.bool false) F (o_move (F.ev rfl)) fun a F=>?_
 refine lxp 47 false F fun a F=>?_
 refine lxp 47 false F fun a F=>?_
 refine lxv (.bool false) F (o_pick (b:=false) (r:=.bool false) (F.ev rfl) (F.ev rfl) rfl rfl) fun a F=>?_
 refine lxv (.bool false) F (o_move (F.ev rfl)) fun a F=>?_
 refine lxw 51 false (.int .i64 0) F (o_move (F.ev rfl)) fun a F=>?_
 refine lxw 51 false (.bool false) F (o_bin (u:=.int .i64 0) (v:=.int .i64 0) (fun ρ hx hy=>by simp only [execOp,hx,hy];simp [go_sem]) (F.ev rfl) rfl) fun a F=>?_
 refine lxw 51 false (.bool false) F (o_move (F.ev rfl)) fun a F=>?_
 refine lxp 54 false F fun a F=>?_
 refine lxp 54 false F fun a F=>?_
 refine lxw 51 false (.bool false) F (o_pick (b:=false) (r:=.bool false) (F.ev rfl) (F.ev rfl) rfl rfl) fun a F=>?_
 refine lxv (.bool false) F (o_pick (b:=false) (r:=.bool false) (F.ev rfl) rfl (F.ev rfl) rfl) fun a F=>?_
 refine lx_nil ?_
 repeat first|refine et1 ?_|refine eb1 ?_|refine ws1 ?_|refine wb1 ?_|refine wk1 ?_
 refine wp_cond_false (F.ev rfl) ?_
 repeat first|refine et1 ?_|refine eb1 ?_|refine ws1 ?_|refine wb1 ?_|refine wk1 ?_
 refine wp_region_lit ?_
 refine lxv (grp P Q G H) F (o_loadG (F.ev rfl) (HM.get 2 rfl)) fun a F=>?_
 refine lxv (.pointer (some ⟨gz,8,none⟩)) F (o_fldV2 (F.ev rfl)) fun a F=>?_
 refine lxv (num K) F (o_ldV8 (F.ev rfl) (HM.get 1 rfl)) fun a F=>?_
 refine lxv (.pointer (some ⟨gz,12,none⟩)) F (o_fldV3 (F.ev rfl)) fun a F=>?_
 refine lxv (hsv h) F (o_ldV12 (F.ev rfl) (HM.get 1 rfl)) fun a F=>?_
 refine lxv (.pointer (some ⟨gz,44,none⟩)) F (o_fldV4 (F.ev rfl)) fun a F=>?_
 refine lxv (sgv C S) F (o_ldV44 (F.ev rfl) (HM.get 1 rfl)) fun a F=>?_
 refine lx_call F (wanted_none rfl _) rfl (by rfl) (run_callF Tryd.func11 (by kernel_rfl) (by rfl) (.cons (F.ev rfl) (.cons (F.ev rfl) (.cons (F.ev rfl) (.cons (F.ev rfl) .nil)))) _) (chk_is P Q G H K C S h hP hQ hG hK hC hS _ hc hh (T.on HM.bel)) fun a w z F=>?_
 replace HM:=HM.on z
 clear z
 refine lxv (.bool true) F (o_assign (F.ev rfl)) fun a F=>?_
 refine lx_nil ?_
 repeat first|refine et1 ?_|refine eb1 ?_|refine ws1 ?_|refine wb1 ?_|refine wk1 ?_
 refine wp_region_lit ?_
 refine lx_call F (wanted_none rfl _) rfl (by rfl) (run_callF Tryd.func8 (by kernel_rfl) (by rfl) .nil _) (alive13_any _ (T.on HM.bel)) fun a w z F=>?_
 replace HM:=HM.on z
 clear z
 refine lxv (.bool true) F (o_move (F.ev rfl)) fun a F=>?_
 refine lxw 68 true (.bool true) F (o_move (F.ev rfl)) fun a F=>?_
 refine lxw 68 true (.bool false) F (o_not (b:=true) (r:=false) (F.ev rfl) rfl) fun a F=>?_
 refine lxw 68 true (.bool false) F (o_move (F.ev rfl)) fun a F=>?_
 refine lxw 71 false (.pointer (some ⟨gz,44,none⟩)) F (o_fldV4 (F.ev rfl)) fun a F=>?_
 refine lxw 71 false (.pointer (some ⟨gz,44,none⟩)) F (o_fldS0 (F.ev rfl)) fun a F=>?_
 refine lxw 71 false (num C) F (o_ldV44n (F.ev rfl) (HM.get 1 rfl)) fun a F=>?_
 refine lxw 71 false (.pointer (some ⟨gg,4,none⟩)) F (o_fieldG1 (F.ev rfl)) fun a F=>?_
 refine lxw 71 false (num Q) F (o_loadG1 (F.ev rfl) (HM.get 2 rfl)) fun a F=>?_
 refine lx_call F (F.want (t:=71) (c:=false) rfl rfl rfl (by rfl) rfl) rfl (by rfl) (run_callF Tryd.func12 (by kernel_rfl) (by rfl) (.cons (F.ev rfl) (.cons (F.ev rfl) .nil)) _) ((fun w=>cmp_any C Q hC hQ w) _) fun a w z F=>?_
 replace HM:=HM.on z
 clear z
 refine lxw 71 false (.bool true) F (o_lssI l1 (F.ev rfl) rfl) fun a F=>?_
 refine lxw 71 false (.bool true) F (o_move (F.ev rfl)) fun a F=>?_
 refine lxw 79 true (.pointer (some ⟨gz,44,none⟩)) F (o_fldV4 (F.ev rfl)) fun a F=>?_
 refine lxw 79 true (.pointer (some ⟨gz,48,none⟩)) F (o_fldS1 (F.ev rfl)) fun a F=>?_
 refine lxw 79 true (num S) F (o_ldV48 (F.ev rfl) (HM.get 1 rfl)) fun a F=>?_
 refine lxw 79 true (.pointer (some ⟨gg,4,none⟩)) F (o_fieldG1 (F.ev rfl)) fun a F=>?_
 refine lxw 79 true (num Q) F (o_loadG1 (F.ev rfl) (HM.get 2 rfl)) fun a F=>?_
 refine lx_call F (F.want (t:=79) (c:=true) rfl rfl rfl (by rfl) rfl) rfl (by rfl) (run_callF Tryd.func12 (by kernel_rfl) (by rfl) (.cons (F.ev rfl) (.cons (F.ev rfl) .nil)) _) ((fun w=>cmp_any S Q hS hQ w) _) fun a w z F=>?_
 replace HM:=HM.on z
 clear z
 refine lxw 79 true (.bool true) F (o_lssI l2 (F.ev rfl) rfl) fun a F=>?_
 refine lxw 71 false (.bool true) F (o_pick (b:=true) (r:=.bool true) (F.ev rfl) (F.ev rfl) rfl rfl) fun a F=>?_
 refine lxw 71 false (.bool true) F (o_move (F.ev rfl)) fun a F=>?_
 refine lxw 88 true (grp P Q G H) F (o_loadG (F.ev rfl) (HM.get 2 rfl)) fun a F=>?_
 refine lxw 88 true (.pointer (some ⟨gz,8,none⟩)) F (o_fldV2 (F.ev rfl)) fun a F=>?_
 refine lxw 88 true (num K) F (o_ldV8 (F.ev rfl) (HM.get 1 rfl)) fun a F=>?_
 refine lx_call F (F.want (t:=88) (c:=true) rfl rfl rfl (by rfl) rfl) rfl (by rfl) (run_callF Tryd.func16 (by kernel_rfl) (by rfl) (.cons (F.ev rfl) (.cons (F.ev rfl) .nil)) _) ((fun w=>gin_is P Q G H K hin hP hQ hK w) _) fun a w z F=>?_
 replace HM:=HM.on z
 clear z
 refine lxw 71 false (.bool true) F (o_pick (b:=true) (r:=.bool true) (F.ev rfl) (F.ev rfl) rfl rfl) fun a F=>?_
 refine lxw 71 false (.bool true) F (o_move (F.ev rfl)) fun a F=>?_
 refine lxw 94 true (.pointer (some ⟨gz,8,none⟩)) F (o_fldV2 (F.ev rfl)) fun a F=>?_
 refine lxw 94 true (num K) F (o_ldV8 (F.ev rfl) (HM.get 1 rfl)) fun a F=>?_
 refine lxw 94 true (num 1) F (o_buildW 1 (by decide) rfl) fun a F=>?_
 refine lxw 94 true (.bool true) F (o_neqN hK n1_256 hk1 (F.ev rfl) (F.ev rfl)) fun a F=>?_
 refine lxw 71 false (.bool true) F (o_pick (b:=true) (r:=.bool true) (F.ev rfl) (F.ev rfl) rfl rfl) fun a F=>?_
 refine lxw 68 true (.bool true) F (o_pick (b:=false) (r:=.bool true) (F.ev rfl) rfl (F.ev rfl) rfl) fun a F=>?_
 refine lxv (.bool true) F (o_pick (b:=true) (r:=.bool true) (F.ev rfl) (F.ev rfl) rfl rfl) fun a F=>?_
 refine lxv (.bool true) F (o_assign (F.ev rfl)) fun a F=>?_
 refine lx_nil ?_
 repeat first|refine et1 ?_|refine eb1 ?_|refine ws1 ?_|refine wb1 ?_|refine wk1 ?_
 refine wp_ret ?_
 repeat (first | refine ex_thenR ?_ | refine ex_blockR ?_)
 exact sx_ret F HM (res_tmp F rfl (s:=4) rfl)

set_option maxRecDepth 100000 in
set_option maxHeartbeats 800000 in
theorem bnd_1ff (P Q G H A B K C S:Nat) (h:Nat→Nat) (hP:P<2^256) (hQ:Q<2^256) (hG:G<2^256) (hH:H<2^256) (hA:A<2^256) (hB:B<2^256) (hK:K<2^256) (hC:C<2^256) (hS:S<2^256) (hh:∀ i,h i<256) (w0:World) (T:By.Tabs w0) (b0 b1 b2 b3:Bool) (hb0:decide ((0:Int)≤cmpN A Q)=b0) (hb1:decide ((0:Int)≤cmpN B Q)=b1) (hb2:decide (A=0)=b2) (hb3:decide (B=0)=b3) (c x:Nat) (s1:∀ w,By.Tabs w→Calls Tryd.prog 10 #[grp P Q G H,num A,hsv h,num B] w fun e w'=>e=.returned (.tuple #[sgv c x,.int .i64 1])∧Below w.heap.size w w') (ho:(((b0 || b1) || b2) || b3)=false) (hc:chkB P Q G K h C S=false):Calls Tryd.prog 5 #[grp P Q G H,gvv A B K h C S] w0 fun e w'=>e=.returned (.bool true)∧Below w0.heap.size w0 w':=by
 refine sx_enter (args:=[grp P Q G H,gvv A B K h C S]) Tryd.func5 rfl Tryd.ntmps5 (by rfl) fun a F HM=>?_
 repeat first|refine et1 ?_|refine eb1 ?_|refine ws1 ?_|refine wb1 ?_|refine wk1 ?_
 refine wp_region_lit ?_
 refine lx_new F HM (wanted_none rfl _) rfl (by rfl) (o_boxG (F.ev rfl)) fun a w gg F HM=>?_
 refine lx_new F HM (wanted_none rfl _) rfl (by rfl) (o_boxV (F.ev rfl)) fun a w gz F HM=>?_
 refine lxv (.bool false) F (o_assign rfl) fun a F=>?_
 refine lx_nil ?_
 repeat first|refine et1 ?_|refine eb1 ?_|refine ws1 ?_|refine wb1 ?_|refine wk1 ?_
 refine wp_region_lit ?_
 refine lxv (grp P Q G H) F (o_loadG (F.ev rfl) (HM.get 1 rfl)) fun a F=>?_
 refine lxv (.pointer (some ⟨gz,0,none⟩)) F (o_fldV0 (F.ev rfl)) fun a F=>?_
 refine lxv (num A) F (o_ldV0 (F.ev rfl) (HM.get 0 rfl)) fun a F=>?_
 refine lxv (.pointer (some ⟨gz,12,none⟩)) F (o_fldV3 (F.ev rfl)) fun a F=>?_
 refine lxv (hsv h) F (o_ldV12 (F.ev rfl) (HM.get 0 rfl)) fun a F=>?_
 refine lxv (.pointer (some ⟨gz,4,none⟩)) F (o_fldV1 (F.ev rfl)) fun a F=>?_
 refine lxv (num B) F (o_ldV4 (F.ev rfl) (HM.get 0 rfl)) fun a F=>?_
 refine lx_call F (wanted_none rfl _) rfl (by rfl) (run_callF Tryd.func10 (by kernel_rfl) (by rfl) (.cons (F.ev rfl) (.cons (F.ev rfl) (.cons (F.ev rfl) (.cons (F.ev rfl) .nil)))) _) (s1 _ (T.on HM.bel)) fun a w z F=>?_
 replace HM:=HM.on z
 clear z
 refine lxv (.tuple #[sgv c x,.int .i64 1]) F (o_move (F.ev rfl)) fun a F=>?_
 refine lxv (sgv c x) F (o_extract (F.ev rfl) rfl) fun a F=>?_
 refine lxv (.int .i64 1) F (o_extract (F.ev rfl) rfl) fun a F=>?_
 refine lx_new F HM (wanted_none rfl _) rfl (by rfl) (o_allocS) fun a w gs F HM=>?_
 refine lx_store F HM (wanted_none rfl _) rfl (k:=0) rfl (o_stS (F.ev rfl) (F.ev rfl) (HM.get 0 rfl)) (M2:=[(gs,30,sgc c x),(gz,32,gvc A B K h C S),(gg,26,gcs P Q G H)]) (by rw [sets_sg];rfl) fun w HM=>?_
 refine lxv (.int .i64 1) F (o_assign (F.ev rfl)) fun a F=>?_
 refine lx_nil ?_
 repeat first|refine et1 ?_|refine eb1 ?_|refine ws1 ?_|refine wb1 ?_|refine wk1 ?_
 refine wp_region_lit ?_
 refine lxv (.pointer (some ⟨gz,0,none⟩)) F (o_fldV0 (F.ev rfl)) fun a F=>?_
 refine lxv (num A) F (o_ldV0 (F.ev rfl) (HM.get 1 rfl)) fun a F=>?_
 refine lxv (.pointer (some ⟨gg,4,none⟩)) F (o_fieldG1 (F.ev rfl)) fun a F=>?_
 refine lxv (num Q) F (o_loadG1 (F.ev rfl) (HM.get 2 rfl)) fun a F=>?_
 refine lx_call F (wanted_none rfl _) rfl (by rfl) (run_callF Tryd.func12 (by kernel_rfl) (by rfl) (.cons (F.ev rfl) (.cons (F.ev rfl) .nil)) _) ((fun w=>cmp_any A Q hA hQ w) _) fun a w z F=>?_
 replace HM:=HM.on z
 clear z
 refine lxv (.bool b0) F (o_geqI hb0 (F.ev rfl) rfl) fun a F=>?_
 refine lxv (.bool b0) F (o_move (F.ev rfl)) fun a F=>?_
 refine lx_valG (v:=.pointer (some ⟨gz,4,none⟩)) F rfl rfl (t:=26) (c:=b0) (e:=(!b0)) rfl rfl (by simp) rfl (by rfl) (fun he=>o_fldV1 (F.ev rfl)) fun a F=>?_
 refine lx_valG (v:=num B) F rfl rfl (t:=26) (c:=b0) (e:=(!b0)) rfl rfl (by simp) rfl (by rfl) (fun he=>o_ldV4 (F.evg rfl he) (HM.get 1 rfl)) fun a F=>?_
 refine lx_valG (v:=.pointer (some ⟨gg,4,none⟩)) F rfl rfl (t:=26) (c:=b0) (e:=(!b0)) rfl rfl (by simp) rfl (by rfl) (fun he=>o_fieldG1 (F.ev rfl)) fun a F=>?_
 refine lx_valG (v:=num Q) F rfl rfl (t:=26) (c:=b0) (e:=(!b0)) rfl rfl (by simp) rfl (by rfl) (fun he=>o_loadG1 (F.evg rfl he) (HM.get 2 rfl)) fun a F=>?_
 refine lx_callG (v:=.int .i64 (cmpN B Q)) F rfl rfl (t:=26) (c:=b0) (e:=(!b0)) rfl rfl (by simp) rfl (by rfl) (fun he=>run_callF Tryd.func12 (by kernel_rfl) (by rfl) (.cons (F.evg rfl he) (.cons (F.evg rfl he) .nil)) _) (fun he=>(fun w=>cmp_any B Q hB hQ w) _) fun a w z F=>?_
 replace HM:=HM.on z
 clear z
 refine lx_valG (v:=.bool b1) F rfl rfl (t:=26) (c:=b0) (e:=(!b0)) rfl rfl (by simp) rfl (by rfl) (fun he=>o_geqI hb1 (F.evg rfl he) rfl) fun a F=>?_
 refine lxv (.bool ((b0 || b1))) F (o_pickO (F.ev rfl) rfl (F.ev rfl)) fun a F=>?_
 refine lxv (.bool ((b0 || b1))) F (o_move (F.ev rfl)) fun a F=>?_
 refine lx_valG (v:=.pointer (some ⟨gz,0,none⟩)) F rfl rfl (t:=34) (c:=(b0 || b1)) (e:=(!((b0 || b1)))) rfl rfl (by simp) rfl (by rfl) (fun he=>o_fldV0 (F.ev rfl)) fun a F=>?_
 refine lx_valG (v:=num A) F rfl rfl (t:=34) (c:=(b0 || b1)) (e:=(!((b0 || b1)))) rfl rfl (by simp) rfl (by rfl) (fun he=>o_ldV0 (F.evg rfl he) (HM.get 1 rfl)) fun a F=>?_
 refine lx_valG (v:=num 0) F rfl rfl (t:=34) (c:=(b0 || b1)) (e:=(!((b0 || b1)))) rfl rfl (by simp) rfl (by rfl) (fun he=>o_build0) fun a F=>?_
 refine lx_valG (v:=.bool b2) F rfl rfl (t:=34) (c:=(b0 || b1)) (e:=(!((b0 || b1)))) rfl rfl (by simp) rfl (by rfl) (fun he=>o_eqlN hA n0_256 hb2 (F.evg rfl he) (F.evg rfl he)) fun a F=>?_
 refine lxv (.bool (((b0 || b1) || b2))) F (o_pickO (F.ev rfl) rfl (F.ev rfl)) fun a F=>?_
 refine lxv (.bool (((b0 || b1) || b2))) F (o_move (F.ev rfl)) fun a F=>?_
 refine lx_valG (v:=.pointer (some ⟨gz,4,none⟩)) F rfl rfl (t:=40) (c:=((b0 || b1) || b2)) (e:=(!(((b0 || b1) || b2)))) rfl rfl (by simp) rfl (by rfl) (fun he=>o_fldV1 (F.ev rfl)) fun a F=>?_
 refine lx_valG (v:=num B) F rfl rfl (t:=40) (c:=((b0 || b1) || b2)) (e:=(!(((b0 || b1) || b2)))) rfl rfl (by simp) rfl (by rfl) (fun he=>o_ldV4 (F.evg rfl he) (HM.get 1 rfl)) fun a F=>?_
 refine lx_valG (v:=num 0) F rfl rfl (t:=40) (c:=((b0 || b1) || b2)) (e:=(!(((b0 || b1) || b2)))) rfl rfl (by simp) rfl (by rfl) (fun he=>o_build0) fun a F=>?_
 refine lx_valG (v:=.bool b3) F rfl rfl (t:=40) (c:=((b0 || b1) || b2)) (e:=(!(((b0 || b1) || b2)))) rfl rfl (by simp) rfl (by rfl) (fun he=>o_eqlN hB n0_256 hb3 (F.evg rfl he) (F.evg rfl he)) fun a F=>?_
 refine lxv (.bool ((((b0 || b1) || b2) || b3))) F (o_pickO (F.ev rfl) rfl (F.ev rfl)) fun a F=>?_
 refine lxv (.bool ((((b0 || b1) || b2) || b3))) F (o_assign (F.ev rfl)) fun a F=>?_
 refine lx_nil ?_
 rw [ho] at F
 repeat first|refine et1 ?_|refine eb1 ?_|refine ws1 ?_|refine wb1 ?_|refine wk1 ?_
 refine wp_region_lit ?_
 refine lxv (.bool false) F (o_move (F.ev rfl)) fun a F=>?_
 refine lxv (.bool false) F (o_move (F.ev rfl)) fun a F=>?_
 refine lxp 47 false F fun a F=>?_
 refine lxp 47 false F fun a F=>?_
 refine lxv (.bool false) F (o_pick (b:=false) (r:=.bool false) (F.ev rfl) (F.ev rfl) rfl rfl) fun a F=>?_
 refine lxv (.bool false) F (o_move (F.ev rfl)) fun a F=>?_
 refine lxw 51 false (.int .i64 1) F (o_move (F.ev rfl)) fun a F=>?_
 refine lxw 51 false (.bool true) F (o_bin (u:=.int .i64 1) (v:=.int .i64 0) (fun ρ hx hy=>by simp only [execOp,hx,hy];simp [go_sem]) (F.ev rfl) rfl) fun a F=>?_
 refine lxw 51 false (.bool true) F (o_move (F.ev rfl)) fun a F=>?_
 refine lxw 54 true (.int .i64 1) F (o_move (F.ev rfl)) fun a F=>?_
 refine lxw 54 true (.bool false) F (o_bin (u:=.int .i64 1) (v:=.int .i64 1) (fun ρ hx hy=>by simp only [execOp,hx,hy];simp [go_sem]) (F.ev rfl) rfl) fun a F=>?_
 refine lxw 51 false (.bool false) F (o_pick (b:=true) (r:=.bool false) (F.ev rfl) (F.ev rfl) rfl rfl) fun a F=>?_
 refine lxv (.bool false) F (o_pick (b:=false) (r:=.bool false) (F.ev rfl) rfl (F.ev rfl) rfl) fun a F=>?_
 refine lx_nil ?_
 repeat first|refine et1 ?_|refine eb1 ?_|refine ws1 ?_|refine wb1 ?_|refine wk1 ?_
 refine wp_cond_false (F.ev rfl) ?_
 repeat first|refine et1 ?_|refine eb1 ?_|refine ws1 ?_|refine wb1 ?_|refine wk1 ?_
 refine wp_region_lit ?_
 refine lxv (grp P Q G H) F (o_loadG (F.ev rfl) (HM.get 2 rfl)) fun a F=>?_
 refine lxv (.pointer (some ⟨gz,8,none⟩)) F (o_fldV2 (F.ev rfl)) fun a F=>?_
 refine lxv (num K) F (o_ldV8 (F.ev rfl) (HM.get 1 rfl)) fun a F=>?_
 refine lxv (.pointer (some ⟨gz,12,none⟩)) F (o_fldV3 (F.ev rfl)) fun a F=>?_
 refine lxv (hsv h) F (o_ldV12 (F.ev rfl) (HM.get 1 rfl)) fun a F=>?_
 refine lxv (.pointer (some ⟨gz,44,none⟩)) F (o_fldV4 (F.ev rfl)) fun a F=>?_
 refine lxv (sgv C S) F (o_ldV44 (F.ev rfl) (HM.get 1 rfl)) fun a F=>?_
 refine lx_call F (wanted_none rfl _) rfl (by rfl) (run_callF Tryd.func11 (by kernel_rfl) (by rfl) (.cons (F.ev rfl) (.cons (F.ev rfl) (.cons (F.ev rfl) (.cons (F.ev rfl) .nil)))) _) (chk_is P Q G H K C S h hP hQ hG hK hC hS _ hc hh (T.on HM.bel)) fun a w z F=>?_
 replace HM:=HM.on z
 clear z
 refine lxv (.bool false) F (o_assign (F.ev rfl)) fun a F=>?_
 refine lx_nil ?_
 repeat first|refine et1 ?_|refine eb1 ?_|refine ws1 ?_|refine wb1 ?_|refine wk1 ?_
 refine wp_region_lit ?_
 refine lx_call F (wanted_none rfl _) rfl (by rfl) (run_callF Tryd.func8 (by kernel_rfl) (by rfl) .nil _) (alive13_any _ (T.on HM.bel)) fun a w z F=>?_
 replace HM:=HM.on z
 clear z
 refine lxv (.bool true) F (o_move (F.ev rfl)) fun a F=>?_
 refine lxw 68 true (.bool false) F (o_move (F.ev rfl)) fun a F=>?_
 refine lxw 68 true (.bool true) F (o_not (b:=false) (r:=true) (F.ev rfl) rfl) fun a F=>?_
 refine lxw 68 true (.bool true) F (o_move (F.ev rfl)) fun a F=>?_
 refine lxp 71 true F fun a F=>?_
 refine lxp 71 true F fun a F=>?_
 refine lxp 71 true F fun a F=>?_
 refine lxp 71 true F fun a F=>?_
 refine lxp 71 true F fun a F=>?_
 refine lxp 71 true F fun a F=>?_
 refine lxp 71 true F fun a F=>?_
 refine lxp 71 true F fun a F=>?_
 refine lx_pass F (F.unwanted (t:=79) rfl rfl rfl (by rfl)) rfl (by rfl) fun a F=>?_
 refine lx_pass F (F.unwanted (t:=79) rfl rfl rfl (by rfl)) rfl (by rfl) fun a F=>?_
 refine lx_pass F (F.unwanted (t:=79) rfl rfl rfl (by rfl)) rfl (by rfl) fun a F=>?_
 refine lx_pass F (F.unwanted (t:=79) rfl rfl rfl (by rfl)) rfl (by rfl) fun a F=>?_
 refine lx_pass F (F.unwanted (t:=79) rfl rfl rfl (by rfl)) rfl (by rfl) fun a F=>?_
 refine lx_pass F (F.unwanted (t:=79) rfl rfl rfl (by rfl)) rfl (by rfl) fun a F=>?_
 refine lx_pass F (F.unwanted (t:=79) rfl rfl rfl (by rfl)) rfl (by rfl) fun a F=>?_
 refine lxp 71 true F fun a F=>?_
 refine lxp 71 true F fun a F=>?_
 refine lx_pass F (F.unwanted (t:=88) rfl rfl rfl (by rfl)) rfl (by rfl) fun a F=>?_
 refine lx_pass F (F.unwanted (t:=88) rfl rfl rfl (by rfl)) rfl (by rfl) fun a F=>?_
 refine lx_pass F (F.unwanted (t:=88) rfl rfl rfl (by rfl)) rfl (by rfl) fun a F=>?_
 refine lx_pass F (F.unwanted (t:=88) rfl rfl rfl (by rfl)) rfl (by rfl) fun a F=>?_
 refine lxp 71 true F fun a F=>?_
 refine lxp 71 true F fun a F=>?_
 refine lx_pass F (F.unwanted (t:=94) rfl rfl rfl (by rfl)) rfl (by rfl) fun a F=>?_
 refine lx_pass F (F.unwanted (t:=94) rfl rfl rfl (by rfl)) rfl (by rfl) fun a F=>?_
 refine lx_pass F (F.unwanted (t:=94) rfl rfl rfl (by rfl)) rfl (by rfl) fun a F=>?_
 refine lx_pass F (F.unwanted (t:=94) rfl rfl rfl (by rfl)) rfl (by rfl) fun a F=>?_
 refine lxp 71 true F fun a F=>?_
 refine lxw 68 true (.bool true) F (o_pick (b:=true) (r:=.bool true) (F.ev rfl) rfl (F.ev rfl) rfl) fun a F=>?_
 refine lxv (.bool true) F (o_pick (b:=true) (r:=.bool true) (F.ev rfl) (F.ev rfl) rfl rfl) fun a F=>?_
 refine lxv (.bool true) F (o_assign (F.ev rfl)) fun a F=>?_
 refine lx_nil ?_
 repeat first|refine et1 ?_|refine eb1 ?_|refine ws1 ?_|refine wb1 ?_|refine wk1 ?_
 refine wp_ret ?_
 repeat (first | refine ex_thenR ?_ | refine ex_blockR ?_)
 exact sx_ret F HM (res_tmp F rfl (s:=4) rfl)

set_option maxRecDepth 100000 in
set_option maxHeartbeats 800000 in
theorem bnd_1ft (P Q G H A B K C S:Nat) (h:Nat→Nat) (hP:P<2^256) (hQ:Q<2^256) (hG:G<2^256) (hH:H<2^256) (hA:A<2^256) (hB:B<2^256) (hK:K<2^256) (hC:C<2^256) (hS:S<2^256) (hh:∀ i,h i<256) (w0:World) (T:By.Tabs w0) (b0 b1 b2 b3:Bool) (hb0:decide ((0:Int)≤cmpN A Q)=b0) (hb1:decide ((0:Int)≤cmpN B Q)=b1) (hb2:decide (A=0)=b2) (hb3:decide (B=0)=b3) (c x:Nat) (s1:∀ w,By.Tabs w→Calls Tryd.prog 10 #[grp P Q G H,num A,hsv h,num B] w fun e w'=>e=.returned (.tuple #[sgv c x,.int .i64 1])∧Below w.heap.size w w') (ho:(((b0 || b1) || b2) || b3)=false) (hc:chkB P Q G K h C S=true) (l1:decide (cmpN C Q<(0:Int))=true) (l2:decide (cmpN S Q<(0:Int))=true) (hin:inB P Q K=true) (hk1:decide (K=1)=false):Calls Tryd.prog 5 #[grp P Q G H,gvv A B K h C S] w0 fun e w'=>e=.returned (.bool true)∧Below w0.heap.size w0 w':=by
 refine sx_enter (args:=[grp P Q G H,gvv A B K h C S]) Tryd.func5 rfl Tryd.ntmps5 (by rfl) fun a F HM=>?_
 repeat first|refine et1 ?_|refine eb1 ?_|refine ws1 ?_|refine wb1 ?_|refine wk1 ?_
 refine wp_region_lit ?_
 refine lx_new F HM (wanted_none rfl _) rfl (by rfl) (o_boxG (F.ev rfl)) fun a w gg F HM=>?_
 refine lx_new F HM (wanted_none rfl _) rfl (by rfl) (o_boxV (F.ev rfl)) fun a w gz F HM=>?_
 refine lxv (.bool false) F (o_assign rfl) fun a F=>?_
 refine lx_nil ?_
 repeat first|refine et1 ?_|refine eb1 ?_|refine ws1 ?_|refine wb1 ?_|refine wk1 ?_
 refine wp_region_lit ?_
 refine lxv (grp P Q G H) F (o_loadG (F.ev rfl) (HM.get 1 rfl)) fun a F=>?_
 refine lxv (.pointer (some ⟨gz,0,none⟩)) F (o_fldV0 (F.ev rfl)) fun a F=>?_
 refine lxv (num A) F (o_ldV0 (F.ev rfl) (HM.get 0 rfl)) fun a F=>?_
 refine lxv (.pointer (some ⟨gz,12,none⟩)) F (o_fldV3 (F.ev rfl)) fun a F=>?_
 refine lxv (hsv h) F (o_ldV12 (F.ev rfl) (HM.get 0 rfl)) fun a F=>?_
 refine lxv (.pointer (some ⟨gz,4,none⟩)) F (o_fldV1 (F.ev rfl)) fun a F=>?_
 refine lxv (num B) F (o_ldV4 (F.ev rfl) (HM.get 0 rfl)) fun a F=>?_
 refine lx_call F (wanted_none rfl _) rfl (by rfl) (run_callF Tryd.func10 (by kernel_rfl) (by rfl) (.cons (F.ev rfl) (.cons (F.ev rfl) (.cons (F.ev rfl) (.cons (F.ev rfl) .nil)))) _) (s1 _ (T.on HM.bel)) fun a w z F=>?_
 replace HM:=HM.on z
 clear z
 refine lxv (.tuple #[sgv c x,.int .i64 1]) F (o_move (F.ev rfl)) fun a F=>?_
 refine lxv (sgv c x) F (o_extract (F.ev rfl) rfl) fun a F=>?_
 refine lxv (.int .i64 1) F (o_extract (F.ev rfl) rfl) fun a F=>?_
 refine lx_new F HM (wanted_none rfl _) rfl (by rfl) (o_allocS) fun a w gs F HM=>?_
 refine lx_store F HM (wanted_none rfl _) rfl (k:=0) rfl (o_stS (F.ev rfl) (F.ev rfl) (HM.get 0 rfl)) (M2:=[(gs,30,sgc c x),(gz,32,gvc A B K h C S),(gg,26,gcs P Q G H)]) (by rw [sets_sg];rfl) fun w HM=>?_
 refine lxv (.int .i64 1) F (o_assign (F.ev rfl)) fun a F=>?_
 refine lx_nil ?_
 repeat first|refine et1 ?_|refine eb1 ?_|refine ws1 ?_|refine wb1 ?_|refine wk1 ?_
 refine wp_region_lit ?_
 refine lxv (.pointer (some ⟨gz,0,none⟩)) F (o_fldV0 (F.ev rfl)) fun a F=>?_
 refine lxv (num A) F (o_ldV0 (F.ev rfl) (HM.get 1 rfl)) fun a F=>?_
 refine lxv (.pointer (some ⟨gg,4,none⟩)) F (o_fieldG1 (F.ev rfl)) fun a F=>?_
 refine lxv (num Q) F (o_loadG1 (F.ev rfl) (HM.get 2 rfl)) fun a F=>?_
 refine lx_call F (wanted_none rfl _) rfl (by rfl) (run_callF Tryd.func12 (by kernel_rfl) (by rfl) (.cons (F.ev rfl) (.cons (F.ev rfl) .nil)) _) ((fun w=>cmp_any A Q hA hQ w) _) fun a w z F=>?_
 replace HM:=HM.on z
 clear z
 refine lxv (.bool b0) F (o_geqI hb0 (F.ev rfl) rfl) fun a F=>?_
 refine lxv (.bool b0) F (o_move (F.ev rfl)) fun a F=>?_
 refine lx_valG (v:=.pointer (some ⟨gz,4,none⟩)) F rfl rfl (t:=26) (c:=b0) (e:=(!b0)) rfl rfl (by simp) rfl (by rfl) (fun he=>o_fldV1 (F.ev rfl)) fun a F=>?_
 refine lx_valG (v:=num B) F rfl rfl (t:=26) (c:=b0) (e:=(!b0)) rfl rfl (by simp) rfl (by rfl) (fun he=>o_ldV4 (F.evg rfl he) (HM.get 1 rfl)) fun a F=>?_
 refine lx_valG (v:=.pointer (some ⟨gg,4,none⟩)) F rfl rfl (t:=26) (c:=b0) (e:=(!b0)) rfl rfl (by simp) rfl (by rfl) (fun he=>o_fieldG1 (F.ev rfl)) fun a F=>?_
 refine lx_valG (v:=num Q) F rfl rfl (t:=26) (c:=b0) (e:=(!b0)) rfl rfl (by simp) rfl (by rfl) (fun he=>o_loadG1 (F.evg rfl he) (HM.get 2 rfl)) fun a F=>?_
 refine lx_callG (v:=.int .i64 (cmpN B Q)) F rfl rfl (t:=26) (c:=b0) (e:=(!b0)) rfl rfl (by simp) rfl (by rfl) (fun he=>run_callF Tryd.func12 (by kernel_rfl) (by rfl) (.cons (F.evg rfl he) (.cons (F.evg rfl he) .nil)) _) (fun he=>(fun w=>cmp_any B Q hB hQ w) _) fun a w z F=>?_
 replace HM:=HM.on z
 clear z
 refine lx_valG (v:=.bool b1) F rfl rfl (t:=26) (c:=b0) (e:=(!b0)) rfl rfl (by simp) rfl (by rfl) (fun he=>o_geqI hb1 (F.evg rfl he) rfl) fun a F=>?_
 refine lxv (.bool ((b0 || b1))) F (o_pickO (F.ev rfl) rfl (F.ev rfl)) fun a F=>?_
 refine lxv (.bool ((b0 || b1))) F (o_move (F.ev rfl)) fun a F=>?_
 refine lx_valG (v:=.pointer (some ⟨gz,0,none⟩)) F rfl rfl (t:=34) (c:=(b0 || b1)) (e:=(!((b0 || b1)))) rfl rfl (by simp) rfl (by rfl) (fun he=>o_fldV0 (F.ev rfl)) fun a F=>?_
 refine lx_valG (v:=num A) F rfl rfl (t:=34) (c:=(b0 || b1)) (e:=(!((b0 || b1)))) rfl rfl (by simp) rfl (by rfl) (fun he=>o_ldV0 (F.evg rfl he) (HM.get 1 rfl)) fun a F=>?_
 refine lx_valG (v:=num 0) F rfl rfl (t:=34) (c:=(b0 || b1)) (e:=(!((b0 || b1)))) rfl rfl (by simp) rfl (by rfl) (fun he=>o_build0) fun a F=>?_
 refine lx_valG (v:=.bool b2) F rfl rfl (t:=34) (c:=(b0 || b1)) (e:=(!((b0 || b1)))) rfl rfl (by simp) rfl (by rfl) (fun he=>o_eqlN hA n0_256 hb2 (F.evg rfl he) (F.evg rfl he)) fun a F=>?_
 refine lxv (.bool (((b0 || b1) || b2))) F (o_pickO (F.ev rfl) rfl (F.ev rfl)) fun a F=>?_
 refine lxv (.bool (((b0 || b1) || b2))) F (o_move (F.ev rfl)) fun a F=>?_
 refine lx_valG (v:=.pointer (some ⟨gz,4,none⟩)) F rfl rfl (t:=40) (c:=((b0 || b1) || b2)) (e:=(!(((b0 || b1) || b2)))) rfl rfl (by simp) rfl (by rfl) (fun he=>o_fldV1 (F.ev rfl)) fun a F=>?_
 refine lx_valG (v:=num B) F rfl rfl (t:=40) (c:=((b0 || b1) || b2)) (e:=(!(((b0 || b1) || b2)))) rfl rfl (by simp) rfl (by rfl) (fun he=>o_ldV4 (F.evg rfl he) (HM.get 1 rfl)) fun a F=>?_
 refine lx_valG (v:=num 0) F rfl rfl (t:=40) (c:=((b0 || b1) || b2)) (e:=(!(((b0 || b1) || b2)))) rfl rfl (by simp) rfl (by rfl) (fun he=>o_build0) fun a F=>?_
 refine lx_valG (v:=.bool b3) F rfl rfl (t:=40) (c:=((b0 || b1) || b2)) (e:=(!(((b0 || b1) || b2)))) rfl rfl (by simp) rfl (by rfl) (fun he=>o_eqlN hB n0_256 hb3 (F.evg rfl he) (F.evg rfl he)) fun a F=>?_
 refine lxv (.bool ((((b0 || b1) || b2) || b3))) F (o_pickO (F.ev rfl) rfl (F.ev rfl)) fun a F=>?_
 refine lxv (.bool ((((b0 || b1) || b2) || b3))) F (o_assign (F.ev rfl)) fun a F=>?_
 refine lx_nil ?_
 rw [ho] at F
 repeat first|refine et1 ?_|refine eb1 ?_|refine ws1 ?_|refine wb1 ?_|refine wk1 ?_
 refine wp_region_lit ?_
 refine lxv (.bool false) F (o_move (F.ev rfl)) fun a F=>?_
 refine lxv (.bool false) F (o_move (F.ev rfl)) fun a F=>?_
 refine lxp 47 false F fun a F=>?_
 refine lxp 47 false F fun a F=>?_
 refine lxv (.bool false) F (o_pick (b:=false) (r:=.bool false) (F.ev rfl) (F.ev rfl) rfl rfl) fun a F=>?_
 refine lxv (.bool false) F (o_move (F.ev rfl)) fun a F=>?_
 refine lxw 51 false (.int .i64 1) F (o_move (F.ev rfl)) fun a F=>?_
 refine lxw 51 false (.bool true) F (o_bin (u:=.int .i64 1) (v:=.int .i64 0) (fun ρ hx hy=>by simp only [execOp,hx,hy];simp [go_sem]) (F.ev rfl) rfl) fun a F=>?_
 refine lxw 51 false (.bool true) F (o_move (F.ev rfl)) fun a F=>?_
 refine lxw 54 true (.int .i64 1) F (o_move (F.ev rfl)) fun a F=>?_
 refine lxw 54 true (.bool false) F (o_bin (u:=.int .i64 1) (v:=.int .i64 1) (fun ρ hx hy=>by simp only [execOp,hx,hy];simp [go_sem]) (F.ev rfl) rfl) fun a F=>?_
 refine lxw 51 false (.bool false) F (o_pick (b:=true) (r:=.bool false) (F.ev rfl) (F.ev rfl) rfl rfl) fun a F=>?_
 refine lxv (.bool false) F (o_pick (b:=false) (r:=.bool false) (F.ev rfl) rfl (F.ev rfl) rfl) fun a F=>?_
 refine lx_nil ?_
 repeat first|refine et1 ?_|refine eb1 ?_|refine ws1 ?_|refine wb1 ?_|refine wk1 ?_
 refine wp_cond_false (F.ev rfl) ?_
 repeat first|refine et1 ?_|refine eb1 ?_|refine ws1 ?_|refine wb1 ?_|refine wk1 ?_
 refine wp_region_lit ?_
 refine lxv (grp P Q G H) F (o_loadG (F.ev rfl) (HM.get 2 rfl)) fun a F=>?_
 refine lxv (.pointer (some ⟨gz,8,none⟩)) F (o_fldV2 (F.ev rfl)) fun a F=>?_
 refine lxv (num K) F (o_ldV8 (F.ev rfl) (HM.get 1 rfl)) fun a F=>?_
 refine lxv (.pointer (some ⟨gz,12,none⟩)) F (o_fldV3 (F.ev rfl)) fun a F=>?_
 refine lxv (hsv h) F (o_ldV12 (F.ev rfl) (HM.get 1 rfl)) fun a F=>?_
 refine lxv (.pointer (some ⟨gz,44,none⟩)) F (o_fldV4 (F.ev rfl)) fun a F=>?_
 refine lxv (sgv C S) F (o_ldV44 (F.ev rfl) (HM.get 1 rfl)) fun a F=>?_
 refine lx_call F (wanted_none rfl _) rfl (by rfl) (run_callF Tryd.func11 (by kernel_rfl) (by rfl) (.cons (F.ev rfl) (.cons (F.ev rfl) (.cons (F.ev rfl) (.cons (F.ev rfl) .nil)))) _) (chk_is P Q G H K C S h hP hQ hG hK hC hS _ hc hh (T.on HM.bel)) fun a w z F=>?_
 replace HM:=HM.on z
 clear z
 refine lxv (.bool true) F (o_assign (F.ev rfl)) fun a F=>?_
 refine lx_nil ?_
 repeat first|refine et1 ?_|refine eb1 ?_|refine ws1 ?_|refine wb1 ?_|refine wk1 ?_
 refine wp_region_lit ?_
 refine lx_call F (wanted_none rfl _) rfl (by rfl) (run_callF Tryd.func8 (by kernel_rfl) (by rfl) .nil _) (alive13_any _ (T.on HM.bel)) fun a w z F=>?_
 replace HM:=HM.on z
 clear z
 refine lxv (.bool true) F (o_move (F.ev rfl)) fun a F=>?_
 refine lxw 68 true (.bool true) F (o_move (F.ev rfl)) fun a F=>?_
 refine lxw 68 true (.bool false) F (o_not (b:=true) (r:=false) (F.ev rfl) rfl) fun a F=>?_
 refine lxw 68 true (.bool false) F (o_move (F.ev rfl)) fun a F=>?_
 refine lxw 71 false (.pointer (some ⟨gz,44,none⟩)) F (o_fldV4 (F.ev rfl)) fun a F=>?_
 refine lxw 71 false (.pointer (some ⟨gz,44,none⟩)) F (o_fldS0 (F.ev rfl)) fun a F=>?_
 refine lxw 71 false (num C) F (o_ldV44n (F.ev rfl) (HM.get 1 rfl)) fun a F=>?_
 refine lxw 71 false (.pointer (some ⟨gg,4,none⟩)) F (o_fieldG1 (F.ev rfl)) fun a F=>?_
 refine lxw 71 false (num Q) F (o_loadG1 (F.ev rfl) (HM.get 2 rfl)) fun a F=>?_
 refine lx_call F (F.want (t:=71) (c:=false) rfl rfl rfl (by rfl) rfl) rfl (by rfl) (run_callF Tryd.func12 (by kernel_rfl) (by rfl) (.cons (F.ev rfl) (.cons (F.ev rfl) .nil)) _) ((fun w=>cmp_any C Q hC hQ w) _) fun a w z F=>?_
 replace HM:=HM.on z
 clear z
 refine lxw 71 false (.bool true) F (o_lssI l1 (F.ev rfl) rfl) fun a F=>?_
 refine lxw 71 false (.bool true) F (o_move (F.ev rfl)) fun a F=>?_
 refine lxw 79 true (.pointer (some ⟨gz,44,none⟩)) F (o_fldV4 (F.ev rfl)) fun a F=>?_
 refine lxw 79 true (.pointer (some ⟨gz,48,none⟩)) F (o_fldS1 (F.ev rfl)) fun a F=>?_
 refine lxw 79 true (num S) F (o_ldV48 (F.ev rfl) (HM.get 1 rfl)) fun a F=>?_
 refine lxw 79 true (.pointer (some ⟨gg,4,none⟩)) F (o_fieldG1 (F.ev rfl)) fun a F=>?_
 refine lxw 79 true (num Q) F (o_loadG1 (F.ev rfl) (HM.get 2 rfl)) fun a F=>?_
 refine lx_call F (F.want (t:=79) (c:=true) rfl rfl rfl (by rfl) rfl) rfl (by rfl) (run_callF Tryd.func12 (by kernel_rfl) (by rfl) (.cons (F.ev rfl) (.cons (F.ev rfl) .nil)) _) ((fun w=>cmp_any S Q hS hQ w) _) fun a w z F=>?_
 replace HM:=HM.on z
 clear z
 refine lxw 79 true (.bool true) F (o_lssI l2 (F.ev rfl) rfl) fun a F=>?_
 refine lxw 71 false (.bool true) F (o_pick (b:=true) (r:=.bool true) (F.ev rfl) (F.ev rfl) rfl rfl) fun a F=>?_
 refine lxw 71 false (.bool true) F (o_move (F.ev rfl)) fun a F=>?_
 refine lxw 88 true (grp P Q G H) F (o_loadG (F.ev rfl) (HM.get 2 rfl)) fun a F=>?_
 refine lxw 88 true (.pointer (some ⟨gz,8,none⟩)) F (o_fldV2 (F.ev rfl)) fun a F=>?_
 refine lxw 88 true (num K) F (o_ldV8 (F.ev rfl) (HM.get 1 rfl)) fun a F=>?_
 refine lx_call F (F.want (t:=88) (c:=true) rfl rfl rfl (by rfl) rfl) rfl (by rfl) (run_callF Tryd.func16 (by kernel_rfl) (by rfl) (.cons (F.ev rfl) (.cons (F.ev rfl) .nil)) _) ((fun w=>gin_is P Q G H K hin hP hQ hK w) _) fun a w z F=>?_
 replace HM:=HM.on z
 clear z
 refine lxw 71 false (.bool true) F (o_pick (b:=true) (r:=.bool true) (F.ev rfl) (F.ev rfl) rfl rfl) fun a F=>?_
 refine lxw 71 false (.bool true) F (o_move (F.ev rfl)) fun a F=>?_
 refine lxw 94 true (.pointer (some ⟨gz,8,none⟩)) F (o_fldV2 (F.ev rfl)) fun a F=>?_
 refine lxw 94 true (num K) F (o_ldV8 (F.ev rfl) (HM.get 1 rfl)) fun a F=>?_
 refine lxw 94 true (num 1) F (o_buildW 1 (by decide) rfl) fun a F=>?_
 refine lxw 94 true (.bool true) F (o_neqN hK n1_256 hk1 (F.ev rfl) (F.ev rfl)) fun a F=>?_
 refine lxw 71 false (.bool true) F (o_pick (b:=true) (r:=.bool true) (F.ev rfl) (F.ev rfl) rfl rfl) fun a F=>?_
 refine lxw 68 true (.bool true) F (o_pick (b:=false) (r:=.bool true) (F.ev rfl) rfl (F.ev rfl) rfl) fun a F=>?_
 refine lxv (.bool true) F (o_pick (b:=true) (r:=.bool true) (F.ev rfl) (F.ev rfl) rfl rfl) fun a F=>?_
 refine lxv (.bool true) F (o_assign (F.ev rfl)) fun a F=>?_
 refine lx_nil ?_
 repeat first|refine et1 ?_|refine eb1 ?_|refine ws1 ?_|refine wb1 ?_|refine wk1 ?_
 refine wp_ret ?_
 repeat (first | refine ex_thenR ?_ | refine ex_blockR ?_)
 exact sx_ret F HM (res_tmp F rfl (s:=4) rfl)

set_option maxRecDepth 100000 in
set_option maxHeartbeats 800000 in
theorem bnd_1tf (P Q G H A B K C S:Nat) (h:Nat→Nat) (hP:P<2^256) (hQ:Q<2^256) (hG:G<2^256) (hH:H<2^256) (hA:A<2^256) (hB:B<2^256) (hK:K<2^256) (hC:C<2^256) (hS:S<2^256) (hh:∀ i,h i<256) (w0:World) (T:By.Tabs w0) (b0 b1 b2 b3:Bool) (hb0:decide ((0:Int)≤cmpN A Q)=b0) (hb1:decide ((0:Int)≤cmpN B Q)=b1) (hb2:decide (A=0)=b2) (hb3:decide (B=0)=b3) (c x:Nat) (s1:∀ w,By.Tabs w→Calls Tryd.prog 10 #[grp P Q G H,num A,hsv h,num B] w fun e w'=>e=.returned (.tuple #[sgv c x,.int .i64 1])∧Below w.heap.size w w') (ho:(((b0 || b1) || b2) || b3)=true) (hc:chkB P Q G K h C S=false):Calls Tryd.prog 5 #[grp P Q G H,gvv A B K h C S] w0 fun e w'=>e=.returned (.bool true)∧Below w0.heap.size w0 w':=by
 refine sx_enter (args:=[grp P Q G H,gvv A B K h C S]) Tryd.func5 rfl Tryd.ntmps5 (by rfl) fun a F HM=>?_
 repeat first|refine et1 ?_|refine eb1 ?_|refine ws1 ?_|refine wb1 ?_|refine wk1 ?_
 refine wp_region_lit ?_
 refine lx_new F HM (wanted_none rfl _) rfl (by rfl) (o_boxG (F.ev rfl)) fun a w gg F HM=>?_
 refine lx_new F HM (wanted_none rfl _) rfl (by rfl) (o_boxV (F.ev rfl)) fun a w gz F HM=>?_
 refine lxv (.bool false) F (o_assign rfl) fun a F=>?_
 refine lx_nil ?_
 repeat first|refine et1 ?_|refine eb1 ?_|refine ws1 ?_|refine wb1 ?_|refine wk1 ?_
 refine wp_region_lit ?_
 refine lxv (grp P Q G H) F (o_loadG (F.ev rfl) (HM.get 1 rfl)) fun a F=>?_
 refine lxv (.pointer (some ⟨gz,0,none⟩)) F (o_fldV0 (F.ev rfl)) fun a F=>?_
 refine lxv (num A) F (o_ldV0 (F.ev rfl) (HM.get 0 rfl)) fun a F=>?_
 refine lxv (.pointer (some ⟨gz,12,none⟩)) F (o_fldV3 (F.ev rfl)) fun a F=>?_
 refine lxv (hsv h) F (o_ldV12 (F.ev rfl) (HM.get 0 rfl)) fun a F=>?_
 refine lxv (.pointer (some ⟨gz,4,none⟩)) F (o_fldV1 (F.ev rfl)) fun a F=>?_
 refine lxv (num B) F (o_ldV4 (F.ev rfl) (HM.get 0 rfl)) fun a F=>?_
 refine lx_call F (wanted_none rfl _) rfl (by rfl) (run_callF Tryd.func10 (by kernel_rfl) (by rfl) (.cons (F.ev rfl) (.cons (F.ev rfl) (.cons (F.ev rfl) (.cons (F.ev rfl) .nil)))) _) (s1 _ (T.on HM.bel)) fun a w z F=>?_
 replace HM:=HM.on z
 clear z
 refine lxv (.tuple #[sgv c x,.int .i64 1]) F (o_move (F.ev rfl)) fun a F=>?_
 refine lxv (sgv c x) F (o_extract (F.ev rfl) rfl) fun a F=>?_
 refine lxv (.int .i64 1) F (o_extract (F.ev rfl) rfl) fun a F=>?_
 refine lx_new F HM (wanted_none rfl _) rfl (by rfl) (o_allocS) fun a w gs F HM=>?_
 refine lx_store F HM (wanted_none rfl _) rfl (k:=0) rfl (o_stS (F.ev rfl) (F.ev rfl) (HM.get 0 rfl)) (M2:=[(gs,30,sgc c x),(gz,32,gvc A B K h C S),(gg,26,gcs P Q G H)]) (by rw [sets_sg];rfl) fun w HM=>?_
 refine lxv (.int .i64 1) F (o_assign (F.ev rfl)) fun a F=>?_
 refine lx_nil ?_
 repeat first|refine et1 ?_|refine eb1 ?_|refine ws1 ?_|refine wb1 ?_|refine wk1 ?_
 refine wp_region_lit ?_
 refine lxv (.pointer (some ⟨gz,0,none⟩)) F (o_fldV0 (F.ev rfl)) fun a F=>?_
 refine lxv (num A) F (o_ldV0 (F.ev rfl) (HM.get 1 rfl)) fun a F=>?_
 refine lxv (.pointer (some ⟨gg,4,none⟩)) F (o_fieldG1 (F.ev rfl)) fun a F=>?_
 refine lxv (num Q) F (o_loadG1 (F.ev rfl) (HM.get 2 rfl)) fun a F=>?_
 refine lx_call F (wanted_none rfl _) rfl (by rfl) (run_callF Tryd.func12 (by kernel_rfl) (by rfl) (.cons (F.ev rfl) (.cons (F.ev rfl) .nil)) _) ((fun w=>cmp_any A Q hA hQ w) _) fun a w z F=>?_
 replace HM:=HM.on z
 clear z
 refine lxv (.bool b0) F (o_geqI hb0 (F.ev rfl) rfl) fun a F=>?_
 refine lxv (.bool b0) F (o_move (F.ev rfl)) fun a F=>?_
 refine lx_valG (v:=.pointer (some ⟨gz,4,none⟩)) F rfl rfl (t:=26) (c:=b0) (e:=(!b0)) rfl rfl (by simp) rfl (by rfl) (fun he=>o_fldV1 (F.ev rfl)) fun a F=>?_
 refine lx_valG (v:=num B) F rfl rfl (t:=26) (c:=b0) (e:=(!b0)) rfl rfl (by simp) rfl (by rfl) (fun he=>o_ldV4 (F.evg rfl he) (HM.get 1 rfl)) fun a F=>?_
 refine lx_valG (v:=.pointer (some ⟨gg,4,none⟩)) F rfl rfl (t:=26) (c:=b0) (e:=(!b0)) rfl rfl (by simp) rfl (by rfl) (fun he=>o_fieldG1 (F.ev rfl)) fun a F=>?_
 refine lx_valG (v:=num Q) F rfl rfl (t:=26) (c:=b0) (e:=(!b0)) rfl rfl (by simp) rfl (by rfl) (fun he=>o_loadG1 (F.evg rfl he) (HM.get 2 rfl)) fun a F=>?_
 refine lx_callG (v:=.int .i64 (cmpN B Q)) F rfl rfl (t:=26) (c:=b0) (e:=(!b0)) rfl rfl (by simp) rfl (by rfl) (fun he=>run_callF Tryd.func12 (by kernel_rfl) (by rfl) (.cons (F.evg rfl he) (.cons (F.evg rfl he) .nil)) _) (fun he=>(fun w=>cmp_any B Q hB hQ w) _) fun a w z F=>?_
 replace HM:=HM.on z
 clear z
 refine lx_valG (v:=.bool b1) F rfl rfl (t:=26) (c:=b0) (e:=(!b0)) rfl rfl (by simp) rfl (by rfl) (fun he=>o_geqI hb1 (F.evg rfl he) rfl) fun a F=>?_
 refine lxv (.bool ((b0 || b1))) F (o_pickO (F.ev rfl) rfl (F.ev rfl)) fun a F=>?_
 refine lxv (.bool ((b0 || b1))) F (o_move (F.ev rfl)) fun a F=>?_
 refine lx_valG (v:=.pointer (some ⟨gz,0,none⟩)) F rfl rfl (t:=34) (c:=(b0 || b1)) (e:=(!((b0 || b1)))) rfl rfl (by simp) rfl (by rfl) (fun he=>o_fldV0 (F.ev rfl)) fun a F=>?_
 refine lx_valG (v:=num A) F rfl rfl (t:=34) (c:=(b0 || b1)) (e:=(!((b0 || b1)))) rfl rfl (by simp) rfl (by rfl) (fun he=>o_ldV0 (F.evg rfl he) (HM.get 1 rfl)) fun a F=>?_
 refine lx_valG (v:=num 0) F rfl rfl (t:=34) (c:=(b0 || b1)) (e:=(!((b0 || b1)))) rfl rfl (by simp) rfl (by rfl) (fun he=>o_build0) fun a F=>?_
 refine lx_valG (v:=.bool b2) F rfl rfl (t:=34) (c:=(b0 || b1)) (e:=(!((b0 || b1)))) rfl rfl (by simp) rfl (by rfl) (fun he=>o_eqlN hA n0_256 hb2 (F.evg rfl he) (F.evg rfl he)) fun a F=>?_
 refine lxv (.bool (((b0 || b1) || b2))) F (o_pickO (F.ev rfl) rfl (F.ev rfl)) fun a F=>?_
 refine lxv (.bool (((b0 || b1) || b2))) F (o_move (F.ev rfl)) fun a F=>?_
 refine lx_valG (v:=.pointer (some ⟨gz,4,none⟩)) F rfl rfl (t:=40) (c:=((b0 || b1) || b2)) (e:=(!(((b0 || b1) || b2)))) rfl rfl (by simp) rfl (by rfl) (fun he=>o_fldV1 (F.ev rfl)) fun a F=>?_
 refine lx_valG (v:=num B) F rfl rfl (t:=40) (c:=((b0 || b1) || b2)) (e:=(!(((b0 || b1) || b2)))) rfl rfl (by simp) rfl (by rfl) (fun he=>o_ldV4 (F.evg rfl he) (HM.get 1 rfl)) fun a F=>?_
 refine lx_valG (v:=num 0) F rfl rfl (t:=40) (c:=((b0 || b1) || b2)) (e:=(!(((b0 || b1) || b2)))) rfl rfl (by simp) rfl (by rfl) (fun he=>o_build0) fun a F=>?_
 refine lx_valG (v:=.bool b3) F rfl rfl (t:=40) (c:=((b0 || b1) || b2)) (e:=(!(((b0 || b1) || b2)))) rfl rfl (by simp) rfl (by rfl) (fun he=>o_eqlN hB n0_256 hb3 (F.evg rfl he) (F.evg rfl he)) fun a F=>?_
 refine lxv (.bool ((((b0 || b1) || b2) || b3))) F (o_pickO (F.ev rfl) rfl (F.ev rfl)) fun a F=>?_
 refine lxv (.bool ((((b0 || b1) || b2) || b3))) F (o_assign (F.ev rfl)) fun a F=>?_
 refine lx_nil ?_
 rw [ho] at F
 repeat first|refine et1 ?_|refine eb1 ?_|refine ws1 ?_|refine wb1 ?_|refine wk1 ?_
 refine wp_region_lit ?_
 refine lxv (.bool true) F (o_move (F.ev rfl)) fun a F=>?_
 refine lxv (.bool true) F (o_move (F.ev rfl)) fun a F=>?_
 refine lxw 47 true (.int .i64 1) F (o_move (F.ev rfl)) fun a F=>?_
 refine lxw 47 true (.bool false) F (o_bin (u:=.int .i64 1) (v:=.int .i64 1) (fun ρ hx hy=>by simp only [execOp,hx,hy];simp [go_sem]) (F.ev rfl) rfl) fun a F=>?_
 refine lxv (.bool false) F (o_pick (b:=true) (r:=.bool false) (F.ev rfl) (F.ev rfl) rfl rfl) fun a F=>?_
 refine lxv (.bool false) F (o_move (F.ev rfl)) fun a F=>?_
 refine lxw 51 false (.int .i64 1) F (o_move (F.ev rfl)) fun a F=>?_
 refine lxw 51 false (.bool true) F (o_bin (u:=.int .i64 1) (v:=.int .i64 0) (fun ρ hx hy=>by simp only [execOp,hx,hy];simp [go_sem]) (F.ev rfl) rfl) fun a F=>?_
 refine lxw 51 false (.bool true) F (o_move (F.ev rfl)) fun a F=>?_
 refine lxw 54 true (.int .i64 1) F (o_move (F.ev rfl)) fun a F=>?_
 refine lxw 54 true (.bool false) F (o_bin (u:=.int .i64 1) (v:=.int .i64 1) (fun ρ hx hy=>by simp only [execOp,hx,hy];simp [go_sem]) (F.ev rfl) rfl) fun a F=>?_
 refine lxw 51 false (.bool false) F (o_pick (b:=true) (r:=.bool false) (F.ev rfl) (F.ev rfl) rfl rfl) fun a F=>?_
 refine lxv (.bool false) F (o_pick (b:=false) (r:=.bool false) (F.ev rfl) rfl (F.ev rfl) rfl) fun a F=>?_
 refine lx_nil ?_
 repeat first|refine et1 ?_|refine eb1 ?_|refine ws1 ?_|refine wb1 ?_|refine wk1 ?_
 refine wp_cond_false (F.ev rfl) ?_
 repeat first|refine et1 ?_|refine eb1 ?_|refine ws1 ?_|refine wb1 ?_|refine wk1 ?_
 refine wp_region_lit ?_
 refine lxv (grp P Q G H) F (o_loadG (F.ev rfl) (HM.get 2 rfl)) fun a F=>?_
 refine lxv (.pointer (some ⟨gz,8,none⟩)) F (o_fldV2 (F.ev rfl)) fun a F=>?_
 refine lxv (num K) F (o_ldV8 (F.ev rfl) (HM.get 1 rfl)) fun a F=>?_
 refine lxv (.pointer (some ⟨gz,12,none⟩)) F (o_fldV3 (F.ev rfl)) fun a F=>?_
 refine lxv (hsv h) F (o_ldV12 (F.ev rfl) (HM.get 1 rfl)) fun a F=>?_
 refine lxv (.pointer (some ⟨gz,44,none⟩)) F (o_fldV4 (F.ev rfl)) fun a F=>?_
 refine lxv (sgv C S) F (o_ldV44 (F.ev rfl) (HM.get 1 rfl)) fun a F=>?_
 refine lx_call F (wanted_none rfl _) rfl (by rfl) (run_callF Tryd.func11 (by kernel_rfl) (by rfl) (.cons (F.ev rfl) (.cons (F.ev rfl) (.cons (F.ev rfl) (.cons (F.ev rfl) .nil)))) _) (chk_is P Q G H K C S h hP hQ hG hK hC hS _ hc hh (T.on HM.bel)) fun a w z F=>?_
 replace HM:=HM.on z
 clear z
 refine lxv (.bool false) F (o_assign (F.ev rfl)) fun a F=>?_
 refine lx_nil ?_
 repeat first|refine et1 ?_|refine eb1 ?_|refine ws1 ?_|refine wb1 ?_|refine wk1 ?_
 refine wp_region_lit ?_
 refine lx_call F (wanted_none rfl _) rfl (by rfl) (run_callF Tryd.func8 (by kernel_rfl) (by rfl) .nil _) (alive13_any _ (T.on HM.bel)) fun a w z F=>?_
 replace HM:=HM.on z
 clear z
 refine lxv (.bool true) F (o_move (F.ev rfl)) fun a F=>?_
 refine lxw 68 true (.bool false) F (o_move (F.ev rfl)) fun a F=>?_
 refine lxw 68 true (.bool true) F (o_not (b:=false) (r:=true) (F.ev rfl) rfl) fun a F=>?_
 refine lxw 68 true (.bool true) F (o_move (F.ev rfl)) fun a F=>?_
 refine lxp 71 true F fun a F=>?_
 refine lxp 71 true F fun a F=>?_
 refine lxp 71 true F fun a F=>?_
 refine lxp 71 true F fun a F=>?_
 refine lxp 71 true F fun a F=>?_
 refine lxp 71 true F fun a F=>?_
 refine lxp 71 true F fun a F=>?_
 refine lxp 71 true F fun a F=>?_
 refine lx_pass F (F.unwanted (t:=79) rfl rfl rfl (by rfl)) rfl (by rfl) fun a F=>?_
 refine lx_pass F (F.unwanted (t:=79) rfl rfl rfl (by rfl)) rfl (by rfl) fun a F=>?_
 refine lx_pass F (F.unwanted (t:=79) rfl rfl rfl (by rfl)) rfl (by rfl) fun a F=>?_
 refine lx_pass F (F.unwanted (t:=79) rfl rfl rfl (by rfl)) rfl (by rfl) fun a F=>?_
 refine lx_pass F (F.unwanted (t:=79) rfl rfl rfl (by rfl)) rfl (by rfl) fun a F=>?_
 refine lx_pass F (F.unwanted (t:=79) rfl rfl rfl (by rfl)) rfl (by rfl) fun a F=>?_
 refine lx_pass F (F.unwanted (t:=79) rfl rfl rfl (by rfl)) rfl (by rfl) fun a F=>?_
 refine lxp 71 true F fun a F=>?_
 refine lxp 71 true F fun a F=>?_
 refine lx_pass F (F.unwanted (t:=88) rfl rfl rfl (by rfl)) rfl (by rfl) fun a F=>?_
 refine lx_pass F (F.unwanted (t:=88) rfl rfl rfl (by rfl)) rfl (by rfl) fun a F=>?_
 refine lx_pass F (F.unwanted (t:=88) rfl rfl rfl (by rfl)) rfl (by rfl) fun a F=>?_
 refine lx_pass F (F.unwanted (t:=88) rfl rfl rfl (by rfl)) rfl (by rfl) fun a F=>?_
 refine lxp 71 true F fun a F=>?_
 refine lxp 71 true F fun a F=>?_
 refine lx_pass F (F.unwanted (t:=94) rfl rfl rfl (by rfl)) rfl (by rfl) fun a F=>?_
 refine lx_pass F (F.unwanted (t:=94) rfl rfl rfl (by rfl)) rfl (by rfl) fun a F=>?_
 refine lx_pass F (F.unwanted (t:=94) rfl rfl rfl (by rfl)) rfl (by rfl) fun a F=>?_
 refine lx_pass F (F.unwanted (t:=94) rfl rfl rfl (by rfl)) rfl (by rfl) fun a F=>?_
 refine lxp 71 true F fun a F=>?_
 refine lxw 68 true (.bool true) F (o_pick (b:=true) (r:=.bool true) (F.ev rfl) rfl (F.ev rfl) rfl) fun a F=>?_
 refine lxv (.bool true) F (o_pick (b:=true) (r:=.bool true) (F.ev rfl) (F.ev rfl) rfl rfl) fun a F=>?_
 refine lxv (.bool true) F (o_assign (F.ev rfl)) fun a F=>?_
 refine lx_nil ?_
 repeat first|refine et1 ?_|refine eb1 ?_|refine ws1 ?_|refine wb1 ?_|refine wk1 ?_
 refine wp_ret ?_
 repeat (first | refine ex_thenR ?_ | refine ex_blockR ?_)
 exact sx_ret F HM (res_tmp F rfl (s:=4) rfl)

set_option maxRecDepth 100000 in
set_option maxHeartbeats 800000 in
theorem bnd_1tt (P Q G H A B K C S:Nat) (h:Nat→Nat) (hP:P<2^256) (hQ:Q<2^256) (hG:G<2^256) (hH:H<2^256) (hA:A<2^256) (hB:B<2^256) (hK:K<2^256) (hC:C<2^256) (hS:S<2^256) (hh:∀ i,h i<256) (w0:World) (T:By.Tabs w0) (b0 b1 b2 b3:Bool) (hb0:decide ((0:Int)≤cmpN A Q)=b0) (hb1:decide ((0:Int)≤cmpN B Q)=b1) (hb2:decide (A=0)=b2) (hb3:decide (B=0)=b3) (c x:Nat) (s1:∀ w,By.Tabs w→Calls Tryd.prog 10 #[grp P Q G H,num A,hsv h,num B] w fun e w'=>e=.returned (.tuple #[sgv c x,.int .i64 1])∧Below w.heap.size w w') (ho:(((b0 || b1) || b2) || b3)=true) (hc:chkB P Q G K h C S=true) (l1:decide (cmpN C Q<(0:Int))=true) (l2:decide (cmpN S Q<(0:Int))=true) (hin:inB P Q K=true) (hk1:decide (K=1)=false):Calls Tryd.prog 5 #[grp P Q G H,gvv A B K h C S] w0 fun e w'=>e=.returned (.bool true)∧Below w0.heap.size w0 w':=by
 refine sx_enter (args:=[grp P Q G H,gvv A B K h C S]) Tryd.func5 rfl Tryd.ntmps5 (by rfl) fun a F HM=>?_
 repeat first|refine et1 ?_|refine eb1 ?_|refine ws1 ?_|refine wb1 ?_|refine wk1 ?_
 refine wp_region_lit ?_
 refine lx_new F HM (wanted_none rfl _) rfl (by rfl) (o_boxG (F.ev rfl)) fun a w gg F HM=>?_
 refine lx_new F HM (wanted_none rfl _) rfl (by rfl) (o_boxV (F.ev rfl)) fun a w gz F HM=>?_
 refine lxv (.bool false) F (o_assign rfl) fun a F=>?_
 refine lx_nil ?_
 repeat first|refine et1 ?_|refine eb1 ?_|refine ws1 ?_|refine wb1 ?_|refine wk1 ?_
 refine wp_region_lit ?_
 refine lxv (grp P Q G H) F (o_loadG (F.ev rfl) (HM.get 1 rfl)) fun a F=>?_
 refine lxv (.pointer (some ⟨gz,0,none⟩)) F (o_fldV0 (F.ev rfl)) fun a F=>?_
 refine lxv (num A) F (o_ldV0 (F.ev rfl) (HM.get 0 rfl)) fun a F=>?_
 refine lxv (.pointer (some ⟨gz,12,none⟩)) F (o_fldV3 (F.ev rfl)) fun a F=>?_
 refine lxv (hsv h) F (o_ldV12 (F.ev rfl) (HM.get 0 rfl)) fun a F=>?_
 refine lxv (.pointer (some ⟨gz,4,none⟩)) F (o_fldV1 (F.ev rfl)) fun a F=>?_
 refine lxv (num B) F (o_ldV4 (F.ev rfl) (HM.get 0 rfl)) fun a F=>?_
 refine lx_call F (wanted_none rfl _) rfl (by rfl) (run_callF Tryd.func10 (by kernel_rfl) (by rfl) (.cons (F.ev rfl) (.cons (F.ev rfl) (.cons (F.ev rfl) (.cons (F.ev rfl) .nil)))) _) (s1 _ (T.on HM.bel)) fun a w z F=>?_
 replace HM:=HM.on z
 clear z
 refine lxv (.tuple #[sgv c x,.int .i64 1]) F (o_move (F.ev rfl)) fun a F=>?_
 refine lxv (sgv c x) F (o_extract (F.ev rfl) rfl) fun a F=>?_
 refine lxv (.int .i64 1) F (o_extract (F.ev rfl) rfl) fun a F=>?_
 refine lx_new F HM (wanted_none rfl _) rfl (by rfl) (o_allocS) fun a w gs F HM=>?_
 refine lx_store F HM (wanted_none rfl _) rfl (k:=0) rfl (o_stS (F.ev rfl) (F.ev rfl) (HM.get 0 rfl)) (M2:=[(gs,30,sgc c x),(gz,32,gvc A B K h C S),(gg,26,gcs P Q G H)]) (by rw [sets_sg];rfl) fun w HM=>?_
 refine lxv (.int .i64 1) F (o_assign (F.ev rfl)) fun a F=>?_
 refine lx_nil ?_
 repeat first|refine et1 ?_|refine eb1 ?_|refine ws1 ?_|refine wb1 ?_|refine wk1 ?_
 refine wp_region_lit ?_
 refine lxv (.pointer (some ⟨gz,0,none⟩)) F (o_fldV0 (F.ev rfl)) fun a F=>?_
 refine lxv (num A) F (o_ldV0 (F.ev rfl) (HM.get 1 rfl)) fun a F=>?_
 refine lxv (.pointer (some ⟨gg,4,none⟩)) F (o_fieldG1 (F.ev rfl)) fun a F=>?_
 refine lxv (num Q) F (o_loadG1 (F.ev rfl) (HM.get 2 rfl)) fun a F=>?_
 refine lx_call F (wanted_none rfl _) rfl (by rfl) (run_callF Tryd.func12 (by kernel_rfl) (by rfl) (.cons (F.ev rfl) (.cons (F.ev rfl) .nil)) _) ((fun w=>cmp_any A Q hA hQ w) _) fun a w z F=>?_
 replace HM:=HM.on z
 clear z
 refine lxv (.bool b0) F (o_geqI hb0 (F.ev rfl) rfl) fun a F=>?_
 refine lxv (.bool b0) F (o_move (F.ev rfl)) fun a F=>?_
 refine lx_valG (v:=.pointer (some ⟨gz,4,none⟩)) F rfl rfl (t:=26) (c:=b0) (e:=(!b0)) rfl rfl (by simp) rfl (by rfl) (fun he=>o_fldV1 (F.ev rfl)) fun a F=>?_
 refine lx_valG (v:=num B) F rfl rfl (t:=26) (c:=b0) (e:=(!b0)) rfl rfl (by simp) rfl (by rfl) (fun he=>o_ldV4 (F.evg rfl he) (HM.get 1 rfl)) fun a F=>?_
 refine lx_valG (v:=.pointer (some ⟨gg,4,none⟩)) F rfl rfl (t:=26) (c:=b0) (e:=(!b0)) rfl rfl (by simp) rfl (by rfl) (fun he=>o_fieldG1 (F.ev rfl)) fun a F=>?_
 refine lx_valG (v:=num Q) F rfl rfl (t:=26) (c:=b0) (e:=(!b0)) rfl rfl (by simp) rfl (by rfl) (fun he=>o_loadG1 (F.evg rfl he) (HM.get 2 rfl)) fun a F=>?_
 refine lx_callG (v:=.int .i64 (cmpN B Q)) F rfl rfl (t:=26) (c:=b0) (e:=(!b0)) rfl rfl (by simp) rfl (by rfl) (fun he=>run_callF Tryd.func12 (by kernel_rfl) (by rfl) (.cons (F.evg rfl he) (.cons (F.evg rfl he) .nil)) _) (fun he=>(fun w=>cmp_any B Q hB hQ w) _) fun a w z F=>?_
 replace HM:=HM.on z
 clear z
 refine lx_valG (v:=.bool b1) F rfl rfl (t:=26) (c:=b0) (e:=(!b0)) rfl rfl (by simp) rfl (by rfl) (fun he=>o_geqI hb1 (F.evg rfl he) rfl) fun a F=>?_
 refine lxv (.bool ((b0 || b1))) F (o_pickO (F.ev rfl) rfl (F.ev rfl)) fun a F=>?_
 refine lxv (.bool ((b0 || b1))) F (o_move (F.ev rfl)) fun a F=>?_
 refine lx_valG (v:=.pointer (some ⟨gz,0,none⟩)) F rfl rfl (t:=34) (c:=(b0 || b1)) (e:=(!((b0 || b1)))) rfl rfl (by simp) rfl (by rfl) (fun he=>o_fldV0 (F.ev rfl)) fun a F=>?_
 refine lx_valG (v:=num A) F rfl rfl (t:=34) (c:=(b0 || b1)) (e:=(!((b0 || b1)))) rfl rfl (by simp) rfl (by rfl) (fun he=>o_ldV0 (F.evg rfl he) (HM.get 1 rfl)) fun a F=>?_
 refine lx_valG (v:=num 0) F rfl rfl (t:=34) (c:=(b0 || b1)) (e:=(!((b0 || b1)))) rfl rfl (by simp) rfl (by rfl) (fun he=>o_build0) fun a F=>?_
 refine lx_valG (v:=.bool b2) F rfl rfl (t:=34) (c:=(b0 || b1)) (e:=(!((b0 || b1)))) rfl rfl (by simp) rfl (by rfl) (fun he=>o_eqlN hA n0_256 hb2 (F.evg rfl he) (F.evg rfl he)) fun a F=>?_
 refine lxv (.bool (((b0 || b1) || b2))) F (o_pickO (F.ev rfl) rfl (F.ev rfl)) fun a F=>?_
 refine lxv (.bool (((b0 || b1) || b2))) F (o_move (F.ev rfl)) fun a F=>?_
 refine lx_valG (v:=.pointer (some ⟨gz,4,none⟩)) F rfl rfl (t:=40) (c:=((b0 || b1) || b2)) (e:=(!(((b0 || b1) || b2)))) rfl rfl (by simp) rfl (by rfl) (fun he=>o_fldV1 (F.ev rfl)) fun a F=>?_
 refine lx_valG (v:=num B) F rfl rfl (t:=40) (c:=((b0 || b1) || b2)) (e:=(!(((b0 || b1) || b2)))) rfl rfl (by simp) rfl (by rfl) (fun he=>o_ldV4 (F.evg rfl he) (HM.get 1 rfl)) fun a F=>?_
 refine lx_valG (v:=num 0) F rfl rfl (t:=40) (c:=((b0 || b1) || b2)) (e:=(!(((b0 || b1) || b2)))) rfl rfl (by simp) rfl (by rfl) (fun he=>o_build0) fun a F=>?_
 refine lx_valG (v:=.bool b3) F rfl rfl (t:=40) (c:=((b0 || b1) || b2)) (e:=(!(((b0 || b1) || b2)))) rfl rfl (by simp) rfl (by rfl) (fun he=>o_eqlN hB n0_256 hb3 (F.evg rfl he) (F.evg rfl he)) fun a F=>?_
 refine lxv (.bool ((((b0 || b1) || b2) || b3))) F (o_pickO (F.ev rfl) rfl (F.ev rfl)) fun a F=>?_
 refine lxv (.bool ((((b0 || b1) || b2) || b3))) F (o_assign (F.ev rfl)) fun a F=>?_
 refine lx_nil ?_
 rw [ho] at F
 repeat first|refine et1 ?_|refine eb1 ?_|refine ws1 ?_|refine wb1 ?_|refine wk1 ?_
 refine wp_region_lit ?_
 refine lxv (.bool true) F (o_move (F.ev rfl)) fun a F=>?_
 refine lxv (.bool true) F (o_move (F.ev rfl)) fun a F=>?_
 refine lxw 47 true (.int .i64 1) F (o_move (F.ev rfl)) fun a F=>?_
 refine lxw 47 true (.bool false) F (o_bin (u:=.int .i64 1) (v:=.int .i64 1) (fun ρ hx hy=>by simp only [execOp,hx,hy];simp [go_sem]) (F.ev rfl) rfl) fun a F=>?_
 refine lxv (.bool false) F (o_pick (b:=true) (r:=.bool false) (F.ev rfl) (F.ev rfl) rfl rfl) fun a F=>?_
 refine lxv (.bool false) F (o_move (F.ev rfl)) fun a F=>?_
 refine lxw 51 false (.int .i64 1) F (o_move (F.ev rfl)) fun a F=>?_
 refine lxw 51 false (.bool true) F (o_bin (u:=.int .i64 1) (v:=.int .i64 0) (fun ρ hx hy=>by simp only [execOp,hx,hy];simp [go_sem]) (F.ev rfl) rfl) fun a F=>?_
 refine lxw 51 false (.bool true) F (o_move (F.ev rfl)) fun a F=>?_
 refine lxw 54 true (.int .i64 1) F (o_move (F.ev rfl)) fun a F=>?_
 refine lxw 54 true (.bool false) F (o_bin (u:=.int .i64 1) (v:=.int .i64 1) (fun ρ hx hy=>by simp only [execOp,hx,hy];simp [go_sem]) (F.ev rfl) rfl) fun a F=>?_
 refine lxw 51 false (.bool false) F (o_pick (b:=true) (r:=.bool false) (F.ev rfl) (F.ev rfl) rfl rfl) fun a F=>?_
 refine lxv (.bool false) F (o_pick (b:=false) (r:=.bool false) (F.ev rfl) rfl (F.ev rfl) rfl) fun a F=>?_
 refine lx_nil ?_
 repeat first|refine et1 ?_|refine eb1 ?_|refine ws1 ?_|refine wb1 ?_|refine wk1 ?_
 refine wp_cond_false (F.ev rfl) ?_
 repeat first|refine et1 ?_|refine eb1 ?_|refine ws1 ?_|refine wb1 ?_|refine wk1 ?_
 refine wp_region_lit ?_
 refine lxv (grp P Q G H) F (o_loadG (F.ev rfl) (HM.get 2 rfl)) fun a F=>?_
 refine lxv (.pointer (some ⟨gz,8,none⟩)) F (o_fldV2 (F.ev rfl)) fun a F=>?_
 refine lxv (num K) F (o_ldV8 (F.ev rfl) (HM.get 1 rfl)) fun a F=>?_
 refine lxv (.pointer (some ⟨gz,12,none⟩)) F (o_fldV3 (F.ev rfl)) fun a F=>?_
 refine lxv (hsv h) F (o_ldV12 (F.ev rfl) (HM.get 1 rfl)) fun a F=>?_
 refine lxv (.pointer (some ⟨gz,44,none⟩)) F (o_fldV4 (F.ev rfl)) fun a F=>?_
 refine lxv (sgv C S) F (o_ldV44 (F.ev rfl) (HM.get 1 rfl)) fun a F=>?_
 refine lx_call F (wanted_none rfl _) rfl (by rfl) (run_callF Tryd.func11 (by kernel_rfl) (by rfl) (.cons (F.ev rfl) (.cons (F.ev rfl) (.cons (F.ev rfl) (.cons (F.ev rfl) .nil)))) _) (chk_is P Q G H K C S h hP hQ hG hK hC hS _ hc hh (T.on HM.bel)) fun a w z F=>?_
 replace HM:=HM.on z
 clear z
 refine lxv (.bool true) F (o_assign (F.ev rfl)) fun a F=>?_
 refine lx_nil ?_
 repeat first|refine et1 ?_|refine eb1 ?_|refine ws1 ?_|refine wb1 ?_|refine wk1 ?_
 refine wp_region_lit ?_
 refine lx_call F (wanted_none rfl _) rfl (by rfl) (run_callF Tryd.func8 (by kernel_rfl) (by rfl) .nil _) (alive13_any _ (T.on HM.bel)) fun a w z F=>?_
 replace HM:=HM.on z
 clear z
 refine lxv (.bool true) F (o_move (F.ev rfl)) fun a F=>?_
 refine lxw 68 true (.bool true) F (o_move (F.ev rfl)) fun a F=>?_
 refine lxw 68 true (.bool false) F (o_not (b:=true) (r:=false) (F.ev rfl) rfl) fun a F=>?_
 refine lxw 68 true (.bool false) F (o_move (F.ev rfl)) fun a F=>?_
 refine lxw 71 false (.pointer (some ⟨gz,44,none⟩)) F (o_fldV4 (F.ev rfl)) fun a F=>?_
 refine lxw 71 false (.pointer (some ⟨gz,44,none⟩)) F (o_fldS0 (F.ev rfl)) fun a F=>?_
 refine lxw 71 false (num C) F (o_ldV44n (F.ev rfl) (HM.get 1 rfl)) fun a F=>?_
 refine lxw 71 false (.pointer (some ⟨gg,4,none⟩)) F (o_fieldG1 (F.ev rfl)) fun a F=>?_
 refine lxw 71 false (num Q) F (o_loadG1 (F.ev rfl) (HM.get 2 rfl)) fun a F=>?_
 refine lx_call F (F.want (t:=71) (c:=false) rfl rfl rfl (by rfl) rfl) rfl (by rfl) (run_callF Tryd.func12 (by kernel_rfl) (by rfl) (.cons (F.ev rfl) (.cons (F.ev rfl) .nil)) _) ((fun w=>cmp_any C Q hC hQ w) _) fun a w z F=>?_
 replace HM:=HM.on z
 clear z
 refine lxw 71 false (.bool true) F (o_lssI l1 (F.ev rfl) rfl) fun a F=>?_
 refine lxw 71 false (.bool true) F (o_move (F.ev rfl)) fun a F=>?_
 refine lxw 79 true (.pointer (some ⟨gz,44,none⟩)) F (o_fldV4 (F.ev rfl)) fun a F=>?_
 refine lxw 79 true (.pointer (some ⟨gz,48,none⟩)) F (o_fldS1 (F.ev rfl)) fun a F=>?_
 refine lxw 79 true (num S) F (o_ldV48 (F.ev rfl) (HM.get 1 rfl)) fun a F=>?_
 refine lxw 79 true (.pointer (some ⟨gg,4,none⟩)) F (o_fieldG1 (F.ev rfl)) fun a F=>?_
 refine lxw 79 true (num Q) F (o_loadG1 (F.ev rfl) (HM.get 2 rfl)) fun a F=>?_
 refine lx_call F (F.want (t:=79) (c:=true) rfl rfl rfl (by rfl) rfl) rfl (by rfl) (run_callF Tryd.func12 (by kernel_rfl) (by rfl) (.cons (F.ev rfl) (.cons (F.ev rfl) .nil)) _) ((fun w=>cmp_any S Q hS hQ w) _) fun a w z F=>?_
 replace HM:=HM.on z
 clear z
 refine lxw 79 true (.bool true) F (o_lssI l2 (F.ev rfl) rfl) fun a F=>?_
 refine lxw 71 false (.bool true) F (o_pick (b:=true) (r:=.bool true) (F.ev rfl) (F.ev rfl) rfl rfl) fun a F=>?_
 refine lxw 71 false (.bool true) F (o_move (F.ev rfl)) fun a F=>?_
 refine lxw 88 true (grp P Q G H) F (o_loadG (F.ev rfl) (HM.get 2 rfl)) fun a F=>?_
 refine lxw 88 true (.pointer (some ⟨gz,8,none⟩)) F (o_fldV2 (F.ev rfl)) fun a F=>?_
 refine lxw 88 true (num K) F (o_ldV8 (F.ev rfl) (HM.get 1 rfl)) fun a F=>?_
 refine lx_call F (F.want (t:=88) (c:=true) rfl rfl rfl (by rfl) rfl) rfl (by rfl) (run_callF Tryd.func16 (by kernel_rfl) (by rfl) (.cons (F.ev rfl) (.cons (F.ev rfl) .nil)) _) ((fun w=>gin_is P Q G H K hin hP hQ hK w) _) fun a w z F=>?_
 replace HM:=HM.on z
 clear z
 refine lxw 71 false (.bool true) F (o_pick (b:=true) (r:=.bool true) (F.ev rfl) (F.ev rfl) rfl rfl) fun a F=>?_
 refine lxw 71 false (.bool true) F (o_move (F.ev rfl)) fun a F=>?_
 refine lxw 94 true (.pointer (some ⟨gz,8,none⟩)) F (o_fldV2 (F.ev rfl)) fun a F=>?_
 refine lxw 94 true (num K) F (o_ldV8 (F.ev rfl) (HM.get 1 rfl)) fun a F=>?_
 refine lxw 94 true (num 1) F (o_buildW 1 (by decide) rfl) fun a F=>?_
 refine lxw 94 true (.bool true) F (o_neqN hK n1_256 hk1 (F.ev rfl) (F.ev rfl)) fun a F=>?_
 refine lxw 71 false (.bool true) F (o_pick (b:=true) (r:=.bool true) (F.ev rfl) (F.ev rfl) rfl rfl) fun a F=>?_
 refine lxw 68 true (.bool true) F (o_pick (b:=false) (r:=.bool true) (F.ev rfl) rfl (F.ev rfl) rfl) fun a F=>?_
 refine lxv (.bool true) F (o_pick (b:=true) (r:=.bool true) (F.ev rfl) (F.ev rfl) rfl rfl) fun a F=>?_
 refine lxv (.bool true) F (o_assign (F.ev rfl)) fun a F=>?_
 refine lx_nil ?_
 repeat first|refine et1 ?_|refine eb1 ?_|refine ws1 ?_|refine wb1 ?_|refine wk1 ?_
 refine wp_ret ?_
 repeat (first | refine ex_thenR ?_ | refine ex_blockR ?_)
 exact sx_ret F HM (res_tmp F rfl (s:=4) rfl)

theorem sbounds_any (P Q G H A B K C S:Nat) (h:Nat→Nat) (hP:P<2^256) (hQ:Q<2^256) (hG:G<2^256) (hH:H<2^256) (hA:A<2^256) (hB:B<2^256) (hK:K<2^256) (hC:C<2^256) (hS:S<2^256) (hh:∀ i,h i<256) (w0:World) (T:By.Tabs w0):Calls Tryd.prog 5 #[grp P Q G H,gvv A B K h C S] w0 fun e w'=>e=.returned (.bool true)∧Below w0.heap.size w0 w':=by
 obtain ⟨c,x,er,s1,he⟩:∃ (c x:Nat) (er:Bool),(∀ w,By.Tabs w→Calls Tryd.prog 10 #[grp P Q G H,num A,hsv h,num B] w fun e w'=>e=.returned (.tuple #[sgv c x,.int .i64 (if er then 1 else 0)])∧Below w.heap.size w w')∧(er=false→(((decide ((0:Int)≤cmpN A Q) || decide ((0:Int)≤cmpN B Q)) || decide (A=0)) || decide (B=0))=false):=by
  rcases hs:signB P Q G A B with _ | _
  ·exact ⟨0,0,true,fun w _=>sign_no P Q G H A B h hP hQ hG hA hB w hs,fun e=>by cases e⟩
  ·refine ⟨_,_,false,fun w T=>sign_yes P Q G H A B h hP hQ hG hA hB w hs hh T,fun _=>?_⟩
   unfold signB at hs
   simp only [Bool.and_eq_true,Bool.not_eq_true',decide_eq_false_iff_not] at hs
   have e1:=(expB_all hs.2.2.1 A (by simp)).2
   have e2:=(expB_all hs.2.2.1 B (by simp)).2
   rw [cmp_ge,cmp_ge]
   simp [e1,e2,hs.1,hs.2.1]
 rcases hc:chkB P Q G K h C S with _ | _
 ·rcases ho:(((decide ((0:Int)≤cmpN A Q) || decide ((0:Int)≤cmpN B Q)) || decide (A=0)) || decide (B=0)) with _ | _
  ·cases er
   ·exact bnd_0ff P Q G H A B K C S h hP hQ hG hH hA hB hK hC hS hh w0 T _ _ _ _ rfl rfl rfl rfl c x s1 ho hc
   ·exact bnd_1ff P Q G H A B K C S h hP hQ hG hH hA hB hK hC hS hh w0 T _ _ _ _ rfl rfl rfl rfl c x s1 ho hc
  ·cases er
   ·rw [he rfl] at ho;cases ho
   ·exact bnd_1tf P Q G H A B K C S h hP hQ hG hH hA hB hK hC hS hh w0 T _ _ _ _ rfl rfl rfl rfl c x s1 ho hc
 ·have hc':=hc
  unfold chkB keyB at hc'
  simp only [Bool.and_eq_true,Bool.not_eq_true',decide_eq_false_iff_not] at hc'
  have l1:decide (cmpN C Q<(0:Int))=true:=cmp_lt.trans (decide_eq_true (expB_all hc'.1 C (by simp)).2)
  have l2:decide (cmpN S Q<(0:Int))=true:=cmp_lt.trans (decide_eq_true (expB_all hc'.1 S (by simp)).2)
  have hin:=hc'.2.1.2
  have hk1:decide (K=1)=false:=decide_eq_false hc'.2.1.1
  rcases ho:(((decide ((0:Int)≤cmpN A Q) || decide ((0:Int)≤cmpN B Q)) || decide (A=0)) || decide (B=0)) with _ | _
  ·cases er
   ·exact bnd_0ft P Q G H A B K C S h hP hQ hG hH hA hB hK hC hS hh w0 T _ _ _ _ rfl rfl rfl rfl c x s1 ho hc l1 l2 hin hk1
   ·exact bnd_1ft P Q G H A B K C S h hP hQ hG hH hA hB hK hC hS hh w0 T _ _ _ _ rfl rfl rfl rfl c x s1 ho hc l1 l2 hin hk1
  ·cases er
   ·rw [he rfl] at ho;cases ho
   ·exact bnd_1tt P Q G H A B K C S h hP hQ hG hH hA hB hK hC hS hh w0 T _ _ _ _ rfl rfl rfl rfl c x s1 ho hc l1 l2 hin hk1
end Go.Proofs.YtlphnfajhpkleaaDoor
