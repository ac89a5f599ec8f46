/-
 balefirelaw13.alive.
-/
import Derived.Deep.Cut
import Derived.Test.YtlphnfajhpkleaaDoorMSg5
import Derived.Test.YtlphnfajhpkleaaDoorMSmall
namespace Go.Proofs.YtlphnfajhpkleaaDoor
set_option maxRecDepth 100000
open Go.RowKit
set_option linter.unusedSimpArgs false
set_option linter.unusedVariables false
attribute [local go_sem ↓] Go.wp_at_zero Go.wp_at_succ

theorem chk_key {P Q G K C S:Nat} {h:Nat→Nat} (e:keyB P Q K=false):chkB P Q G K h C S=false:=by
 unfold chkB;rw [e];simp
set_option maxRecDepth 100000 in
set_option maxHeartbeats 800000 in
theorem alive13_w (w0:World) (T:By.Tabs w0) (c x:Nat) (hc:c<2^256) (hx:x<2^256) (hh:∀ i,(fun i=>if i=0 then 7 else 0) i<256) (hs:∀ w,By.Tabs w→Calls Tryd.prog 10 #[grp 23 11 4 9,num 5,hsv (fun i=>if i=0 then 7 else 0),num 3] w fun e w'=>e=.returned (.tuple #[sgv c x,.int .i64 0])∧Below w.heap.size w w') (hb:chkB 23 11 4 (4^5%23) (fun i=>if i=0 then 7 else 0) c x=true):Calls Tryd.prog 8 #[] w0 fun e w'=>e=.returned (.bool true)∧Below w0.heap.size w0 w':=by
 refine sx_enter (args:=[]) Tryd.func8 rfl Tryd.ntmps8 (by rfl) fun a F HM=>?_
 repeat first|refine et1 ?_|refine eb1 ?_|refine ws1 ?_|refine wb1 ?_|refine wk1 ?_
 refine wp_region_lit ?_
 refine lxv (.bool false) F (o_assign rfl) fun a F=>?_
 refine lx_nil ?_
 repeat first|refine et1 ?_|refine eb1 ?_|refine ws1 ?_|refine wb1 ?_|refine wk1 ?_
 refine wp_region_lit ?_
 refine lx_call F (wanted_none rfl _) rfl (by rfl) (run_callF Tryd.func19 (by kernel_rfl) (by rfl) .nil _) (known8_any _) fun a w z F=>?_
 replace HM:=HM.on z
 clear z
 refine lx_new F HM (wanted_none rfl _) rfl (by rfl) (o_allocG) fun a w gg F HM=>?_
 refine lx_store F HM (wanted_none rfl _) rfl (k:=0) rfl (o_storeG (F.ev rfl) (F.ev rfl) (HM.get 0 rfl)) (M2:=[(gg,26,gcs 23 11 4 9)]) (rfl) fun w HM=>?_
 refine lx_nil ?_
 repeat first|refine et1 ?_|refine eb1 ?_|refine ws1 ?_|refine wb1 ?_|refine wk1 ?_
 refine wp_region_lit ?_
 refine lxv (hsv ((fun i=>if i=0 then 7 else 0))) F (o_buildH7 rfl) fun a F=>?_
 refine lx_new F HM (wanted_none rfl _) rfl (by rfl) (o_allocH) fun a w gh F HM=>?_
 refine lx_store F HM (wanted_none rfl _) rfl (k:=0) rfl (o_stH (F.ev rfl) (F.ev rfl) (HM.get 0 rfl)) (M2:=[(gh,28,hcs ((fun i=>if i=0 then 7 else 0))),(gg,26,gcs 23 11 4 9)]) (by rw [sets_h];rfl) fun w HM=>?_
 refine lx_nil ?_
 repeat first|refine et1 ?_|refine eb1 ?_|refine ws1 ?_|refine wb1 ?_|refine wk1 ?_
 refine wp_region_lit ?_
 refine lxv (grp 23 11 4 9) F (o_loadG (F.ev rfl) (HM.get 1 rfl)) fun a F=>?_
 refine lxv (num 5) F (o_buildW 5 (by decide) rfl) fun a F=>?_
 refine lxv (hsv ((fun i=>if i=0 then 7 else 0))) F (o_ldH (F.ev rfl) (HM.get 0 rfl)) fun a F=>?_
 refine lxv (num 3) F (o_buildW 3 (by decide) rfl) fun a F=>?_
 refine lx_call F (wanted_none rfl _) rfl (by rfl) (run_callF Tryd.func10 (by kernel_rfl) (by rfl) (.cons (F.ev rfl) (.cons (F.ev rfl) (.cons (F.ev rfl) (.cons (F.ev rfl) .nil)))) _) (hs _ (T.on HM.bel)) fun a w z F=>?_
 replace HM:=HM.on z
 clear z
 refine lxv (.tuple #[sgv c x,.int .i64 0]) F (o_move (F.ev rfl)) fun a F=>?_
 refine lxv (sgv c x) F (o_extract (F.ev rfl) rfl) fun a F=>?_
 refine lxv (.int .i64 0) F (o_extract (F.ev rfl) rfl) fun a F=>?_
 refine lx_new F HM (wanted_none rfl _) rfl (by rfl) (o_allocS) fun a w gs F HM=>?_
 refine lx_store F HM (wanted_none rfl _) rfl (k:=0) rfl (o_stS (F.ev rfl) (F.ev rfl) (HM.get 0 rfl)) (M2:=[(gs,30,sgc c x),(gh,28,hcs ((fun i=>if i=0 then 7 else 0))),(gg,26,gcs 23 11 4 9)]) (by rw [sets_sg];rfl) fun w HM=>?_
 refine lxv (.int .i64 0) F (o_assign (F.ev rfl)) fun a F=>?_
 refine lx_nil ?_
 repeat first|refine et1 ?_|refine eb1 ?_|refine ws1 ?_|refine wb1 ?_|refine wk1 ?_
 refine wp_region_lit ?_
 refine lxv (grp 23 11 4 9) F (o_loadG (F.ev rfl) (HM.get 2 rfl)) fun a F=>?_
 refine lxv (num 0) F (o_build0) fun a F=>?_
 refine lxv (hsv ((fun i=>if i=0 then 7 else 0))) F (o_ldH (F.ev rfl) (HM.get 1 rfl)) fun a F=>?_
 refine lxv (num 3) F (o_buildW 3 (by decide) rfl) fun a F=>?_
 refine lx_call F (wanted_none rfl _) rfl (by rfl) (run_callF Tryd.func10 (by kernel_rfl) (by rfl) (.cons (F.ev rfl) (.cons (F.ev rfl) (.cons (F.ev rfl) (.cons (F.ev rfl) .nil)))) _) (sign_no 23 11 4 9 0 3 _ (by decide) (by decide) (by decide) (by decide) (by decide) _ (by decide)) fun a w z F=>?_
 replace HM:=HM.on z
 clear z
 refine lxv (.tuple #[sgv 0 0,.int .i64 1]) F (o_move (F.ev rfl)) fun a F=>?_
 refine lxv (sgv 0 0) F (o_extract (F.ev rfl) rfl) fun a F=>?_
 refine lxv (.int .i64 1) F (o_extract (F.ev rfl) rfl) fun a F=>?_
 refine lx_new F HM (wanted_none rfl _) rfl (by rfl) (o_allocS) fun a w gs2 F HM=>?_
 refine lx_store F HM (wanted_none rfl _) rfl (k:=0) rfl (o_stS (F.ev rfl) (F.ev rfl) (HM.get 0 rfl)) (M2:=[(gs2,30,sgc 0 0),(gs,30,sgc c x),(gh,28,hcs ((fun i=>if i=0 then 7 else 0))),(gg,26,gcs 23 11 4 9)]) (by rw [sets_sg];rfl) fun w HM=>?_
 refine lxv (.int .i64 1) F (o_assign (F.ev rfl)) fun a F=>?_
 refine lx_nil ?_
 repeat first|refine et1 ?_|refine eb1 ?_|refine ws1 ?_|refine wb1 ?_|refine wk1 ?_
 refine wp_region_lit ?_
 refine lxv (grp 23 11 4 9) F (o_loadG (F.ev rfl) (HM.get 3 rfl)) fun a F=>?_
 refine lxv (num 5) F (o_buildW 5 (by decide) rfl) fun a F=>?_
 refine lxv (hsv ((fun i=>if i=0 then 7 else 0))) F (o_ldH (F.ev rfl) (HM.get 2 rfl)) fun a F=>?_
 refine lxv (num 11) F (o_buildW 11 (by decide) rfl) fun a F=>?_
 refine lx_call F (wanted_none rfl _) rfl (by rfl) (run_callF Tryd.func10 (by kernel_rfl) (by rfl) (.cons (F.ev rfl) (.cons (F.ev rfl) (.cons (F.ev rfl) (.cons (F.ev rfl) .nil)))) _) (sign_no 23 11 4 9 5 11 _ (by decide) (by decide) (by decide) (by decide) (by decide) _ (by decide)) fun a w z F=>?_
 replace HM:=HM.on z
 clear z
 refine lxv (.tuple #[sgv 0 0,.int .i64 1]) F (o_move (F.ev rfl)) fun a F=>?_
 refine lxv (sgv 0 0) F (o_extract (F.ev rfl) rfl) fun a F=>?_
 refine lxv (.int .i64 1) F (o_extract (F.ev rfl) rfl) fun a F=>?_
 refine lx_new F HM (wanted_none rfl _) rfl (by rfl) (o_allocS) fun a w gs3 F HM=>?_
 refine lx_store F HM (wanted_none rfl _) rfl (k:=0) rfl (o_stS (F.ev rfl) (F.ev rfl) (HM.get 0 rfl)) (M2:=[(gs3,30,sgc 0 0),(gs2,30,sgc 0 0),(gs,30,sgc c x),(gh,28,hcs ((fun i=>if i=0 then 7 else 0))),(gg,26,gcs 23 11 4 9)]) (by rw [sets_sg];rfl) fun w HM=>?_
 refine lxv (.int .i64 1) F (o_assign (F.ev rfl)) fun a F=>?_
 refine lx_nil ?_
 repeat first|refine et1 ?_|refine eb1 ?_|refine ws1 ?_|refine wb1 ?_|refine wk1 ?_
 refine wp_region_lit ?_
 refine lxv (grp 23 11 4 9) F (o_loadG (F.ev rfl) (HM.get 4 rfl)) fun a F=>?_
 refine lxv (.pointer (some ⟨gg,8,none⟩)) F (o_fieldG2 (F.ev rfl)) fun a F=>?_
 refine lxv (num 4) F (o_loadG2 (F.ev rfl) (HM.get 4 rfl)) fun a F=>?_
 refine lxv (num 5) F (o_buildW 5 (by decide) rfl) fun a F=>?_
 refine lx_call F (wanted_none rfl _) rfl (by rfl) (run_callF Tryd.func9 (by kernel_rfl) (by rfl) (.cons (F.ev rfl) (.cons (F.ev rfl) (.cons (F.ev rfl) .nil))) _) ((gexp_yes 23 11 4 9 4 5 (by decide) (by decide) (by decide) (by decide)) _) fun a w z F=>?_
 replace HM:=HM.on z
 clear z
 refine lxv (.tuple #[num ((4^5%23)),.int .i64 0]) F (o_move (F.ev rfl)) fun a F=>?_
 refine lxv (num ((4^5%23))) F (o_extract (F.ev rfl) rfl) fun a F=>?_
 refine lxv (.int .i64 0) F (o_extract (F.ev rfl) rfl) fun a F=>?_
 refine lx_new F HM (wanted_none rfl _) rfl (by rfl) (o_allocN) fun a w gk F HM=>?_
 refine lx_store F HM (wanted_none rfl _) rfl (k:=0) rfl (o_storeN (F.ev rfl) (F.ev rfl) (HM.get 0 rfl)) (M2:=[(gk,24,ncs ((4^5%23))),(gs3,30,sgc 0 0),(gs2,30,sgc 0 0),(gs,30,sgc c x),(gh,28,hcs ((fun i=>if i=0 then 7 else 0))),(gg,26,gcs 23 11 4 9)]) (rfl) fun w HM=>?_
 refine lxv (.int .i64 0) F (o_assign (F.ev rfl)) fun a F=>?_
 refine lx_nil ?_
 repeat first|refine et1 ?_|refine eb1 ?_|refine ws1 ?_|refine wb1 ?_|refine wk1 ?_
 refine wp_region_lit ?_
 refine lxv (.int .i64 0) F (o_move (F.ev rfl)) fun a F=>?_
 refine lxv (.bool true) F (o_bin (u:=.int .i64 0) (v:=.int .i64 0) (fun ρ hx hy=>by simp only [execOp,hx,hy];simp [go_sem]) (F.ev rfl) rfl) fun a F=>?_
 refine lxv (.bool true) F (o_move (F.ev rfl)) fun a F=>?_
 refine lxw 47 true (.int .i64 1) F (o_move (F.ev rfl)) fun a F=>?_
 refine lxw 47 true (.bool true) F (o_bin (u:=.int .i64 1) (v:=.int .i64 1) (fun ρ hx hy=>by simp only [execOp,hx,hy];simp [go_sem]) (F.ev rfl) rfl) fun a F=>?_
 refine lxv (.bool true) F (o_pick (b:=true) (r:=.bool true) (F.ev rfl) (F.ev rfl) rfl rfl) fun a F=>?_
 refine lxv (.bool true) F (o_move (F.ev rfl)) fun a F=>?_
 refine lxw 51 true (.int .i64 1) F (o_move (F.ev rfl)) fun a F=>?_
 refine lxw 51 true (.bool true) F (o_bin (u:=.int .i64 1) (v:=.int .i64 1) (fun ρ hx hy=>by simp only [execOp,hx,hy];simp [go_sem]) (F.ev rfl) rfl) fun a F=>?_
 refine lxv (.bool true) F (o_pick (b:=true) (r:=.bool true) (F.ev rfl) (F.ev rfl) rfl rfl) fun a F=>?_
 refine lxv (.bool true) F (o_move (F.ev rfl)) fun a F=>?_
 refine lxw 55 true (.int .i64 0) F (o_move (F.ev rfl)) fun a F=>?_
 refine lxw 55 true (.bool true) F (o_bin (u:=.int .i64 0) (v:=.int .i64 0) (fun ρ hx hy=>by simp only [execOp,hx,hy];simp [go_sem]) (F.ev rfl) rfl) fun a F=>?_
 refine lxv (.bool true) F (o_pick (b:=true) (r:=.bool true) (F.ev rfl) (F.ev rfl) rfl rfl) fun a F=>?_
 refine lxv (.bool true) F (o_move (F.ev rfl)) fun a F=>?_
 refine lxw 59 true (grp 23 11 4 9) F (o_loadG (F.ev rfl) (HM.get 5 rfl)) fun a F=>?_
 refine lxw 59 true (num ((4^5%23))) F (o_loadN (F.ev rfl) (HM.get 0 rfl)) fun a F=>?_
 refine lxw 59 true (hsv ((fun i=>if i=0 then 7 else 0))) F (o_ldH (F.ev rfl) (HM.get 4 rfl)) fun a F=>?_
 refine lxw 59 true (sgv c x) F (o_ldS (F.ev rfl) (HM.get 3 rfl)) fun a F=>?_
 refine lx_call F (F.want (t:=59) (c:=true) rfl rfl rfl (by rfl) rfl) rfl (by rfl) (run_callF Tryd.func11 (by kernel_rfl) (by rfl) (.cons (F.ev rfl) (.cons (F.ev rfl) (.cons (F.ev rfl) (.cons (F.ev rfl) .nil)))) _) (chk_is 23 11 4 9 (4^5%23) c x _ (by decide) (by decide) (by decide) (by decide) hc hx _ (hb) hh (T.on HM.bel)) fun a w z F=>?_
 replace HM:=HM.on z
 clear z
 refine lxv (.bool true) F (o_pick (b:=true) (r:=.bool true) (F.ev rfl) (F.ev rfl) rfl rfl) fun a F=>?_
 refine lxv (.bool true) F (o_move (F.ev rfl)) fun a F=>?_
 refine lxw 66 true (grp 23 11 4 9) F (o_loadG (F.ev rfl) (HM.get 5 rfl)) fun a F=>?_
 refine lxw 66 true (num 1) F (o_buildW 1 (by decide) rfl) fun a F=>?_
 refine lxw 66 true (hsv ((fun i=>if i=0 then 7 else 0))) F (o_ldH (F.ev rfl) (HM.get 4 rfl)) fun a F=>?_
 refine lxw 66 true (sgv c x) F (o_ldS (F.ev rfl) (HM.get 3 rfl)) fun a F=>?_
 refine lx_call F (F.want (t:=66) (c:=true) rfl rfl rfl (by rfl) rfl) rfl (by rfl) (run_callF Tryd.func11 (by kernel_rfl) (by rfl) (.cons (F.ev rfl) (.cons (F.ev rfl) (.cons (F.ev rfl) (.cons (F.ev rfl) .nil)))) _) (chk_is 23 11 4 9 1 c x _ (by decide) (by decide) (by decide) (by decide) hc hx _ (chk_key rfl) hh (T.on HM.bel)) fun a w z F=>?_
 replace HM:=HM.on z
 clear z
 refine lxw 66 true (.bool true) F (o_not (b:=false) (r:=true) (F.ev rfl) rfl) fun a F=>?_
 refine lxv (.bool true) F (o_pick (b:=true) (r:=.bool true) (F.ev rfl) (F.ev rfl) rfl rfl) fun a F=>?_
 refine lxv (.bool true) F (o_move (F.ev rfl)) fun a F=>?_
 refine lxw 74 true (grp 23 11 4 9) F (o_loadG (F.ev rfl) (HM.get 5 rfl)) fun a F=>?_
 refine lxw 74 true (num 5) F (o_buildW 5 (by decide) rfl) fun a F=>?_
 refine lxw 74 true (hsv ((fun i=>if i=0 then 7 else 0))) F (o_ldH (F.ev rfl) (HM.get 4 rfl)) fun a F=>?_
 refine lxw 74 true (sgv c x) F (o_ldS (F.ev rfl) (HM.get 3 rfl)) fun a F=>?_
 refine lx_call F (F.want (t:=74) (c:=true) rfl rfl rfl (by rfl) rfl) rfl (by rfl) (run_callF Tryd.func11 (by kernel_rfl) (by rfl) (.cons (F.ev rfl) (.cons (F.ev rfl) (.cons (F.ev rfl) (.cons (F.ev rfl) .nil)))) _) (chk_is 23 11 4 9 5 c x _ (by decide) (by decide) (by decide) (by decide) hc hx _ (chk_key rfl) hh (T.on HM.bel)) fun a w z F=>?_
 replace HM:=HM.on z
 clear z
 refine lxw 74 true (.bool true) F (o_not (b:=false) (r:=true) (F.ev rfl) rfl) fun a F=>?_
 refine lxv (.bool true) F (o_pick (b:=true) (r:=.bool true) (F.ev rfl) (F.ev rfl) rfl rfl) fun a F=>?_
 refine lxv (.bool true) F (o_assign (F.ev rfl)) fun a F=>?_
 refine lx_nil ?_
 repeat first|refine et1 ?_|refine eb1 ?_|refine ws1 ?_|refine wb1 ?_|refine wk1 ?_
 refine wp_ret ?_
 repeat (first | refine ex_thenR ?_ | refine ex_blockR ?_)
 exact sx_ret F HM (res_tmp F rfl (s:=0) rfl)

theorem alive13_any (w0:World) (T:By.Tabs w0):Calls Tryd.prog 8 #[] w0 fun e w'=>e=.returned (.bool true)∧Below w0.heap.size w0 w':=
 alive13_w w0 T _ _ (Nat.lt_trans (sgC_lt g23 (fun i=>if i=0 then 7 else 0)) (by decide)) (Nat.lt_trans (sgS_lt g23 (fun i=>if i=0 then 7 else 0)) (by decide)) (fun i=>by show (if i=0 then 7 else 0)<256;split <;> decide) (fun w T=>sign_yes 23 11 4 9 5 3 (fun i=>if i=0 then 7 else 0) (by decide) (by decide) (by decide) (by decide) (by decide) w (signB_of g23 (by decide) (by decide) (by decide) (by decide)) (fun i=>by show (if i=0 then 7 else 0)<256;split <;> decide) T) (chk_back g23 (fun i=>if i=0 then 7 else 0) (by decide) (by decide) (by decide))
end Go.Proofs.YtlphnfajhpkleaaDoor

/-
 SigsBack,walked.
-/
namespace Go.Proofs.YtlphnfajhpkleaaDoor
set_option maxRecDepth 100000
open Go.RowKit
set_option linter.unusedSimpArgs false
set_option linter.unusedVariables false
attribute [local go_sem ↓] Go.wp_at_zero Go.wp_at_succ

set_option maxRecDepth 100000 in
set_option maxHeartbeats 800000 in
theorem back_n (P Q G H A B K C S:Nat) (h:Nat→Nat) (hP:P<2^256) (hQ:Q<2^256) (hG:G<2^256) (hH:H<2^256) (hA:A<2^256) (hB:B<2^256) (hK:K<2^256) (hC:C<2^256) (hS:S<2^256) (hh:∀ i,h i<256) (O:Nat) (hO:O<2^256) (w0:World) (T:By.Tabs w0) (hf:(nzB Q [A,B,O] && goodB P Q G H)=false):Calls Tryd.prog 3 #[grp P Q G H,gvv A B K h C S,num O] w0 fun e w'=>e=.returned (.bool true)∧Below w0.heap.size w0 w':=by
 refine sx_enter (args:=[grp P Q G H,gvv A B K h C S,num O]) Tryd.func3 rfl Tryd.ntmps3 (by rfl) fun a F HM=>?_
 repeat first|refine et1 ?_|refine eb1 ?_|refine ws1 ?_|refine wb1 ?_|refine wk1 ?_
 refine wp_region_lit ?_
 refine lx_new F HM (wanted_none rfl _) rfl (by rfl) (o_boxG (F.ev rfl)) fun a w gg F HM=>?_
 refine lx_new F HM (wanted_none rfl _) rfl (by rfl) (o_boxV (F.ev rfl)) fun a w gz F HM=>?_
 refine lx_new F HM (wanted_none rfl _) rfl (by rfl) (o_boxN (F.ev rfl)) fun a w go F HM=>?_
 refine lxv (.bool false) F (o_assign rfl) fun a F=>?_
 refine lx_nil ?_
 repeat first|refine et1 ?_|refine eb1 ?_|refine ws1 ?_|refine wb1 ?_|refine wk1 ?_
 refine wp_region_lit ?_
 refine lxv (grp P Q G H) F (o_loadG (F.ev rfl) (HM.get 2 rfl)) fun a F=>?_
 refine lxv (.pointer (some ⟨gz,0,none⟩)) F (o_fldV0 (F.ev rfl)) fun a F=>?_
 refine lxv (num A) F (o_ldV0 (F.ev rfl) (HM.get 1 rfl)) fun a F=>?_
 refine lxv (.pointer (some ⟨gz,4,none⟩)) F (o_fldV1 (F.ev rfl)) fun a F=>?_
 refine lxv (num B) F (o_ldV4 (F.ev rfl) (HM.get 1 rfl)) fun a F=>?_
 refine lxv (num O) F (o_loadN (F.ev rfl) (HM.get 0 rfl)) fun a F=>?_
 refine lx_rowM F HM (wanted_none rfl _) rfl (by rfl) (o_slice3 (F.ev rfl) (F.ev rfl) (F.ev rfl)) fun a w gr F HM=>?_
 refine lx_call F (wanted_none rfl _) rfl (by rfl) (run_callF Tryd.func7 (by kernel_rfl) (by rfl) (.cons (F.ev rfl) (.cons (F.ev rfl) .nil)) _) (fine13_is P Q G H 3 3 _ [A,B,O] hP hQ hG hH _ hf (rn_3 (HM.get 0 rfl) hA hB hO)) fun a w z F=>?_
 replace HM:=HM.on z
 clear z
 refine lxv (.bool true) F (o_not (b:=false) (r:=true) (F.ev rfl) rfl) fun a F=>?_
 refine lx_nil ?_
 repeat first|refine et1 ?_|refine eb1 ?_|refine ws1 ?_|refine wb1 ?_|refine wk1 ?_
 refine wp_cond_true (F.ev rfl) ?_
 repeat first|refine et1 ?_|refine eb1 ?_|refine ws1 ?_|refine wb1 ?_|refine wk1 ?_
 refine wp_region_lit ?_
 refine lx_call F (wanted_none rfl _) rfl (by rfl) (run_callF Tryd.func8 (by kernel_rfl) (by rfl) .nil _) (alive13_any _ (T.on HM.bel)) fun a w z F=>?_
 replace HM:=HM.on z
 clear z
 refine lxv (.bool true) F (o_assign (F.ev rfl)) fun a F=>?_
 refine lx_nil ?_
 repeat first|refine et1 ?_|refine eb1 ?_|refine ws1 ?_|refine wb1 ?_|refine wk1 ?_
 refine wp_ret ?_
 repeat (first | refine ex_thenR ?_ | refine ex_blockR ?_)
 exact sx_ret F HM (res_tmp F rfl (s:=6) rfl)

set_option maxRecDepth 100000 in
set_option maxHeartbeats 800000 in
theorem back_y (P Q G H A B K C S:Nat) (h:Nat→Nat) (hP:P<2^256) (hQ:Q<2^256) (hG:G<2^256) (hH:H<2^256) (hA:A<2^256) (hB:B<2^256) (hK:K<2^256) (hC:C<2^256) (hS:S<2^256) (hh:∀ i,h i<256) (O:Nat) (hO:O<2^256) (w0:World) (T:By.Tabs w0) (hf:(nzB Q [A,B,O] && goodB P Q G H)=true) (k:Nat) (hk:k<2^256) (ck:∀ w,Calls Tryd.prog 9 #[grp P Q G H,num G,num A] w fun e w'=>e=.returned (.tuple #[num k,.int .i64 0])∧Below w.heap.size w w') (c x d y:Nat) (hc:c<Q) (hx:x<Q) (hd:d<Q) (hy:y<Q) (s1:∀ w,By.Tabs w→Calls Tryd.prog 10 #[grp P Q G H,num A,hsv h,num B] w fun e w'=>e=.returned (.tuple #[sgv c x,.int .i64 0])∧Below w.heap.size w w') (s2:∀ w,By.Tabs w→Calls Tryd.prog 10 #[grp P Q G H,num A,hsv h,num O] w fun e w'=>e=.returned (.tuple #[sgv d y,.int .i64 0])∧Below w.heap.size w w') (b1:chkB P Q G k h c x=true) (b2:chkB P Q G k h d y=true):Calls Tryd.prog 3 #[grp P Q G H,gvv A B K h C S,num O] w0 fun e w'=>e=.returned (.bool true)∧Below w0.heap.size w0 w':=by
 refine sx_enter (args:=[grp P Q G H,gvv A B K h C S,num O]) Tryd.func3 rfl Tryd.ntmps3 (by rfl) fun a F HM=>?_
 repeat first|refine et1 ?_|refine eb1 ?_|refine ws1 ?_|refine wb1 ?_|refine wk1 ?_
 refine wp_region_lit ?_
 refine lx_new F HM (wanted_none rfl _) rfl (by rfl) (o_boxG (F.ev rfl)) fun a w gg F HM=>?_
 refine lx_new F HM (wanted_none rfl _) rfl (by rfl) (o_boxV (F.ev rfl)) fun a w gz F HM=>?_
 refine lx_new F HM (wanted_none rfl _) rfl (by rfl) (o_boxN (F.ev rfl)) fun a w go F HM=>?_
 refine lxv (.bool false) F (o_assign rfl) fun a F=>?_
 refine lx_nil ?_
 repeat first|refine et1 ?_|refine eb1 ?_|refine ws1 ?_|refine wb1 ?_|refine wk1 ?_
 refine wp_region_lit ?_
 refine lxv (grp P Q G H) F (o_loadG (F.ev rfl) (HM.get 2 rfl)) fun a F=>?_
 refine lxv (.pointer (some ⟨gz,0,none⟩)) F (o_fldV0 (F.ev rfl)) fun a F=>?_
 refine lxv (num A) F (o_ldV0 (F.ev rfl) (HM.get 1 rfl)) fun a F=>?_
 refine lxv (.pointer (some ⟨gz,4,none⟩)) F (o_fldV1 (F.ev rfl)) fun a F=>?_
 refine lxv (num B) F (o_ldV4 (F.ev rfl) (HM.get 1 rfl)) fun a F=>?_
 refine lxv (num O) F (o_loadN (F.ev rfl) (HM.get 0 rfl)) fun a F=>?_
 refine lx_rowM F HM (wanted_none rfl _) rfl (by rfl) (o_slice3 (F.ev rfl) (F.ev rfl) (F.ev rfl)) fun a w gr F HM=>?_
 refine lx_call F (wanted_none rfl _) rfl (by rfl) (run_callF Tryd.func7 (by kernel_rfl) (by rfl) (.cons (F.ev rfl) (.cons (F.ev rfl) .nil)) _) (fine13_is P Q G H 3 3 _ [A,B,O] hP hQ hG hH _ hf (rn_3 (HM.get 0 rfl) hA hB hO)) fun a w z F=>?_
 replace HM:=HM.on z
 clear z
 refine lxv (.bool false) F (o_not (b:=true) (r:=false) (F.ev rfl) rfl) fun a F=>?_
 refine lx_nil ?_
 repeat first|refine et1 ?_|refine eb1 ?_|refine ws1 ?_|refine wb1 ?_|refine wk1 ?_
 refine wp_cond_false (F.ev rfl) ?_
 replace HM:=HM.erase 0 (M2:=[(go,24,ncs O),(gz,32,gvc A B K h C S),(gg,26,gcs P Q G H)]) rfl
 have hss:decide (c=c∧x=x)=true:=by simp
 have hc2:c<2^256:=Nat.lt_trans hc hQ
 have hx2:x<2^256:=Nat.lt_trans hx hQ
 have hd2:d<2^256:=Nat.lt_trans hd hQ
 have hy2:y<2^256:=Nat.lt_trans hy hQ
 have l1:decide (cmpN c Q<(0:Int))=true:=cmp_lt.trans (decide_eq_true hc)
 have l2:decide (cmpN x Q<(0:Int))=true:=cmp_lt.trans (decide_eq_true hx)
 repeat first|refine et1 ?_|refine eb1 ?_|refine ws1 ?_|refine wb1 ?_|refine wk1 ?_
 refine wp_region_lit ?_
 refine lxv (grp P Q G H) F (o_loadG (F.ev rfl) (HM.get 2 rfl)) fun a F=>?_
 refine lxv (.pointer (some ⟨gg,8,none⟩)) F (o_fieldG2 (F.ev rfl)) fun a F=>?_
 refine lxv (num G) F (o_loadG2 (F.ev rfl) (HM.get 2 rfl)) fun a F=>?_
 refine lxv (.pointer (some ⟨gz,0,none⟩)) F (o_fldV0 (F.ev rfl)) fun a F=>?_
 refine lxv (num A) F (o_ldV0 (F.ev rfl) (HM.get 1 rfl)) fun a F=>?_
 refine lx_call F (wanted_none rfl _) rfl (by rfl) (run_callF Tryd.func9 (by kernel_rfl) (by rfl) (.cons (F.ev rfl) (.cons (F.ev rfl) (.cons (F.ev rfl) .nil))) _) (ck _) fun a w z F=>?_
 replace HM:=HM.on z
 clear z
 refine lxv (.tuple #[num k,.int .i64 0]) F (o_move (F.ev rfl)) fun a F=>?_
 refine lxv (num k) F (o_extract (F.ev rfl) rfl) fun a F=>?_
 refine lxv (.int .i64 0) F (o_extract (F.ev rfl) rfl) fun a F=>?_
 refine lx_new F HM (wanted_none rfl _) rfl (by rfl) (o_allocN) fun a w gk F HM=>?_
 refine lx_store F HM (wanted_none rfl _) rfl (k:=0) rfl (o_storeN (F.ev rfl) (F.ev rfl) (HM.get 0 rfl)) (M2:=[(gk,24,ncs k),(go,24,ncs O),(gz,32,gvc A B K h C S),(gg,26,gcs P Q G H)]) (rfl) fun w HM=>?_
 refine lxv (.int .i64 0) F (o_assign (F.ev rfl)) fun a F=>?_
 refine lx_nil ?_
 repeat first|refine et1 ?_|refine eb1 ?_|refine ws1 ?_|refine wb1 ?_|refine wk1 ?_
 refine wp_region_lit ?_
 refine lxv (grp P Q G H) F (o_loadG (F.ev rfl) (HM.get 3 rfl)) fun a F=>?_
 refine lxv (.pointer (some ⟨gz,0,none⟩)) F (o_fldV0 (F.ev rfl)) fun a F=>?_
 refine lxv (num A) F (o_ldV0 (F.ev rfl) (HM.get 2 rfl)) fun a F=>?_
 refine lxv (.pointer (some ⟨gz,12,none⟩)) F (o_fldV3 (F.ev rfl)) fun a F=>?_
 refine lxv (hsv h) F (o_ldV12 (F.ev rfl) (HM.get 2 rfl)) fun a F=>?_
 refine lxv (.pointer (some ⟨gz,4,none⟩)) F (o_fldV1 (F.ev rfl)) fun a F=>?_
 refine lxv (num B) F (o_ldV4 (F.ev rfl) (HM.get 2 rfl)) fun a F=>?_
 refine lx_call F (wanted_none rfl _) rfl (by rfl) (run_callF Tryd.func10 (by kernel_rfl) (by rfl) (.cons (F.ev rfl) (.cons (F.ev rfl) (.cons (F.ev rfl) (.cons (F.ev rfl) .nil)))) _) (s1 _ (T.on HM.bel)) fun a w z F=>?_
 replace HM:=HM.on z
 clear z
 refine lxv (.tuple #[sgv c x,.int .i64 0]) F (o_move (F.ev rfl)) fun a F=>?_
 refine lxv (sgv c x) F (o_extract (F.ev rfl) rfl) fun a F=>?_
 refine lxv (.int .i64 0) F (o_extract (F.ev rfl) rfl) fun a F=>?_
 refine lx_new F HM (wanted_none rfl _) rfl (by rfl) (o_allocS) fun a w gs F HM=>?_
 refine lx_store F HM (wanted_none rfl _) rfl (k:=0) rfl (o_stS (F.ev rfl) (F.ev rfl) (HM.get 0 rfl)) (M2:=[(gs,30,sgc c x),(gk,24,ncs k),(go,24,ncs O),(gz,32,gvc A B K h C S),(gg,26,gcs P Q G H)]) (by rw [sets_sg];rfl) fun w HM=>?_
 refine lxv (.int .i64 0) F (o_assign (F.ev rfl)) fun a F=>?_
 refine lx_nil ?_
 repeat first|refine et1 ?_|refine eb1 ?_|refine ws1 ?_|refine wb1 ?_|refine wk1 ?_
 refine wp_region_lit ?_
 refine lxv (grp P Q G H) F (o_loadG (F.ev rfl) (HM.get 4 rfl)) fun a F=>?_
 refine lxv (.pointer (some ⟨gz,0,none⟩)) F (o_fldV0 (F.ev rfl)) fun a F=>?_
 refine lxv (num A) F (o_ldV0 (F.ev rfl) (HM.get 3 rfl)) fun a F=>?_
 refine lxv (.pointer (some ⟨gz,12,none⟩)) F (o_fldV3 (F.ev rfl)) fun a F=>?_
 refine lxv (hsv h) F (o_ldV12 (F.ev rfl) (HM.get 3 rfl)) fun a F=>?_
 refine lxv (.pointer (some ⟨gz,4,none⟩)) F (o_fldV1 (F.ev rfl)) fun a F=>?_
 refine lxv (num B) F (o_ldV4 (F.ev rfl) (HM.get 3 rfl)) fun a F=>?_
 refine lx_call F (wanted_none rfl _) rfl (by rfl) (run_callF Tryd.func10 (by kernel_rfl) (by rfl) (.cons (F.ev rfl) (.cons (F.ev rfl) (.cons (F.ev rfl) (.cons (F.ev rfl) .nil)))) _) (s1 _ (T.on HM.bel)) fun a w z F=>?_
 replace HM:=HM.on z
 clear z
 refine lxv (.tuple #[sgv c x,.int .i64 0]) F (o_move (F.ev rfl)) fun a F=>?_
 refine lxv (sgv c x) F (o_extract (F.ev rfl) rfl) fun a F=>?_
 refine lxv (.int .i64 0) F (o_extract (F.ev rfl) rfl) fun a F=>?_
 refine lx_new F HM (wanted_none rfl _) rfl (by rfl) (o_allocS) fun a w gt F HM=>?_
 refine lx_store F HM (wanted_none rfl _) rfl (k:=0) rfl (o_stS (F.ev rfl) (F.ev rfl) (HM.get 0 rfl)) (M2:=[(gt,30,sgc c x),(gs,30,sgc c x),(gk,24,ncs k),(go,24,ncs O),(gz,32,gvc A B K h C S),(gg,26,gcs P Q G H)]) (by rw [sets_sg];rfl) fun w HM=>?_
 refine lxv (.int .i64 0) F (o_assign (F.ev rfl)) fun a F=>?_
 refine lx_nil ?_
 repeat first|refine et1 ?_|refine eb1 ?_|refine ws1 ?_|refine wb1 ?_|refine wk1 ?_
 refine wp_region_lit ?_
 refine lxv (grp P Q G H) F (o_loadG (F.ev rfl) (HM.get 5 rfl)) fun a F=>?_
 refine lxv (.pointer (some ⟨gz,0,none⟩)) F (o_fldV0 (F.ev rfl)) fun a F=>?_
 refine lxv (num A) F (o_ldV0 (F.ev rfl) (HM.get 4 rfl)) fun a F=>?_
 refine lxv (.pointer (some ⟨gz,12,none⟩)) F (o_fldV3 (F.ev rfl)) fun a F=>?_
 refine lxv (hsv h) F (o_ldV12 (F.ev rfl) (HM.get 4 rfl)) fun a F=>?_
 refine lxv (num O) F (o_loadN (F.ev rfl) (HM.get 3 rfl)) fun a F=>?_
 refine lx_call F (wanted_none rfl _) rfl (by rfl) (run_callF Tryd.func10 (by kernel_rfl) (by rfl) (.cons (F.ev rfl) (.cons (F.ev rfl) (.cons (F.ev rfl) (.cons (F.ev rfl) .nil)))) _) (s2 _ (T.on HM.bel)) fun a w z F=>?_
 replace HM:=HM.on z
 clear z
 refine lxv (.tuple #[sgv d y,.int .i64 0]) F (o_move (F.ev rfl)) fun a F=>?_
 refine lxv (sgv d y) F (o_extract (F.ev rfl) rfl) fun a F=>?_
 refine lxv (.int .i64 0) F (o_extract (F.ev rfl) rfl) fun a F=>?_
 refine lx_new F HM (wanted_none rfl _) rfl (by rfl) (o_allocS) fun a w gu F HM=>?_
 refine lx_store F HM (wanted_none rfl _) rfl (k:=0) rfl (o_stS (F.ev rfl) (F.ev rfl) (HM.get 0 rfl)) (M2:=[(gu,30,sgc d y),(gt,30,sgc c x),(gs,30,sgc c x),(gk,24,ncs k),(go,24,ncs O),(gz,32,gvc A B K h C S),(gg,26,gcs P Q G H)]) (by rw [sets_sg];rfl) fun w HM=>?_
 refine lxv (.int .i64 0) F (o_assign (F.ev rfl)) fun a F=>?_
 refine lx_nil ?_
 repeat first|refine et1 ?_|refine eb1 ?_|refine ws1 ?_|refine wb1 ?_|refine wk1 ?_
 refine wp_region_lit ?_
 refine lx_call F (wanted_none rfl _) rfl (by rfl) (run_callF Tryd.func8 (by kernel_rfl) (by rfl) .nil _) (alive13_any _ (T.on HM.bel)) fun a w z F=>?_
 replace HM:=HM.on z
 clear z
 refine lxv (.bool true) F (o_move (F.ev rfl)) fun a F=>?_
 refine lxw 67 true (.int .i64 0) F (o_move (F.ev rfl)) fun a F=>?_
 refine lxw 67 true (.bool true) F (o_bin (u:=.int .i64 0) (v:=.int .i64 0) (fun ρ hx hy=>by simp only [execOp,hx,hy];simp [go_sem]) (F.ev rfl) rfl) fun a F=>?_
 refine lxv (.bool true) F (o_pick (b:=true) (r:=.bool true) (F.ev rfl) (F.ev rfl) rfl rfl) fun a F=>?_
 refine lxv (.bool true) F (o_move (F.ev rfl)) fun a F=>?_
 refine lxw 71 true (.int .i64 0) F (o_move (F.ev rfl)) fun a F=>?_
 refine lxw 71 true (.bool true) F (o_bin (u:=.int .i64 0) (v:=.int .i64 0) (fun ρ hx hy=>by simp only [execOp,hx,hy];simp [go_sem]) (F.ev rfl) rfl) fun a F=>?_
 refine lxv (.bool true) F (o_pick (b:=true) (r:=.bool true) (F.ev rfl) (F.ev rfl) rfl rfl) fun a F=>?_
 refine lxv (.bool true) F (o_move (F.ev rfl)) fun a F=>?_
 refine lxw 75 true (.int .i64 0) F (o_move (F.ev rfl)) fun a F=>?_
 refine lxw 75 true (.bool true) F (o_bin (u:=.int .i64 0) (v:=.int .i64 0) (fun ρ hx hy=>by simp only [execOp,hx,hy];simp [go_sem]) (F.ev rfl) rfl) fun a F=>?_
 refine lxv (.bool true) F (o_pick (b:=true) (r:=.bool true) (F.ev rfl) (F.ev rfl) rfl rfl) fun a F=>?_
 refine lxv (.bool true) F (o_move (F.ev rfl)) fun a F=>?_
 refine lxw 79 true (.int .i64 0) F (o_move (F.ev rfl)) fun a F=>?_
 refine lxw 79 true (.bool true) F (o_bin (u:=.int .i64 0) (v:=.int .i64 0) (fun ρ hx hy=>by simp only [execOp,hx,hy];simp [go_sem]) (F.ev rfl) rfl) fun a F=>?_
 refine lxv (.bool true) F (o_pick (b:=true) (r:=.bool true) (F.ev rfl) (F.ev rfl) rfl rfl) fun a F=>?_
 refine lxv (.bool true) F (o_move (F.ev rfl)) fun a F=>?_
 refine lxw 83 true (sgv c x) F (o_ldS (F.ev rfl) (HM.get 2 rfl)) fun a F=>?_
 refine lxw 83 true (sgv c x) F (o_ldS (F.ev rfl) (HM.get 1 rfl)) fun a F=>?_
 refine lxw 83 true (.bool true) F (o_eqSg hc2 hx2 hc2 hx2 hss (F.ev rfl) (F.ev rfl)) fun a F=>?_
 refine lxv (.bool true) F (o_pick (b:=true) (r:=.bool true) (F.ev rfl) (F.ev rfl) rfl rfl) fun a F=>?_
 refine lxv (.bool true) F (o_move (F.ev rfl)) fun a F=>?_
 refine lxw 88 true (grp P Q G H) F (o_loadG (F.ev rfl) (HM.get 6 rfl)) fun a F=>?_
 refine lxw 88 true (num k) F (o_loadN (F.ev rfl) (HM.get 3 rfl)) fun a F=>?_
 refine lxw 88 true (.pointer (some ⟨gz,12,none⟩)) F (o_fldV3 (F.ev rfl)) fun a F=>?_
 refine lxw 88 true (hsv h) F (o_ldV12 (F.ev rfl) (HM.get 5 rfl)) fun a F=>?_
 refine lxw 88 true (sgv c x) F (o_ldS (F.ev rfl) (HM.get 2 rfl)) fun a F=>?_
 refine lx_call F (F.want (t:=88) (c:=true) rfl rfl rfl (by rfl) rfl) rfl (by rfl) (run_callF Tryd.func11 (by kernel_rfl) (by rfl) (.cons (F.ev rfl) (.cons (F.ev rfl) (.cons (F.ev rfl) (.cons (F.ev rfl) .nil)))) _) (chk_is P Q G H k c x h hP hQ hG hk hc2 hx2 _ b1 hh (T.on HM.bel)) fun a w z F=>?_
 replace HM:=HM.on z
 clear z
 refine lxv (.bool true) F (o_pick (b:=true) (r:=.bool true) (F.ev rfl) (F.ev rfl) rfl rfl) fun a F=>?_
 refine lxv (.bool true) F (o_move (F.ev rfl)) fun a F=>?_
 refine lxw 96 true (grp P Q G H) F (o_loadG (F.ev rfl) (HM.get 6 rfl)) fun a F=>?_
 refine lxw 96 true (num k) F (o_loadN (F.ev rfl) (HM.get 3 rfl)) fun a F=>?_
 refine lxw 96 true (.pointer (some ⟨gz,12,none⟩)) F (o_fldV3 (F.ev rfl)) fun a F=>?_
 refine lxw 96 true (hsv h) F (o_ldV12 (F.ev rfl) (HM.get 5 rfl)) fun a F=>?_
 refine lxw 96 true (sgv d y) F (o_ldS (F.ev rfl) (HM.get 0 rfl)) fun a F=>?_
 refine lx_call F (F.want (t:=96) (c:=true) rfl rfl rfl (by rfl) rfl) rfl (by rfl) (run_callF Tryd.func11 (by kernel_rfl) (by rfl) (.cons (F.ev rfl) (.cons (F.ev rfl) (.cons (F.ev rfl) (.cons (F.ev rfl) .nil)))) _) (chk_is P Q G H k d y h hP hQ hG hk hd2 hy2 _ b2 hh (T.on HM.bel)) fun a w z F=>?_
 replace HM:=HM.on z
 clear z
 refine lxv (.bool true) F (o_pick (b:=true) (r:=.bool true) (F.ev rfl) (F.ev rfl) rfl rfl) fun a F=>?_
 refine lxv (.bool true) F (o_move (F.ev rfl)) fun a F=>?_
 refine lxw 104 true (.pointer (some ⟨gs,0,none⟩)) F (o_fldS0 (F.ev rfl)) fun a F=>?_
 refine lxw 104 true (num c) F (o_ldS0 (F.ev rfl) (HM.get 2 rfl)) fun a F=>?_
 refine lxw 104 true (.pointer (some ⟨gg,4,none⟩)) F (o_fieldG1 (F.ev rfl)) fun a F=>?_
 refine lxw 104 true (num Q) F (o_loadG1 (F.ev rfl) (HM.get 6 rfl)) fun a F=>?_
 refine lx_call F (F.want (t:=104) (c:=true) rfl rfl rfl (by rfl) rfl) rfl (by rfl) (run_callF Tryd.func12 (by kernel_rfl) (by rfl) (.cons (F.ev rfl) (.cons (F.ev rfl) .nil)) _) ((fun w=>cmp_any c Q hc2 hQ w) _) fun a w z F=>?_
 replace HM:=HM.on z
 clear z
 refine lxw 104 true (.bool true) F (o_lssI l1 (F.ev rfl) rfl) fun a F=>?_
 refine lxv (.bool true) F (o_pick (b:=true) (r:=.bool true) (F.ev rfl) (F.ev rfl) rfl rfl) fun a F=>?_
 refine lxv (.bool true) F (o_move (F.ev rfl)) fun a F=>?_
 refine lxw 112 true (.pointer (some ⟨gs,4,none⟩)) F (o_fldS1 (F.ev rfl)) fun a F=>?_
 refine lxw 112 true (num x) F (o_ldS4 (F.ev rfl) (HM.get 2 rfl)) fun a F=>?_
 refine lxw 112 true (.pointer (some ⟨gg,4,none⟩)) F (o_fieldG1 (F.ev rfl)) fun a F=>?_
 refine lxw 112 true (num Q) F (o_loadG1 (F.ev rfl) (HM.get 6 rfl)) fun a F=>?_
 refine lx_call F (F.want (t:=112) (c:=true) rfl rfl rfl (by rfl) rfl) rfl (by rfl) (run_callF Tryd.func12 (by kernel_rfl) (by rfl) (.cons (F.ev rfl) (.cons (F.ev rfl) .nil)) _) ((fun w=>cmp_any x Q hx2 hQ w) _) fun a w z F=>?_
 replace HM:=HM.on z
 clear z
 refine lxw 112 true (.bool true) F (o_lssI l2 (F.ev rfl) rfl) fun a F=>?_
 refine lxv (.bool true) F (o_pick (b:=true) (r:=.bool true) (F.ev rfl) (F.ev rfl) rfl rfl) fun a F=>?_
 refine lxv (.bool true) F (o_assign (F.ev rfl)) fun a F=>?_
 refine lx_nil ?_
 repeat first|refine et1 ?_|refine eb1 ?_|refine ws1 ?_|refine wb1 ?_|refine wk1 ?_
 refine wp_ret ?_
 repeat (first | refine ex_thenR ?_ | refine ex_blockR ?_)
 exact sx_ret F HM (res_tmp F rfl (s:=6) rfl)

theorem nz_of {Q x:Nat} {xs:List Nat} (h:nzB Q xs=true) (hx:x∈xs):x<Q∧x≠0:=by
 have:=List.all_eq_true.1 h x hx
 simpa using this
theorem exp_pow {P Q G:Nat} (g:Gd P Q G) (H x:Nat) (hx:x<2^256) (w:World):Calls Tryd.prog 9 #[grp P Q G H,num G,num x] w fun e w'=>e=.returned (.tuple #[num (G^x%P),.int .i64 0])∧Below w.heap.size w w':=gexp_yes P Q G H G x g.hP g.hG hx g.may w
theorem pow_256 {P Q G:Nat} (g:Gd P Q G) (x:Nat):G^x%P<2^256:=Nat.lt_trans (Nat.mod_lt _ (by have:=g.h1;omega)) g.hP
theorem sign_gd {P Q G S D:Nat} (g:Gd P Q G) (H:Nat) (h:Nat→Nat) (hh:∀ i,h i<256) (hS0:S≠0) (hD0:D≠0) (hS:S<Q) (hD:D<Q) (w:World) (T:By.Tabs w):Calls Tryd.prog 10 #[grp P Q G H,num S,hsv h,num D] w fun e w'=>e=.returned (.tuple #[sgv (sgC P Q G h S D) (sgS P Q G h S D),.int .i64 0])∧Below w.heap.size w w':=
 sign_yes P Q G H S D h g.hP g.hQ g.hG (Nat.lt_trans hS g.hQ) (Nat.lt_trans hD g.hQ) w (signB_of g hS0 hD0 hS hD) hh T
theorem sback_any (P Q G H A B K C S:Nat) (h:Nat→Nat) (hP:P<2^256) (hQ:Q<2^256) (hG:G<2^256) (hH:H<2^256) (hA:A<2^256) (hB:B<2^256) (hK:K<2^256) (hC:C<2^256) (hS:S<2^256) (hh:∀ i,h i<256) (O:Nat) (hO:O<2^256) (w0:World) (T:By.Tabs w0):Calls Tryd.prog 3 #[grp P Q G H,gvv A B K h C S,num O] w0 fun e w'=>e=.returned (.bool true)∧Below w0.heap.size w0 w':=by
 rcases hf:(nzB Q [A,B,O] && goodB P Q G H) with _ | _
 ·exact back_n P Q G H A B K C S h hP hQ hG hH hA hB hK hC hS hh O hO w0 T hf
 ·obtain ⟨hn,hg⟩:=Bool.and_eq_true_iff.1 hf
  obtain ⟨gd,_,_⟩:=gd_of hP hQ hG hg
  obtain ⟨a1,a2⟩:=nz_of hn (x:=A) (by simp)
  obtain ⟨b1,b2⟩:=nz_of hn (x:=B) (by simp)
  obtain ⟨o1,o2⟩:=nz_of hn (x:=O) (by simp)
  exact back_y P Q G H A B K C S h hP hQ hG hH hA hB hK hC hS hh O hO w0 T hf _ (pow_256 gd A) (exp_pow gd H A hA) _ _ _ _ (sgC_lt gd h) (sgS_lt gd h) (sgC_lt gd h) (sgS_lt gd h) (sign_gd gd H h hh a2 b2 a1 b1) (sign_gd gd H h hh a2 o2 a1 o1) (chk_back gd h a2 a1 b1) (chk_back gd h a2 a1 o1)
end Go.Proofs.YtlphnfajhpkleaaDoor
