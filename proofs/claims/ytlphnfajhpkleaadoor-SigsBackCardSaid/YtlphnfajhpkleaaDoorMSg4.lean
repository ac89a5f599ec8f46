/-
 sigs: Check.
-/
import Derived.Deep.Cut
import Derived.Test.YtlphnfajhpkleaaDoorMSg3
import Derived.Test.YtlphnfajhpkleaaDoorMSmall
namespace Go.Proofs.YtlphnfajhpkleaaDoor
set_option maxRecDepth 100000
open Go.RowKit
set_option linter.unusedSimpArgs false
set_option linter.unusedVariables false
attribute [local go_sem ↓] Go.wp_at_zero Go.wp_at_succ

theorem prod_L (P Q G H la ca lb cb:Nat) (pa pb:Option Addr) (bs ns:List Nat) (V:Nat) (hP:P<2^256) (w0:World) (h:prB P bs ns=true) (hV:prV P bs ns=V) (ra:RN w0.heap.size w0 pa la ca bs) (rn:RN w0.heap.size w0 pb lb cb ns) :
  Calls Tryd.prog 25 #[grp P Q G H,.slice pa la ca,.slice pb lb cb] w0 fun e w'=>e=.returned (.tuple #[num V,.int .i64 0])∧Below w0.heap.size w0 w':=by
 subst hV;exact prod_y P Q G H la ca lb cb pa pb bs ns hP w0 h ra rn
set_option maxRecDepth 100000 in
set_option maxHeartbeats 800000 in
theorem chk_1 (P Q G H K C S:Nat) (h:Nat→Nat) (hP:P<2^256) (hQ:Q<2^256) (hG:G<2^256) (hK:K<2^256) (hC:C<2^256) (hS:S<2^256) (w0:World) (he:expB Q [C,S]=false):Calls Tryd.prog 11 #[grp P Q G H,num K,hsv h,sgv C S] w0 fun e w'=>e=.returned (.bool false)∧Below w0.heap.size w0 w':=by
 refine sx_enter (args:=[grp P Q G H,num K,hsv h,sgv C S]) Tryd.func11 rfl Tryd.ntmps11 (by rfl) fun a F HM=>?_
 repeat (first | refine ex_then ?_ | refine ex_block ?_ | refine wp_seq ?_ | refine wp_block ?_ | refine wp_skip ?_)
 refine wp_region_lit ?_
 refine lx_new F HM (wanted_none rfl _) rfl (by rfl) (o_boxG (F.ev rfl)) fun a w gg F HM=>?_
 refine lx_new F HM (wanted_none rfl _) rfl (by rfl) (o_boxN (F.ev rfl)) fun a w gk F HM=>?_
 refine lx_new F HM (wanted_none rfl _) rfl (by rfl) (o_boxH (F.ev rfl)) fun a w gh F HM=>?_
 refine lx_new F HM (wanted_none rfl _) rfl (by rfl) (o_boxS (F.ev rfl)) fun a w gs F HM=>?_
 refine lx_value (v:=.bool false) F (wanted_none rfl _) rfl (by rfl) (o_assign rfl) fun a F=>?_
 refine lx_nil ?_
 repeat (first | refine ex_then ?_ | refine ex_block ?_ | refine wp_seq ?_ | refine wp_block ?_ | refine wp_skip ?_)
 refine wp_region_lit ?_
 refine lx_value (v:=grp P Q G H) F (wanted_none rfl _) rfl (by rfl) (o_loadG (F.ev rfl) (HM.get 3 rfl)) fun a F=>?_
 refine lx_value (v:=.pointer (some ⟨gs,0,none⟩)) F (wanted_none rfl _) rfl (by rfl) (o_fldS0 (F.ev rfl)) fun a F=>?_
 refine lx_value (v:=num C) F (wanted_none rfl _) rfl (by rfl) (o_ldS0 (F.ev rfl) (HM.get 0 rfl)) fun a F=>?_
 refine lx_value (v:=.pointer (some ⟨gs,4,none⟩)) F (wanted_none rfl _) rfl (by rfl) (o_fldS1 (F.ev rfl)) fun a F=>?_
 refine lx_value (v:=num S) F (wanted_none rfl _) rfl (by rfl) (o_ldS4 (F.ev rfl) (HM.get 0 rfl)) fun a F=>?_
 refine lx_rowM F HM (wanted_none rfl _) rfl (by rfl) (o_slice2 (F.ev rfl) (F.ev rfl)) fun a w gr F HM=>?_
 refine lx_call F (wanted_none rfl _) rfl (by rfl) (run_callF Tryd.func22 (by kernel_rfl) (by rfl) (.cons (F.ev rfl) (.cons (F.ev rfl) .nil)) _) (areS_is P Q G H 2 2 _ [C,S] _ he hQ (rn_2 (HM.get 0 rfl) hC hS)) fun a w z F=>?_
 replace HM:=HM.on z
 clear z
 refine lx_value (v:=.bool true) F (wanted_none rfl _) rfl (by rfl) (o_not (b:=false) (r:=true) (F.ev rfl) rfl) fun a F=>?_
 refine lx_value (v:=.bool true) F (wanted_none rfl _) rfl (by rfl) (o_move (F.ev rfl)) fun a F=>?_
 refine lx_pass F (F.want (t:=21) (c:=true) rfl rfl rfl (by rfl) rfl) rfl (by rfl) fun a F=>?_
 refine lx_pass F (F.want (t:=21) (c:=true) rfl rfl rfl (by rfl) rfl) rfl (by rfl) fun a F=>?_
 refine lx_pass F (F.want (t:=21) (c:=true) rfl rfl rfl (by rfl) rfl) rfl (by rfl) fun a F=>?_
 refine lx_pass F (F.want (t:=21) (c:=true) rfl rfl rfl (by rfl) rfl) rfl (by rfl) fun a F=>?_
 refine lx_value (v:=.bool true) F (wanted_none rfl _) rfl (by rfl) (o_pick (b:=true) (r:=.bool true) (F.ev rfl) rfl (F.ev rfl) rfl) fun a F=>?_
 refine lx_nil ?_
 repeat (first | refine ex_then ?_ | refine ex_block ?_ | refine wp_seq ?_ | refine wp_block ?_ | refine wp_skip ?_)
 refine wp_cond_true (F.ev rfl) ?_
 repeat (first | refine ex_then ?_ | refine ex_block ?_ | refine wp_seq ?_ | refine wp_block ?_ | refine wp_skip ?_)
 refine wp_region_lit ?_
 refine lx_value (v:=.bool false) F (wanted_none rfl _) rfl (by rfl) (o_assign rfl) fun a F=>?_
 refine lx_nil ?_
 repeat (first | refine ex_then ?_ | refine ex_block ?_ | refine wp_seq ?_ | refine wp_block ?_ | refine wp_skip ?_)
 refine wp_ret ?_
 repeat (first | refine ex_thenR ?_ | refine ex_blockR ?_)
 exact sx_ret F HM (res_tmp F rfl (s:=8) rfl)

set_option maxRecDepth 100000 in
set_option maxHeartbeats 800000 in
theorem chk_2 (P Q G H K C S:Nat) (h:Nat→Nat) (hP:P<2^256) (hQ:Q<2^256) (hG:G<2^256) (hK:K<2^256) (hC:C<2^256) (hS:S<2^256) (w0:World) (he:expB Q [C,S]=true) (hk:keyB P Q K=false):Calls Tryd.prog 11 #[grp P Q G H,num K,hsv h,sgv C S] w0 fun e w'=>e=.returned (.bool false)∧Below w0.heap.size w0 w':=by
 refine sx_enter (args:=[grp P Q G H,num K,hsv h,sgv C S]) Tryd.func11 rfl Tryd.ntmps11 (by rfl) fun a F HM=>?_
 repeat (first | refine ex_then ?_ | refine ex_block ?_ | refine wp_seq ?_ | refine wp_block ?_ | refine wp_skip ?_)
 refine wp_region_lit ?_
 refine lx_new F HM (wanted_none rfl _) rfl (by rfl) (o_boxG (F.ev rfl)) fun a w gg F HM=>?_
 refine lx_new F HM (wanted_none rfl _) rfl (by rfl) (o_boxN (F.ev rfl)) fun a w gk F HM=>?_
 refine lx_new F HM (wanted_none rfl _) rfl (by rfl) (o_boxH (F.ev rfl)) fun a w gh F HM=>?_
 refine lx_new F HM (wanted_none rfl _) rfl (by rfl) (o_boxS (F.ev rfl)) fun a w gs F HM=>?_
 refine lx_value (v:=.bool false) F (wanted_none rfl _) rfl (by rfl) (o_assign rfl) fun a F=>?_
 refine lx_nil ?_
 repeat (first | refine ex_then ?_ | refine ex_block ?_ | refine wp_seq ?_ | refine wp_block ?_ | refine wp_skip ?_)
 refine wp_region_lit ?_
 refine lx_value (v:=grp P Q G H) F (wanted_none rfl _) rfl (by rfl) (o_loadG (F.ev rfl) (HM.get 3 rfl)) fun a F=>?_
 refine lx_value (v:=.pointer (some ⟨gs,0,none⟩)) F (wanted_none rfl _) rfl (by rfl) (o_fldS0 (F.ev rfl)) fun a F=>?_
 refine lx_value (v:=num C) F (wanted_none rfl _) rfl (by rfl) (o_ldS0 (F.ev rfl) (HM.get 0 rfl)) fun a F=>?_
 refine lx_value (v:=.pointer (some ⟨gs,4,none⟩)) F (wanted_none rfl _) rfl (by rfl) (o_fldS1 (F.ev rfl)) fun a F=>?_
 refine lx_value (v:=num S) F (wanted_none rfl _) rfl (by rfl) (o_ldS4 (F.ev rfl) (HM.get 0 rfl)) fun a F=>?_
 refine lx_rowM F HM (wanted_none rfl _) rfl (by rfl) (o_slice2 (F.ev rfl) (F.ev rfl)) fun a w gr F HM=>?_
 refine lx_call F (wanted_none rfl _) rfl (by rfl) (run_callF Tryd.func22 (by kernel_rfl) (by rfl) (.cons (F.ev rfl) (.cons (F.ev rfl) .nil)) _) (areS_is P Q G H 2 2 _ [C,S] _ he hQ (rn_2 (HM.get 0 rfl) hC hS)) fun a w z F=>?_
 replace HM:=HM.on z
 clear z
 refine lx_value (v:=.bool false) F (wanted_none rfl _) rfl (by rfl) (o_not (b:=true) (r:=false) (F.ev rfl) rfl) fun a F=>?_
 refine lx_value (v:=.bool false) F (wanted_none rfl _) rfl (by rfl) (o_move (F.ev rfl)) fun a F=>?_
 refine lx_value (v:=grp P Q G H) F (F.want (t:=21) (c:=false) rfl rfl rfl (by rfl) rfl) rfl (by rfl) (o_loadG (F.ev rfl) (HM.get 4 rfl)) fun a F=>?_
 refine lx_value (v:=num K) F (F.want (t:=21) (c:=false) rfl rfl rfl (by rfl) rfl) rfl (by rfl) (o_loadN (F.ev rfl) (HM.get 3 rfl)) fun a F=>?_
 refine lx_call F (F.want (t:=21) (c:=false) rfl rfl rfl (by rfl) rfl) rfl (by rfl) (run_callF Tryd.func24 (by kernel_rfl) (by rfl) (.cons (F.ev rfl) (.cons (F.ev rfl) .nil)) _) ((fun w=>isKey_is P Q G H K hk hP hQ hK w) _) fun a w z F=>?_
 replace HM:=HM.on z
 clear z
 refine lx_value (v:=.bool true) F (F.want (t:=21) (c:=false) rfl rfl rfl (by rfl) rfl) rfl (by rfl) (o_not (b:=false) (r:=true) (F.ev rfl) rfl) fun a F=>?_
 refine lx_value (v:=.bool true) F (wanted_none rfl _) rfl (by rfl) (o_pick (b:=false) (r:=.bool true) (F.ev rfl) rfl (F.ev rfl) rfl) fun a F=>?_
 refine lx_nil ?_
 repeat (first | refine ex_then ?_ | refine ex_block ?_ | refine wp_seq ?_ | refine wp_block ?_ | refine wp_skip ?_)
 refine wp_cond_true (F.ev rfl) ?_
 repeat (first | refine ex_then ?_ | refine ex_block ?_ | refine wp_seq ?_ | refine wp_block ?_ | refine wp_skip ?_)
 refine wp_region_lit ?_
 refine lx_value (v:=.bool false) F (wanted_none rfl _) rfl (by rfl) (o_assign rfl) fun a F=>?_
 refine lx_nil ?_
 repeat (first | refine ex_then ?_ | refine ex_block ?_ | refine wp_seq ?_ | refine wp_block ?_ | refine wp_skip ?_)
 refine wp_ret ?_
 repeat (first | refine ex_thenR ?_ | refine ex_blockR ?_)
 exact sx_ret F HM (res_tmp F rfl (s:=8) rfl)

set_option maxRecDepth 100000 in
set_option maxHeartbeats 800000 in
theorem chk_3 (P Q G H K C S:Nat) (h:Nat→Nat) (hP:P<2^256) (hQ:Q<2^256) (hG:G<2^256) (hK:K<2^256) (hC:C<2^256) (hS:S<2^256) (w0:World) (he:expB Q [C,S]=true) (hk:keyB P Q K=true) (L:Nat) (hL:(0+Q-C)%Q=L) (hp:prB P [G,K] [S,L]=false):Calls Tryd.prog 11 #[grp P Q G H,num K,hsv h,sgv C S] w0 fun e w'=>e=.returned (.bool false)∧Below w0.heap.size w0 w':=by
 refine sx_enter (args:=[grp P Q G H,num K,hsv h,sgv C S]) Tryd.func11 rfl Tryd.ntmps11 (by rfl) fun a F HM=>?_
 repeat (first | refine ex_then ?_ | refine ex_block ?_ | refine wp_seq ?_ | refine wp_block ?_ | refine wp_skip ?_)
 refine wp_region_lit ?_
 refine lx_new F HM (wanted_none rfl _) rfl (by rfl) (o_boxG (F.ev rfl)) fun a w gg F HM=>?_
 refine lx_new F HM (wanted_none rfl _) rfl (by rfl) (o_boxN (F.ev rfl)) fun a w gk F HM=>?_
 refine lx_new F HM (wanted_none rfl _) rfl (by rfl) (o_boxH (F.ev rfl)) fun a w gh F HM=>?_
 refine lx_new F HM (wanted_none rfl _) rfl (by rfl) (o_boxS (F.ev rfl)) fun a w gs F HM=>?_
 refine lx_value (v:=.bool false) F (wanted_none rfl _) rfl (by rfl) (o_assign rfl) fun a F=>?_
 refine lx_nil ?_
 repeat (first | refine ex_then ?_ | refine ex_block ?_ | refine wp_seq ?_ | refine wp_block ?_ | refine wp_skip ?_)
 refine wp_region_lit ?_
 refine lx_value (v:=grp P Q G H) F (wanted_none rfl _) rfl (by rfl) (o_loadG (F.ev rfl) (HM.get 3 rfl)) fun a F=>?_
 refine lx_value (v:=.pointer (some ⟨gs,0,none⟩)) F (wanted_none rfl _) rfl (by rfl) (o_fldS0 (F.ev rfl)) fun a F=>?_
 refine lx_value (v:=num C) F (wanted_none rfl _) rfl (by rfl) (o_ldS0 (F.ev rfl) (HM.get 0 rfl)) fun a F=>?_
 refine lx_value (v:=.pointer (some ⟨gs,4,none⟩)) F (wanted_none rfl _) rfl (by rfl) (o_fldS1 (F.ev rfl)) fun a F=>?_
 refine lx_value (v:=num S) F (wanted_none rfl _) rfl (by rfl) (o_ldS4 (F.ev rfl) (HM.get 0 rfl)) fun a F=>?_
 refine lx_rowM F HM (wanted_none rfl _) rfl (by rfl) (o_slice2 (F.ev rfl) (F.ev rfl)) fun a w gr F HM=>?_
 refine lx_call F (wanted_none rfl _) rfl (by rfl) (run_callF Tryd.func22 (by kernel_rfl) (by rfl) (.cons (F.ev rfl) (.cons (F.ev rfl) .nil)) _) (areS_is P Q G H 2 2 _ [C,S] _ he hQ (rn_2 (HM.get 0 rfl) hC hS)) fun a w z F=>?_
 replace HM:=HM.on z
 clear z
 refine lx_value (v:=.bool false) F (wanted_none rfl _) rfl (by rfl) (o_not (b:=true) (r:=false) (F.ev rfl) rfl) fun a F=>?_
 refine lx_value (v:=.bool false) F (wanted_none rfl _) rfl (by rfl) (o_move (F.ev rfl)) fun a F=>?_
 refine lx_value (v:=grp P Q G H) F (F.want (t:=21) (c:=false) rfl rfl rfl (by rfl) rfl) rfl (by rfl) (o_loadG (F.ev rfl) (HM.get 4 rfl)) fun a F=>?_
 refine lx_value (v:=num K) F (F.want (t:=21) (c:=false) rfl rfl rfl (by rfl) rfl) rfl (by rfl) (o_loadN (F.ev rfl) (HM.get 3 rfl)) fun a F=>?_
 refine lx_call F (F.want (t:=21) (c:=false) rfl rfl rfl (by rfl) rfl) rfl (by rfl) (run_callF Tryd.func24 (by kernel_rfl) (by rfl) (.cons (F.ev rfl) (.cons (F.ev rfl) .nil)) _) ((fun w=>isKey_is P Q G H K hk hP hQ hK w) _) fun a w z F=>?_
 replace HM:=HM.on z
 clear z
 refine lx_value (v:=.bool false) F (F.want (t:=21) (c:=false) rfl rfl rfl (by rfl) rfl) rfl (by rfl) (o_not (b:=true) (r:=false) (F.ev rfl) rfl) fun a F=>?_
 refine lx_value (v:=.bool false) F (wanted_none rfl _) rfl (by rfl) (o_pick (b:=false) (r:=.bool false) (F.ev rfl) rfl (F.ev rfl) rfl) fun a F=>?_
 refine lx_nil ?_
 repeat (first | refine ex_then ?_ | refine ex_block ?_ | refine wp_seq ?_ | refine wp_block ?_ | refine wp_skip ?_)
 refine wp_cond_false (F.ev rfl) ?_
 replace HM:=HM.erase 0 (M2:=[(gs,30,sgc C S),(gh,28,hcs h),(gk,24,ncs K),(gg,26,gcs P Q G H)]) rfl
 obtain ⟨⟨hq1,hCQ⟩,⟨_,hSQ⟩⟩:(1<Q∧C<Q)∧(1<Q∧S<Q):=⟨expB_all he C (by simp),expB_all he S (by simp)⟩
 have hL2:L<2^256:=by rw [← hL];exact Nat.lt_trans (Nat.mod_lt _ (by omega)) hQ
 have cl:∀ w,Calls Tryd.prog 13 #[grp P Q G H,num 0,num C] w fun e w'=>e=.returned (.tuple #[num L,.int .i64 0])∧Below w.heap.size w w':=fun w=>by rw [← hL];exact ssub_yes P Q G H 0 C hQ hq1 (by omega) hCQ w
 repeat (first | refine ex_then ?_ | refine ex_block ?_ | refine wp_seq ?_ | refine wp_block ?_ | refine wp_skip ?_)
 refine wp_region_lit ?_
 refine lx_value (v:=grp P Q G H) F (wanted_none rfl _) rfl (by rfl) (o_loadG (F.ev rfl) (HM.get 3 rfl)) fun a F=>?_
 refine lx_value (v:=num 0) F (wanted_none rfl _) rfl (by rfl) (o_build0) fun a F=>?_
 refine lx_value (v:=.pointer (some ⟨gs,0,none⟩)) F (wanted_none rfl _) rfl (by rfl) (o_fldS0 (F.ev rfl)) fun a F=>?_
 refine lx_value (v:=num C) F (wanted_none rfl _) rfl (by rfl) (o_ldS0 (F.ev rfl) (HM.get 0 rfl)) fun a F=>?_
 refine lx_call F (wanted_none rfl _) rfl (by rfl) (run_callF Tryd.func13 (by kernel_rfl) (by rfl) (.cons (F.ev rfl) (.cons (F.ev rfl) (.cons (F.ev rfl) .nil))) _) (cl _) fun a w z F=>?_
 replace HM:=HM.on z
 clear z
 refine lx_value (v:=.tuple #[num L,.int .i64 0]) F (wanted_none rfl _) rfl (by rfl) (o_move (F.ev rfl)) fun a F=>?_
 refine lx_value (v:=num L) F (wanted_none rfl _) rfl (by rfl) (o_extract (F.ev rfl) rfl) fun a F=>?_
 refine lx_value (v:=.int .i64 0) F (wanted_none rfl _) rfl (by rfl) (o_extract (F.ev rfl) rfl) fun a F=>?_
 refine lx_new F HM (wanted_none rfl _) rfl (by rfl) (o_allocN) fun a w gl F HM=>?_
 refine lx_store F HM (wanted_none rfl _) rfl (k:=0) rfl (o_storeN (F.ev rfl) (F.ev rfl) (HM.get 0 rfl)) (M2:=[(gl,24,ncs L),(gs,30,sgc C S),(gh,28,hcs h),(gk,24,ncs K),(gg,26,gcs P Q G H)]) (rfl) fun w HM=>?_
 refine lx_value (v:=.int .i64 0) F (wanted_none rfl _) rfl (by rfl) (o_assign (F.ev rfl)) fun a F=>?_
 refine lx_nil ?_
 repeat (first | refine ex_then ?_ | refine ex_block ?_ | refine wp_seq ?_ | refine wp_block ?_ | refine wp_skip ?_)
 refine wp_region_lit ?_
 refine lx_value (v:=grp P Q G H) F (wanted_none rfl _) rfl (by rfl) (o_loadG (F.ev rfl) (HM.get 4 rfl)) fun a F=>?_
 refine lx_value (v:=.pointer (some ⟨gg,8,none⟩)) F (wanted_none rfl _) rfl (by rfl) (o_fieldG2 (F.ev rfl)) fun a F=>?_
 refine lx_value (v:=num G) F (wanted_none rfl _) rfl (by rfl) (o_loadG2 (F.ev rfl) (HM.get 4 rfl)) fun a F=>?_
 refine lx_value (v:=num K) F (wanted_none rfl _) rfl (by rfl) (o_loadN (F.ev rfl) (HM.get 3 rfl)) fun a F=>?_
 refine lx_rowM F HM (wanted_none rfl _) rfl (by rfl) (o_slice2 (F.ev rfl) (F.ev rfl)) fun a w ga F HM=>?_
 refine lx_value (v:=.pointer (some ⟨gs,4,none⟩)) F (wanted_none rfl _) rfl (by rfl) (o_fldS1 (F.ev rfl)) fun a F=>?_
 refine lx_value (v:=num S) F (wanted_none rfl _) rfl (by rfl) (o_ldS4 (F.ev rfl) (HM.get 2 rfl)) fun a F=>?_
 refine lx_value (v:=num L) F (wanted_none rfl _) rfl (by rfl) (o_loadN (F.ev rfl) (HM.get 1 rfl)) fun a F=>?_
 refine lx_rowM F HM (wanted_none rfl _) rfl (by rfl) (o_slice2 (F.ev rfl) (F.ev rfl)) fun a w gb F HM=>?_
 refine lx_call F (wanted_none rfl _) rfl (by rfl) (run_callF Tryd.func25 (by kernel_rfl) (by rfl) (.cons (F.ev rfl) (.cons (F.ev rfl) (.cons (F.ev rfl) .nil))) _) (prod_n P Q G H 2 2 2 2 _ _ [G,K] [S,L] hP _ (by rw [hp];decide) (rn_2 (HM.get 1 rfl) hG hK) (rn_2 (HM.get 0 rfl) hS hL2)) fun a w z F=>?_
 replace HM:=HM.on z
 clear z
 refine lx_value (v:=.tuple #[num 0,.int .i64 1]) F (wanted_none rfl _) rfl (by rfl) (o_move (F.ev rfl)) fun a F=>?_
 refine lx_value (v:=num 0) F (wanted_none rfl _) rfl (by rfl) (o_extract (F.ev rfl) rfl) fun a F=>?_
 refine lx_value (v:=.int .i64 1) F (wanted_none rfl _) rfl (by rfl) (o_extract (F.ev rfl) rfl) fun a F=>?_
 refine lx_new F HM (wanted_none rfl _) rfl (by rfl) (o_allocN) fun a w gn F HM=>?_
 refine lx_store F HM (wanted_none rfl _) rfl (k:=0) rfl (o_storeN (F.ev rfl) (F.ev rfl) (HM.get 0 rfl)) (M2:=[(gn,24,ncs 0),(gb,24,(rows2 S L)),(ga,24,(rows2 G K)),(gl,24,ncs L),(gs,30,sgc C S),(gh,28,hcs h),(gk,24,ncs K),(gg,26,gcs P Q G H)]) (rfl) fun w HM=>?_
 refine lx_value (v:=.int .i64 1) F (wanted_none rfl _) rfl (by rfl) (o_assign (F.ev rfl)) fun a F=>?_
 refine lx_nil ?_
 repeat (first | refine ex_then ?_ | refine ex_block ?_ | refine wp_seq ?_ | refine wp_block ?_ | refine wp_skip ?_)
 refine sx_enterR (S:=fun w'=>Mem _ _ w' [(gn,24,ncs 0),(gb,24,(rows2 S L)),(ga,24,(rows2 G K)),(gl,24,ncs L),(gs,30,sgc C S),(gh,28,hcs h),(gk,24,ncs K),(gg,26,gcs P Q G H)]) HM (fun _ h=>h) (by kernel_rfl) fun w HM HBW=>?_
 clear HBW
 try simp only [List.append_eq,List.cons_append,List.nil_append]
 refine sx_batch [⟨0,48,[],.val (.int .i64 1),true⟩,
   ⟨1,49,[0],.val (.bool false),true⟩,
   ⟨2,50,[1],.val (.bool false),true⟩,
   ⟨3,51,[2],.val undef,true⟩,
   ⟨4,52,[2,3],.val undef,true⟩,
   ⟨5,53,[2,4],.val undef,true⟩,
   ⟨6,54,[2,5],.val undef,true⟩,
   ⟨8,56,[2,6],.val undef,true⟩,
   ⟨10,58,[2,7],.val undef,true⟩,
   ⟨11,59,[2,8],.val undef,true⟩,
   ⟨7,55,[2,4,5,6,9],.val undef,true⟩,
   ⟨9,57,[2,7,10],.val undef,true⟩,
   ⟨12,60,[2,9,11],.val undef,true⟩,
   ⟨13,61,[2,3,12],.val undef,true⟩,
   ⟨14,62,[2,13],.val (.bool false),true⟩] 1 _ F HM (fun _ h=>h.subl (by first | exact List.Sublist.refl _ | (repeat (first | exact List.Sublist.refl _ | refine List.Sublist.cons_cons _ ?_ | refine List.Sublist.cons _ ?_)))) (by kernel_rfl) (by rfl) ?_ ?_ ?_ ?_ ?_ ?_ ?_
 ·kernel_rfl
 ·exact of_decide_eq_true (by kernel_rfl)
 ·(repeat refine all_cons ⟨_,by rfl,by rfl⟩ ?_);exact all_nil
 ·kernel_rfl
 ·(repeat (refine all_cons ?_ ?_;rotate_left));exact all_nil
  ·exact coreS _ _ _ _ _ _ _ (by rfl) (by rfl) (wants_none) (fun ρ w kn hs=>o_move (kn _ _ (F.old (by rfl) rfl)))
  ·exact coreS _ _ _ _ _ _ _ (by rfl) (by rfl) (wants_none) (fun ρ w kn hs=>o_bin (u:=.int .i64 1) (v:=.int .i64 0) (fun ρ hx hy=>by simp only [execOp,hx,hy];simp [go_sem]) (kn _ _ (kc 0 48)) (kn _ _ (known_const _)))
  ·exact coreS _ _ _ _ _ _ _ (by rfl) (by rfl) (wants_none) (fun ρ w kn hs=>o_move (kn _ _ (kc 1 49)))
  ·exact coreG_skip _ _ _ _ _ _ (by rfl) (by rfl) (wc 2 50 2 (kc 2 50))
  ·exact coreG_skip _ _ _ _ _ _ (by rfl) (by rfl) (wc 2 50 2 (kc 2 50))
  ·exact coreG_skip _ _ _ _ _ _ (by rfl) (by rfl) (wc 2 50 2 (kc 2 50))
  ·exact coreG_skip _ _ _ _ _ _ (by rfl) (by rfl) (wc 2 50 2 (kc 2 50))
  ·exact coreG_skip _ _ _ _ _ _ (by rfl) (by rfl) (wc 2 50 2 (kc 2 50))
  ·exact coreG_skip _ _ _ _ _ _ (by rfl) (by rfl) (wc 2 50 2 (kc 2 50))
  ·exact coreG_skip _ _ _ _ _ _ (by rfl) (by rfl) (wc 2 50 2 (kc 2 50))
  ·exact coreG_skip _ _ _ _ _ _ (by rfl) (by rfl) (wc 2 50 2 (kc 2 50))
  ·exact coreG_skip _ _ _ _ _ _ (by rfl) (by rfl) (wc 2 50 2 (kc 2 50))
  ·exact coreG_skip _ _ _ _ _ _ (by rfl) (by rfl) (wc 2 50 2 (kc 2 50))
  ·exact coreG_skip _ _ _ _ _ _ (by rfl) (by rfl) (wc 2 50 2 (kc 2 50))
  ·exact coreS _ _ _ _ _ _ _ (by rfl) (by rfl) (wants_none) (fun ρ w kn hs=>o_pick (b:=false) (r:=.bool false) (kn _ _ (kc 2 50)) (kn _ _ (kc 13 61)) (kn _ _ (known_const _)) rfl)
 ·(repeat (refine all_cons ?_ ?_;rotate_left));exact all_nil
  ·exact sA
  ·exact sA
  ·exact sA
  ·exact sA
  ·exact sA
  ·exact sA
  ·exact sA
  ·exact sA
  ·exact sA
  ·exact sA
  ·exact sA
  ·exact sA
  ·exact sA
  ·exact sA
  ·exact sA
 intro gs rs a w hgs hrs F HM HBW HR HO HT
 obtain rfl:=nl0 rs hrs
 obtain rfl:=nl0 gs hgs
 clear hrs hgs HR HBW HO
 clear HT
 refine sx_assign (i:=15) (d:=8) (x:=.tmp 62) (v:=.bool false) F ((HM.subl (by first | exact List.Sublist.refl _ | (repeat (first | exact List.Sublist.refl _ | refine List.Sublist.cons_cons _ ?_ | refine List.Sublist.cons _ ?_))))) (by kernel_rfl) (by rfl) (by rfl) (F.ev rfl) fun a F=>?_
 refine sx_done (by kernel_rfl) ?_ _
 repeat (first | refine ex_then ?_ | refine ex_block ?_ | refine wp_seq ?_ | refine wp_block ?_ | refine wp_skip ?_)
 refine wp_ret ?_
 repeat (first | refine ex_thenR ?_ | refine ex_blockR ?_)
 exact sx_ret F HM (res_tmp F rfl (s:=8) rfl)

set_option maxRecDepth 100000 in
set_option maxHeartbeats 800000 in
theorem chk_4 (P Q G H K C S:Nat) (h:Nat→Nat) (hP:P<2^256) (hQ:Q<2^256) (hG:G<2^256) (hK:K<2^256) (hC:C<2^256) (hS:S<2^256) (w0:World) (he:expB Q [C,S]=true) (hk:keyB P Q K=true) (L:Nat) (hL:(0+Q-C)%Q=L) (hp:prB P [G,K] [S,L]=true) (hh:∀ i,h i<256) (T:By.Tabs w0) (N c:Nat) (b:Bool) (hN:prV P [G,K] [S,L]=N) (hc:chl Q K N h=c) (hb:decide (C=c∧S=S)=b):Calls Tryd.prog 11 #[grp P Q G H,num K,hsv h,sgv C S] w0 fun e w'=>e=.returned (.bool b)∧Below w0.heap.size w0 w':=by
 refine sx_enter (args:=[grp P Q G H,num K,hsv h,sgv C S]) Tryd.func11 rfl Tryd.ntmps11 (by rfl) fun a F HM=>?_
 repeat (first | refine ex_then ?_ | refine ex_block ?_ | refine wp_seq ?_ | refine wp_block ?_ | refine wp_skip ?_)
 refine wp_region_lit ?_
 refine lx_new F HM (wanted_none rfl _) rfl (by rfl) (o_boxG (F.ev rfl)) fun a w gg F HM=>?_
 refine lx_new F HM (wanted_none rfl _) rfl (by rfl) (o_boxN (F.ev rfl)) fun a w gk F HM=>?_
 refine lx_new F HM (wanted_none rfl _) rfl (by rfl) (o_boxH (F.ev rfl)) fun a w gh F HM=>?_
 refine lx_new F HM (wanted_none rfl _) rfl (by rfl) (o_boxS (F.ev rfl)) fun a w gs F HM=>?_
 refine lx_value (v:=.bool false) F (wanted_none rfl _) rfl (by rfl) (o_assign rfl) fun a F=>?_
 refine lx_nil ?_
 repeat (first | refine ex_then ?_ | refine ex_block ?_ | refine wp_seq ?_ | refine wp_block ?_ | refine wp_skip ?_)
 refine wp_region_lit ?_
 refine lx_value (v:=grp P Q G H) F (wanted_none rfl _) rfl (by rfl) (o_loadG (F.ev rfl) (HM.get 3 rfl)) fun a F=>?_
 refine lx_value (v:=.pointer (some ⟨gs,0,none⟩)) F (wanted_none rfl _) rfl (by rfl) (o_fldS0 (F.ev rfl)) fun a F=>?_
 refine lx_value (v:=num C) F (wanted_none rfl _) rfl (by rfl) (o_ldS0 (F.ev rfl) (HM.get 0 rfl)) fun a F=>?_
 refine lx_value (v:=.pointer (some ⟨gs,4,none⟩)) F (wanted_none rfl _) rfl (by rfl) (o_fldS1 (F.ev rfl)) fun a F=>?_
 refine lx_value (v:=num S) F (wanted_none rfl _) rfl (by rfl) (o_ldS4 (F.ev rfl) (HM.get 0 rfl)) fun a F=>?_
 refine lx_rowM F HM (wanted_none rfl _) rfl (by rfl) (o_slice2 (F.ev rfl) (F.ev rfl)) fun a w gr F HM=>?_
 refine lx_call F (wanted_none rfl _) rfl (by rfl) (run_callF Tryd.func22 (by kernel_rfl) (by rfl) (.cons (F.ev rfl) (.cons (F.ev rfl) .nil)) _) (areS_is P Q G H 2 2 _ [C,S] _ he hQ (rn_2 (HM.get 0 rfl) hC hS)) fun a w z F=>?_
 replace HM:=HM.on z
 clear z
 refine lx_value (v:=.bool false) F (wanted_none rfl _) rfl (by rfl) (o_not (b:=true) (r:=false) (F.ev rfl) rfl) fun a F=>?_
 refine lx_value (v:=.bool false) F (wanted_none rfl _) rfl (by rfl) (o_move (F.ev rfl)) fun a F=>?_
 refine lx_value (v:=grp P Q G H) F (F.want (t:=21) (c:=false) rfl rfl rfl (by rfl) rfl) rfl (by rfl) (o_loadG (F.ev rfl) (HM.get 4 rfl)) fun a F=>?_
 refine lx_value (v:=num K) F (F.want (t:=21) (c:=false) rfl rfl rfl (by rfl) rfl) rfl (by rfl) (o_loadN (F.ev rfl) (HM.get 3 rfl)) fun a F=>?_
 refine lx_call F (F.want (t:=21) (c:=false) rfl rfl rfl (by rfl) rfl) rfl (by rfl) (run_callF Tryd.func24 (by kernel_rfl) (by rfl) (.cons (F.ev rfl) (.cons (F.ev rfl) .nil)) _) ((fun w=>isKey_is P Q G H K hk hP hQ hK w) _) fun a w z F=>?_
 replace HM:=HM.on z
 clear z
 refine lx_value (v:=.bool false) F (F.want (t:=21) (c:=false) rfl rfl rfl (by rfl) rfl) rfl (by rfl) (o_not (b:=true) (r:=false) (F.ev rfl) rfl) fun a F=>?_
 refine lx_value (v:=.bool false) F (wanted_none rfl _) rfl (by rfl) (o_pick (b:=false) (r:=.bool false) (F.ev rfl) rfl (F.ev rfl) rfl) fun a F=>?_
 refine lx_nil ?_
 repeat (first | refine ex_then ?_ | refine ex_block ?_ | refine wp_seq ?_ | refine wp_block ?_ | refine wp_skip ?_)
 refine wp_cond_false (F.ev rfl) ?_
 replace HM:=HM.erase 0 (M2:=[(gs,30,sgc C S),(gh,28,hcs h),(gk,24,ncs K),(gg,26,gcs P Q G H)]) rfl
 obtain ⟨⟨hq1,hCQ⟩,⟨_,hSQ⟩⟩:(1<Q∧C<Q)∧(1<Q∧S<Q):=⟨expB_all he C (by simp),expB_all he S (by simp)⟩
 have hL2:L<2^256:=by rw [← hL];exact Nat.lt_trans (Nat.mod_lt _ (by omega)) hQ
 have cl:∀ w,Calls Tryd.prog 13 #[grp P Q G H,num 0,num C] w fun e w'=>e=.returned (.tuple #[num L,.int .i64 0])∧Below w.heap.size w w':=fun w=>by rw [← hL];exact ssub_yes P Q G H 0 C hQ hq1 (by omega) hCQ w
 repeat (first | refine ex_then ?_ | refine ex_block ?_ | refine wp_seq ?_ | refine wp_block ?_ | refine wp_skip ?_)
 refine wp_region_lit ?_
 refine lx_value (v:=grp P Q G H) F (wanted_none rfl _) rfl (by rfl) (o_loadG (F.ev rfl) (HM.get 3 rfl)) fun a F=>?_
 refine lx_value (v:=num 0) F (wanted_none rfl _) rfl (by rfl) (o_build0) fun a F=>?_
 refine lx_value (v:=.pointer (some ⟨gs,0,none⟩)) F (wanted_none rfl _) rfl (by rfl) (o_fldS0 (F.ev rfl)) fun a F=>?_
 refine lx_value (v:=num C) F (wanted_none rfl _) rfl (by rfl) (o_ldS0 (F.ev rfl) (HM.get 0 rfl)) fun a F=>?_
 refine lx_call F (wanted_none rfl _) rfl (by rfl) (run_callF Tryd.func13 (by kernel_rfl) (by rfl) (.cons (F.ev rfl) (.cons (F.ev rfl) (.cons (F.ev rfl) .nil))) _) (cl _) fun a w z F=>?_
 replace HM:=HM.on z
 clear z
 refine lx_value (v:=.tuple #[num L,.int .i64 0]) F (wanted_none rfl _) rfl (by rfl) (o_move (F.ev rfl)) fun a F=>?_
 refine lx_value (v:=num L) F (wanted_none rfl _) rfl (by rfl) (o_extract (F.ev rfl) rfl) fun a F=>?_
 refine lx_value (v:=.int .i64 0) F (wanted_none rfl _) rfl (by rfl) (o_extract (F.ev rfl) rfl) fun a F=>?_
 refine lx_new F HM (wanted_none rfl _) rfl (by rfl) (o_allocN) fun a w gl F HM=>?_
 refine lx_store F HM (wanted_none rfl _) rfl (k:=0) rfl (o_storeN (F.ev rfl) (F.ev rfl) (HM.get 0 rfl)) (M2:=[(gl,24,ncs L),(gs,30,sgc C S),(gh,28,hcs h),(gk,24,ncs K),(gg,26,gcs P Q G H)]) (rfl) fun w HM=>?_
 refine lx_value (v:=.int .i64 0) F (wanted_none rfl _) rfl (by rfl) (o_assign (F.ev rfl)) fun a F=>?_
 refine lx_nil ?_
 repeat (first | refine ex_then ?_ | refine ex_block ?_ | refine wp_seq ?_ | refine wp_block ?_ | refine wp_skip ?_)
 refine wp_region_lit ?_
 refine lx_value (v:=grp P Q G H) F (wanted_none rfl _) rfl (by rfl) (o_loadG (F.ev rfl) (HM.get 4 rfl)) fun a F=>?_
 refine lx_value (v:=.pointer (some ⟨gg,8,none⟩)) F (wanted_none rfl _) rfl (by rfl) (o_fieldG2 (F.ev rfl)) fun a F=>?_
 refine lx_value (v:=num G) F (wanted_none rfl _) rfl (by rfl) (o_loadG2 (F.ev rfl) (HM.get 4 rfl)) fun a F=>?_
 refine lx_value (v:=num K) F (wanted_none rfl _) rfl (by rfl) (o_loadN (F.ev rfl) (HM.get 3 rfl)) fun a F=>?_
 refine lx_rowM F HM (wanted_none rfl _) rfl (by rfl) (o_slice2 (F.ev rfl) (F.ev rfl)) fun a w ga F HM=>?_
 refine lx_value (v:=.pointer (some ⟨gs,4,none⟩)) F (wanted_none rfl _) rfl (by rfl) (o_fldS1 (F.ev rfl)) fun a F=>?_
 refine lx_value (v:=num S) F (wanted_none rfl _) rfl (by rfl) (o_ldS4 (F.ev rfl) (HM.get 2 rfl)) fun a F=>?_
 refine lx_value (v:=num L) F (wanted_none rfl _) rfl (by rfl) (o_loadN (F.ev rfl) (HM.get 1 rfl)) fun a F=>?_
 refine lx_rowM F HM (wanted_none rfl _) rfl (by rfl) (o_slice2 (F.ev rfl) (F.ev rfl)) fun a w gb F HM=>?_
 refine lx_call F (wanted_none rfl _) rfl (by rfl) (run_callF Tryd.func25 (by kernel_rfl) (by rfl) (.cons (F.ev rfl) (.cons (F.ev rfl) (.cons (F.ev rfl) .nil))) _) (prod_L P Q G H 2 2 2 2 _ _ [G,K] [S,L] N hP _ hp hN (rn_2 (HM.get 1 rfl) hG hK) (rn_2 (HM.get 0 rfl) hS hL2)) fun a w z F=>?_
 replace HM:=HM.on z
 clear z
 refine lx_value (v:=.tuple #[num N,.int .i64 0]) F (wanted_none rfl _) rfl (by rfl) (o_move (F.ev rfl)) fun a F=>?_
 refine lx_value (v:=num N) F (wanted_none rfl _) rfl (by rfl) (o_extract (F.ev rfl) rfl) fun a F=>?_
 refine lx_value (v:=.int .i64 0) F (wanted_none rfl _) rfl (by rfl) (o_extract (F.ev rfl) rfl) fun a F=>?_
 refine lx_new F HM (wanted_none rfl _) rfl (by rfl) (o_allocN) fun a w gn F HM=>?_
 refine lx_store F HM (wanted_none rfl _) rfl (k:=0) rfl (o_storeN (F.ev rfl) (F.ev rfl) (HM.get 0 rfl)) (M2:=[(gn,24,ncs N),(gb,24,(rows2 S L)),(ga,24,(rows2 G K)),(gl,24,ncs L),(gs,30,sgc C S),(gh,28,hcs h),(gk,24,ncs K),(gg,26,gcs P Q G H)]) (rfl) fun w HM=>?_
 refine lx_value (v:=.int .i64 0) F (wanted_none rfl _) rfl (by rfl) (o_assign (F.ev rfl)) fun a F=>?_
 refine lx_nil ?_
 have hc2:c<2^256:=by rw [← hc];exact chl_256 hQ _ _ _
 repeat (first | refine ex_then ?_ | refine ex_block ?_ | refine wp_seq ?_ | refine wp_block ?_ | refine wp_skip ?_)
 refine sx_enterR (S:=fun w'=>Mem _ _ w' [(gn,24,ncs N),(gb,24,(rows2 S L)),(ga,24,(rows2 G K)),(gl,24,ncs L),(gs,30,sgc C S),(gh,28,hcs h),(gk,24,ncs K),(gg,26,gcs P Q G H)]) HM (fun _ h=>h) (by kernel_rfl) fun w HM HBW=>?_
 clear HBW
 try simp only [List.append_eq,List.cons_append,List.nil_append]
 refine sx_batch [⟨0,48,[],.val (.int .i64 0),true⟩,
   ⟨1,49,[0],.val (.bool true),true⟩,
   ⟨2,50,[1],.val (.bool true),true⟩,
   ⟨3,51,[2],.val (sgv C S),true⟩,
   ⟨4,52,[2,3],.val (grp P Q G H),true⟩,
   ⟨5,53,[2,4],.val (num K),true⟩,
   ⟨6,54,[2,5],.val (hsv h),true⟩,
   ⟨8,56,[2,6],.val (num N),true⟩,
   ⟨10,58,[2,7],.val (.pointer (some ⟨gs,4,none⟩)),true⟩,
   ⟨11,59,[2,8],.val (num S),true⟩,
   ⟨7,55,[2,4,5,6,9],.clo (fun g=>cloV g) (CloQ P Q G H K h) (⟨cloI,fun _ _ _ h hb=>h.on hb⟩),false⟩,
   ⟨9,57,[2,7,10],.val (num c),false⟩,
   ⟨12,60,[2,9,11],.val (sgv c S),true⟩,
   ⟨13,61,[2,3,12],.val (.bool b),true⟩,
   ⟨14,62,[2,13],.val (.bool b),true⟩] 1 _ F HM (fun _ h=>h.subl (by first | exact List.Sublist.refl _ | (repeat (first | exact List.Sublist.refl _ | refine List.Sublist.cons_cons _ ?_ | refine List.Sublist.cons _ ?_)))) (by kernel_rfl) (by rfl) ?_ ?_ ?_ ?_ ?_ ?_ ?_
 ·kernel_rfl
 ·exact of_decide_eq_true (by kernel_rfl)
 ·(repeat refine all_cons ⟨_,by rfl,by rfl⟩ ?_);exact all_nil
 ·kernel_rfl
 ·(repeat (refine all_cons ?_ ?_;rotate_left));exact all_nil
  ·exact coreS _ _ _ _ _ _ _ (by rfl) (by rfl) (wants_none) (fun ρ w kn hs=>o_move (kn _ _ (F.old (by rfl) rfl)))
  ·exact coreS _ _ _ _ _ _ _ (by rfl) (by rfl) (wants_none) (fun ρ w kn hs=>o_bin (u:=.int .i64 0) (v:=.int .i64 0) (fun ρ hx hy=>by simp only [execOp,hx,hy];simp [go_sem]) (kn _ _ (kc 0 48)) (kn _ _ (known_const _)))
  ·exact coreS _ _ _ _ _ _ _ (by rfl) (by rfl) (wants_none) (fun ρ w kn hs=>o_move (kn _ _ (kc 1 49)))
  ·exact coreS _ _ _ _ _ _ _ (by rfl) (by rfl) (wc 2 50 2 (kc 2 50)) (fun ρ w kn hs=>o_ldS (kn _ _ (F.old (by rfl) rfl)) (hs.get 4 rfl))
  ·exact coreS _ _ _ _ _ _ _ (by rfl) (by rfl) (wc 2 50 2 (kc 2 50)) (fun ρ w kn hs=>o_loadG (kn _ _ (F.old (by rfl) rfl)) (hs.get 7 rfl))
  ·exact coreS _ _ _ _ _ _ _ (by rfl) (by rfl) (wc 2 50 2 (kc 2 50)) (fun ρ w kn hs=>o_loadN (kn _ _ (F.old (by rfl) rfl)) (hs.get 6 rfl))
  ·exact coreS _ _ _ _ _ _ _ (by rfl) (by rfl) (wc 2 50 2 (kc 2 50)) (fun ρ w kn hs=>o_ldH (kn _ _ (F.old (by rfl) rfl)) (hs.get 5 rfl))
  ·exact coreS _ _ _ _ _ _ _ (by rfl) (by rfl) (wc 2 50 2 (kc 2 50)) (fun ρ w kn hs=>o_loadN (kn _ _ (F.old (by rfl) rfl)) (hs.get 0 rfl))
  ·exact coreS _ _ _ _ _ _ _ (by rfl) (by rfl) (wc 2 50 2 (kc 2 50)) (fun ρ w kn hs=>o_fldS1 (kn _ _ (F.old (by rfl) rfl)))
  ·exact coreS _ _ _ _ _ _ _ (by rfl) (by rfl) (wc 2 50 2 (kc 2 50)) (fun ρ w kn hs=>o_ldS4 (kn _ _ (kc 8 58)) (hs.get 4 rfl))
  ·exact core_pureAs _ (by rfl)
  ·exact core_pureAs _ (by rfl)
  ·exact coreS _ _ _ _ _ _ _ (by rfl) (by rfl) (wc 2 50 2 (kc 2 50)) (fun ρ w kn hs=>o_buildS (kn _ _ (kc 11 57)) (kn _ _ (kc 9 59)))
  ·exact coreS _ _ _ _ _ _ _ (by rfl) (by rfl) (wc 2 50 2 (kc 2 50)) (fun ρ w kn hs=>o_eqSg hC hS hc2 hS hb (kn _ _ (kc 3 51)) (kn _ _ (kc 12 60)))
  ·exact coreS _ _ _ _ _ _ _ (by rfl) (by rfl) (wants_none) (fun ρ w kn hs=>o_pick (b:=true) (r:=.bool b) (kn _ _ (kc 2 50)) (kn _ _ (kc 13 61)) (kn _ _ (known_const _)) rfl)
 ·(repeat (refine all_cons ?_ ?_;rotate_left));exact all_nil
  ·exact sA
  ·exact sA
  ·exact sA
  ·exact sA
  ·exact sA
  ·exact sA
  ·exact sA
  ·exact sA
  ·exact sA
  ·exact sA
  ·intro _
   refine core_callE _ [.tmp 52,.tmp 53,.tmp 54] (.func 23) _ _ _ _ _ (by rfl) (wc 2 50 2 (kc 2 50)) (by rfl) (fun vs w hl hb hp=>?_)
   exact ⟨_,_,run_callF Tryd.func23 (by kernel_rfl) (by rfl) (.cons ((kc 4 52) vs w hl hp) (.cons ((kc 5 53) vs w hl hp) (.cons ((kc 6 54) vs w hl hp) .nil))) _,(chs_is P Q G H K h w).mono fun e w' ⟨g,he,hb,hq⟩=>⟨_,he,hb,g,rfl,hq⟩⟩
  ·intro _
   refine core_callE _ [.tmp 56] (.tmp 55) _ _ _ _ _ (by rfl) (wc 2 50 2 (kc 2 50)) (by rfl) (fun vs w hl hb hp=>?_)
   obtain ⟨gc,ec,qc⟩:=clo_of hl hp 10 55 _ (fun g=>cloV g) (CloQ P Q G H K h) (⟨cloI,fun _ _ _ h hb=>h.on hb⟩) (of_decide_eq_true (by rfl)) (by rfl) (by rfl) (by rfl)
   exact ⟨_,_,run_callVA Tryd.func38 (by kernel_rfl) (by rfl) ec (.cons ((kc 7 56) vs w hl hp) .nil) _,(chal_is P Q G H K N gc (gc+1) (gc+2) h hQ hh w ((T.on HM.bel).on hb) qc.1 qc.2.1 qc.2.2).mono fun e w' h=>⟨_,h.1.trans (by rw [hc]),h.2,rfl⟩⟩
  ·exact sA
  ·exact sA
  ·exact sA
 intro gs rs a w hgs hrs F HM HBW HR HO HT
 obtain ⟨gC,rfl⟩:=nl1 rs hrs
 obtain rfl:=nl0 gs hgs
 clear hrs hgs HR HBW HO
 obtain ⟨rC,-⟩:=HT
 refine sx_assign (i:=15) (d:=8) (x:=.tmp 62) (v:=.bool b) F ((HM.subl (by first | exact List.Sublist.refl _ | (repeat (first | exact List.Sublist.refl _ | refine List.Sublist.cons_cons _ ?_ | refine List.Sublist.cons _ ?_))))) (by kernel_rfl) (by rfl) (by rfl) (F.ev rfl) fun a F=>?_
 refine sx_done (by kernel_rfl) ?_ _
 repeat (first | refine ex_then ?_ | refine ex_block ?_ | refine wp_seq ?_ | refine wp_block ?_ | refine wp_skip ?_)
 refine wp_ret ?_
 repeat (first | refine ex_thenR ?_ | refine ex_blockR ?_)
 exact sx_ret F HM (res_tmp F rfl (s:=8) rfl)

/-- is it signed? -/
noncomputable def chkB (P Q G K:Nat) (h:Nat→Nat) (C S:Nat):Bool:=expB Q [C,S] && (keyB P Q K && (prB P [G,K] [S,(0+Q-C)%Q] && decide (C=chl Q K (prV P [G,K] [S,(0+Q-C)%Q]) h∧S=S)))
theorem chk_any (P Q G H K C S:Nat) (h:Nat→Nat) (hP:P<2^256) (hQ:Q<2^256) (hG:G<2^256) (hK:K<2^256) (hC:C<2^256) (hS:S<2^256) (w0:World) (hh:∀ i,h i<256) (T:By.Tabs w0):Calls Tryd.prog 11 #[grp P Q G H,num K,hsv h,sgv C S] w0 fun e w'=>e=.returned (.bool (chkB P Q G K h C S))∧Below w0.heap.size w0 w':=by
 unfold chkB
 rcases he:expB Q [C,S] with _ | _
 ·exact chk_1 P Q G H K C S h hP hQ hG hK hC hS w0 he
 ·rcases hk:keyB P Q K with _ | _
  ·exact chk_2 P Q G H K C S h hP hQ hG hK hC hS w0 he hk
  ·rcases hp:prB P [G,K] [S,(0+Q-C)%Q] with _ | _
   ·exact chk_3 P Q G H K C S h hP hQ hG hK hC hS w0 he hk _ rfl hp
   ·exact chk_4 P Q G H K C S h hP hQ hG hK hC hS w0 he hk _ rfl hp hh T _ _ _ rfl rfl rfl
theorem chk_is {b:Bool} (P Q G H K C S:Nat) (h:Nat→Nat) (hP:P<2^256) (hQ:Q<2^256) (hG:G<2^256) (hK:K<2^256) (hC:C<2^256) (hS:S<2^256) (w0:World) (hb:chkB P Q G K h C S=b) (hh:∀ i,h i<256) (T:By.Tabs w0):Calls Tryd.prog 11 #[grp P Q G H,num K,hsv h,sgv C S] w0 fun e w'=>e=.returned (.bool b)∧Below w0.heap.size w0 w':=by
 subst hb;exact chk_any P Q G H K C S h hP hQ hG hK hC hS w0 hh T
end Go.Proofs.YtlphnfajhpkleaaDoor
